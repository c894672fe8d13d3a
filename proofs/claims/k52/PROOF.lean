import PyProof.Rows.All
import Wide.All
import OpenK.AllK
import Wide.FinOn
import HandS.ForMost
import HandS.Wide
import HandS.WideBits
import HandS.WideMore
import HandS.More
import HandS.DictComp
import HandS.Walk
import HandS.Conv
import HandS.Flow
import HandS.TryOnly
import HandS.IsInst
import HandS.Zip
import HandS.Codes
import HandS.OwnEq
import HandS.Style
import KE.KEqNest
import HandS.SortOrd
import HandS.DictTup
import KE.KSortTupAny
import KE.KDictWalk
import KE.KDictList
import KE.KDictSum
import HandS.Comp
import HandS.WordsDict
import HandS.ListItems
import HandS.MakeKw
import HandS.CallLocal
import HandS.RevRange
import HandS.TupLen
import HandS.Deep
import HandS.Defaults
import HandS.ExcInit
import HandS.ExcValue
import HandS.MakeKwOnly
import HandS.WordsExc
import KE.RegKIsAll
import PyProof.EqKinds
import PyProof.InstNe
import PySem.Challenge.RW_endswell_k52_whole_unfit_talks
set_option Elab.async false
set_option linter.all false
set_option maxRecDepth 100000
set_option exponentiation.threshold 4000
section
open PySem PySem.W PyProof.Rows
set_option maxHeartbeats 0
open_top head for PySem.Challenge.rw_endswell_k52_whole_unfit_talks
end
set_option maxHeartbeats 8100000
/-! the law's draws: a purse, mixed, draw -/
namespace L2
namespace D1
open PySem PySem.Spec PyProof.Rows
def top (i : Nat) : Stmt := PySem.Challenge.pw_endswell_k52_whole_unfit_talks.main.body.getD i (.Pass ⟨0, 0, 0, 0⟩)
abbrev sPurse : Stmt := top 37
abbrev sMixed : Stmt := top 38
abbrev sDraw : Stmt := top 39
abbrev sPurses : Stmt := top 40
abbrev sOneOf : Stmt := top 41
abbrev sWord : Stmt := top 44
/-- the built-ins' names are free -/
structure Free (mg : Str → Option Value) : Prop where
  sum : mg "sum" = none
  int : mg "int" = none
  max : mg "max" = none
  min : mg "min" = none
  len : mg "len" = none
  range : mg "range" = none
  repr : mg "repr" = none
  isi : mg "isinstance" = none
  all : mg "all" = none
/-- a purse: what is left of a great number, a seed, turns taken, its place -/
def Purse (H : Hp) (p : Addr) (t : Int) : Prop := ∃ g b z : Int, H p = some (.lst [.int g, .int b, .int t, .int z]) ∧ 0 ≤ g ∧ g < 10 ^ 480 ∧ 0 ≤ b ∧ b < 2147483629 ∧ 0 ≤ z ∧ z < 64 ∧ 0 ≤ t
theorem Purse.same {H H' : Hp} {p : Addr} {t : Int} (h : Purse H p t) (s : Same H H') : Purse H' p t := by
  obtain ⟨g, b, z, e, r⟩ := h; exact ⟨g, b, z, s _ _ e, r⟩
def spPurse (K : PySem.W.Frag) : Sp := fun vs H Q _ => ∃ (a : Addr) (ns : List Int) (z : Int), vs = [.ref a, .int z] ∧ SqL K H a (ns.map V.int) ∧ 0 ≤ z ∧ z < 64 ∧ ∀ H' p, Same H H' → H p = none → Purse H' p 0 → Q (.ref p) H'
def spMixed : Sp := fun vs H Q _ => ∃ (s t z : Int), vs = [.int s, .int t, .int z] ∧ 0 ≤ t ∧ t < 2 ^ 40 ∧ ∀ r : Int, 0 ≤ r → r < 2 ^ 31 → Q (.int r) H
def spDraw : Sp := fun vs H Q _ => ∃ (p : Addr) (m t : Int), vs = [.ref p, .int m] ∧ Purse H p t ∧ 1 ≤ m ∧ m < 2 ^ 27 ∧ t < 2 ^ 30 ∧ ∀ (r t' : Int) (o : HO), 0 ≤ r → r < m → t' ≤ t + 1 → Purse (upd H p o) p t' → Q (.int r) (upd H p o)
theorem op_powW {X : Cx} : OpR X (binaryOp .Pow) (rI (fun i j => 0 ≤ j ∧ (Builtin.Int.intBits i : Int) * j ≤ 2 ^ 27) fun i j => .int (i ^ j.toNat)) := opI fun _ _ _ _ _ _ _ hc q => pow_int hc.1 hc.2 q
theorem cut_ints (ns : List Int) (lo hi : Option Int) : ∃ ms : List Int, cutV (ns.map V.int) lo hi = ms.map V.int :=
  ⟨(ns.drop (HT.sIx ns.length 0 lo)).take (HT.sIx ns.length ns.length hi - HT.sIx ns.length 0 lo), by simp [cutV, List.map_drop, List.map_take]⟩
section
variable {P : Program} {w : World} {K : PySem.W.Frag} {mg : Str → Option Value} {base : Heap}
theorem scP : FnScope ["_law_script", "_law_at", "_law_seed"] ["_law_script", "_law_at"] (defScope sPurse) := ⟨rfl, rfl, rfl, by decide +kernel, rfl, by decide +kernel, by decide +kernel⟩
theorem ok_purse {f : Addr} {fd : FuncData} (F : Fun K "_law_purse" "_law_purse" sPurse f fd) (T : Free mg) : FnOk P w K mg base CX0 1 f fd ["_law_script", "_law_at"] (spPurse K) := by
  refine F.ok scP (fun vs H Q E h => ?_) (fun cdv A outer s H vs Q E hr h => ?_)
  · obtain ⟨a, ns, z, rfl, _⟩ := h; rfl
  · obtain ⟨a, ns, z, rfl, hS, z0, z1, k⟩ := h
    refine ⟨_, pss_cons (ps_set (i := 2) scP.nd rfl (Or.inl rfl) (pe_callB (cr_sum rfl) (by rfl) T.sum (by decide +kernel) (pa_cons (pe_slice sl_list (pv 0) (po_some (pv 1)) (po_some (pe_op op_add (pv 1) pe_int))) pa_nil)))
      (pss_one (ps_ret (pe_lst (pa_cons (pe_op op_mod (pe_callTy call_int1 (by rfl) T.int (by decide +kernel) (pa_cons (pe_callB (call_max2 rfl) (by rfl) T.max (by decide +kernel) (pa_cons (pe_op op_sub (pv 2) (pe_op op_pow pe_int pe_int)) (pa_cons pe_int pa_nil))) pa_nil)) (pe_op op_powW (pe_op op_pow pe_int pe_int) pe_int))
        (pa_cons (pe_op op_mod (pe_callTy call_int1 (by rfl) T.int (by decide +kernel) (pa_cons (pv 2) pa_nil)) pe_int) (pa_cons pe_int (pa_cons (pv 1) pa_nil))))))), ?_⟩
    obtain ⟨ms, em⟩ := cut_ints ns (some z) (some (z + 1))
    refine ⟨_, rfl, _, rfl, _, rfl, _, rfl, _, _, rfl, rfl, _, rfl, a, _, rfl, hS, fun q hq => ?_⟩
    refine ⟨q, ms, rfl, SqL.of (by rw [upd_same, em]), ?_⟩
    refine ⟨_, rfl, _, _, rfl, rfl, ⟨by decide, by decide, by decide⟩, _, _, rfl, rfl, _, _, rfl, .inl ⟨_, rfl, ?_⟩⟩
    refine ⟨_, _, rfl, rfl, ⟨by decide, by decide, by decide⟩, _, _, rfl, rfl, ⟨by decide, by decide +kernel⟩, _, _, rfl, rfl, (by show (0 : Int) < (10 ^ Int.toNat 60) ^ Int.toNat 8; decide +kernel), ?_⟩
    refine ⟨_, rfl, .inl ⟨_, rfl, _, _, rfl, rfl, (by show (0 : Int) < 2147483629; decide), _, rfl, by show 4 ≤ sizeLine; decide, fun p hp => ?_⟩⟩
    have hpq : p ≠ q := fun e => by rw [e, upd_same] at hp; cases hp
    have hp0 : H p = none := by rw [upd_ne hpq] at hp; exact hp
    refine k _ p (fun b o e => ?_) hp0 ⟨_, _, _, upd_same, ?_⟩
    · rw [upd_ne (ne_of_none e hp0), upd_ne (ne_of_none e hq)]; exact e
    · exact ⟨Int.emod_nonneg _ (by decide +kernel), Int.emod_lt_of_pos _ (by decide +kernel), Int.emod_nonneg _ (by decide), Int.emod_lt_of_pos _ (by decide), z0, z1, Int.le_refl _⟩
theorem scM : FnScope ["_law_seed", "_law_turn", "_law_at", "_law_mixed_here"] ["_law_seed", "_law_turn", "_law_at"] (defScope sMixed) := ⟨rfl, rfl, rfl, by decide +kernel, rfl, by decide +kernel, by decide +kernel⟩
theorem ok_mixed {f : Addr} {fd : FuncData} (F : Fun K "_law_mixed" "_law_mixed" sMixed f fd) (T : Free mg) : FnOk P w K mg base CX0 1 f fd ["_law_seed", "_law_turn", "_law_at"] spMixed := by
  refine F.ok scM (fun vs H Q E h => ?_) (fun cdv A outer s H vs Q E hr h => ?_)
  · obtain ⟨a, t, z, rfl, _⟩ := h; rfl
  · obtain ⟨a, t, z, rfl, t0, t1, k⟩ := h
    refine ⟨_, pss_cons (ps_set (i := 3) scM.nd rfl (Or.inl rfl) (pe_op op_add (pe_op op_mul (pv 0) pe_int) (pe_op op_mul (pe_op op_mul pe_int (pv 1)) (pv 1))))
      (pss_cons (ps_set (i := 3) scM.nd rfl (Or.inl rfl) (pe_op op_mod (pe_callTy call_int1 (by rfl) T.int (by decide +kernel) (pa_cons (pe_op op_add (pe_op op_add (pv 3) (pe_op op_mul pe_int (pv 2))) (pv 1)) pa_nil)) pe_int))
      (pss_cons (ps_set (i := 3) scM.nd rfl (Or.inl rfl) (pe_op op_mod (pe_callTy call_int1 (by rfl) T.int (by decide +kernel) (pa_cons (pe_op op_add (pe_op op_mul (pv 3) (pv 3)) pe_int) pa_nil)) pe_int))
      (pss_one (ps_ret (pe_op op_mod (pe_callTy call_int1 (by rfl) T.int (by decide +kernel) (pa_cons (pe_op op_mul (pv 3) pe_int) pa_nil)) pe_int))))), ?_⟩
    refine ⟨_, rfl, _, _, rfl, rfl, .inr ⟨by decide, by decide⟩, _, rfl, _, _, rfl, rfl, .inl ⟨by decide, by decide⟩, _, rfl, _, _, rfl, rfl, .inr ⟨by omega, by omega⟩, _, _, rfl, rfl, ?_⟩
    refine ⟨_, rfl, _, rfl, _, _, rfl, rfl, .inl ⟨by decide, by decide⟩, _, _, rfl, rfl, _, rfl, _, _, rfl, rfl, .inl ⟨_, rfl, _, _, rfl, rfl, (by show (0 : Int) < 2147483647; decide), ?_⟩⟩
    generalize hm : (a * 69069 + 104729 * t * t + 7919 * z + t) % 2147483647 = m
    have m0 : 0 ≤ m := by rw [← hm]; exact Int.emod_nonneg _ (by decide)
    have m1 : m < 2147483647 := by rw [← hm]; exact Int.emod_lt_of_pos _ (by decide)
    refine ⟨_, rfl, _, rfl, _, _, rfl, rfl, .inl ⟨by omega, by omega⟩, _, _, rfl, rfl, .inl ⟨_, rfl, _, _, rfl, rfl, (by show (0 : Int) < 2147483629; decide), ?_⟩⟩
    refine ⟨_, rfl, _, _, rfl, rfl, .inr ⟨by decide, by decide⟩, .inl ⟨_, rfl, _, _, rfl, rfl, (by show (0 : Int) < 2147483587; decide), ?_⟩⟩
    exact k _ (Int.emod_nonneg _ (by decide)) (Int.lt_trans (Int.emod_lt_of_pos _ (by decide)) (by decide))
theorem scD : FnScope ["_law_purse_here", "_law_many", "_law_drawn", "_law_found", "_law_piece"] ["_law_purse_here", "_law_many"] (defScope sDraw) := ⟨rfl, rfl, rfl, by decide +kernel, rfl, by decide +kernel, by decide +kernel⟩
theorem bits27 {m : Int} (h1 : 1 ≤ m) (h2 : m < 2 ^ 27) : ((Builtin.Int.intBits m : Nat) : Int) / 28 = 0 := by
  have h : Builtin.Int.intBits m ≤ 27 := PyProof.Rows.intBits_le (by omega)
  omega
theorem ok_draw {f fM : Addr} {fd fdM : FuncData} (F : Fun K "_law_draw" "_law_draw" sDraw f fd) (T : Free mg) (FM : Fun K "_law_mixed" "_law_mixed" sMixed fM fdM) (bM : Binds K fdM ["_law_seed", "_law_turn", "_law_at"] []) (gM : mg "_law_mixed" = some (.ref fM)) :
    FnOk P w K mg base CX0 2 f fd ["_law_purse_here", "_law_many"] spDraw := by
  have GM : FnOk P w K mg base CX0 1 fM fdM ["_law_seed", "_law_turn", "_law_at"] spMixed := ok_mixed FM T
  refine F.ok scD (fun vs H Q E h => ?_) (fun cdv A outer s H vs Q E hr h => ?_)
  · obtain ⟨p, m, t, rfl, _⟩ := h; rfl
  · obtain ⟨p, m, t, rfl, hp, m1, m2, t1, k⟩ := h
    refine ⟨_, pss_cons (ps_if (pt_cmpR op_gt (pe_ix ix_list (pv 0) pe_int (fun _ _ => rfl)) pe_int (nomark _))
        (pss_cons (ps_set (i := 2) scD.nd rfl (Or.inl rfl) (pe_op op_mod (pe_callTy call_int1 (by rfl) T.int (by decide +kernel) (pa_cons (pe_ix ix_list (pv 0) pe_int (fun _ _ => rfl)) pa_nil)) (pv 1)))
          (pss_cons (ps_asg (pe_op op_fdivW (pe_ix ix_list (pv 0) pe_int (fun _ _ => rfl)) (pv 1)) (pg_sub (pv 0) pe_int set_list)) (pss_one (ps_ret (pv 2))))) pss_nil)
      (pss_cons (ps_set (i := 3) scD.nd rfl (Or.inl rfl) pe_int)
      (pss_cons (ps_for PassesOwn.never rfl (pi_range1 rfl T.range (pa_cons (pe_op op_add pe_int (pe_op op_fdiv (pe_bits (pv 1)) pe_int)) pa_nil)) (pg_name (i := 4) scD.nd rfl (Or.inl rfl))
        (pss_cons (ps_asg (pe_op op_add (pe_ix ix_list (pv 0) pe_int (fun _ _ => rfl)) pe_int) (pg_sub (pv 0) pe_int set_list))
          (pss_one (ps_set (i := 3) scD.nd rfl (Or.inl rfl) (pe_op op_add (pe_op op_mul (pv 3) pe_int) (pe_call GM (hr.mono (by decide)) rfl gM FM.kp bM .nil pass0 (pa_cons (pe_ix ix_list (pv 0) pe_int (fun _ _ => rfl)) (pa_cons (pe_ix ix_list (pv 0) pe_int (fun _ _ => rfl)) (pa_cons (pe_ix ix_list (pv 0) pe_int (fun _ _ => rfl)) pa_nil)))))))))
      (pss_one (ps_ret (pe_op op_mod (pe_callTy call_int1 (by rfl) T.int (by decide +kernel) (pa_cons (pv 3) pa_nil)) (pv 1)))))), ?_⟩
    obtain ⟨g, b, z, hl, g0, g1, b0, b1, z0, z1, t0⟩ := hp
    refine ⟨_, rfl, p, _, 0, _, rfl, rfl, SqL.of hl, rfl, _, _, rfl, rfl, _, rfl, ?_⟩
    refine ite2 (fun c => ?_) (fun _ => ?_)
    · refine ⟨_, rfl, p, _, 0, _, rfl, rfl, SqL.of hl, rfl, .inl ⟨_, rfl, _, rfl, _, _, rfl, rfl, (by show (0 : Int) < m; omega), ?_⟩⟩
      refine ⟨_, rfl, p, _, 0, _, rfl, rfl, SqL.of hl, rfl, _, rfl, _, _, rfl, rfl, wide_div (b := 27) (by omega) (by omega) (by decide) (by decide), ?_⟩
      · refine ⟨_, rfl, p, _, 0, 0, rfl, rfl, hl, rfl, _, rfl, ?_⟩
        exact k _ t _ (Int.emod_nonneg _ (by omega)) (Int.emod_lt_of_pos _ (by omega)) (by omega) ⟨_, _, _, upd_same, Int.ediv_nonneg g0 (by omega), Int.lt_of_le_of_lt (Int.ediv_le_self _ g0) g1, b0, b1, z0, z1, t0⟩
    · have e1 := bits27 m1 m2
      refine ⟨_, rfl, m, rfl, _, _, rfl, rfl, ⟨by decide, by decide⟩, _, _, rfl, rfl, _, rfl, by rw [e1]; decide, by rw [e1]; decide, ?_⟩
      rw [e1]
      refine for_range (n := 1) (fun i σ H' => ∃ (fnd : Int) (v : Option V), σ = [some (.ref p), some (.int m), none, some (.int fnd), v] ∧ (i = 0 → H' = H) ∧ (0 < i → H' = upd H p (.lst [.int g, .int b, .int (t + 1), .int z]))) ⟨0, none, rfl, fun _ => rfl, fun c => absurd c (by decide)⟩ ?_ ?_
      · rintro i σ H' hi ⟨fnd, v, rfl, e0, _⟩
        obtain rfl : i = 0 := by omega
        obtain rfl := e0 rfl
        refine ⟨_, rfl, p, _, 2, _, rfl, rfl, SqL.of hl, rfl, _, _, rfl, rfl, _, rfl, p, _, 2, 2, rfl, rfl, hl, rfl, ?_⟩
        refine ⟨_, rfl, _, _, rfl, rfl, .inr ⟨by decide, by decide⟩, _, rfl, p, _, 1, _, rfl, rfl, SqL.of upd_same, rfl, _, rfl, p, _, 2, _, rfl, rfl, SqL.of upd_same, rfl, _, rfl, p, _, 3, _, rfl, rfl, SqL.of upd_same, rfl, ?_⟩
        refine ⟨_, _, _, rfl, by omega, by omega, fun r r0 r1 => ⟨_, _, rfl, rfl, _, _, rfl, fun c => absurd c (by decide), fun _ => rfl⟩⟩
      · rintro σ H' ⟨fnd, v, rfl, _, e2⟩
        obtain rfl := e2 (by decide)
        refine ⟨_, rfl, .inl ⟨_, rfl, _, rfl, _, _, rfl, rfl, (by show (0 : Int) < m; omega), ?_⟩⟩
        exact k _ (t + 1) _ (Int.emod_nonneg _ (by omega)) (Int.emod_lt_of_pos _ (by omega)) (Int.le_refl _) ⟨_, _, _, upd_same, g0, g1, b0, b1, z0, z1, by omega⟩
end
end D1
end L2
namespace L2
namespace D1
open PySem PySem.Spec PyProof.Rows
theorem Purse.upd {H : Hp} {p q : Addr} {t : Int} {o : HO} (h : Purse H p t) (n : p ≠ q) : Purse (upd H q o) p t := by
  obtain ⟨g, b, z, e, r⟩ := h; exact ⟨g, b, z, by rw [upd_ne n]; exact e, r⟩
theorem Purse.some {H : Hp} {p : Addr} {t : Int} (h : Purse H p t) : ∃ o, H p = some o := by
  obtain ⟨g, b, z, e, _⟩ := h; exact ⟨_, e⟩
/-- all that was tracked is as it was, but at p -/
def But (p : Addr) (H H' : Hp) : Prop := ∀ b o, b ≠ p → H b = some o → H' b = some o
theorem But.refl (p : Addr) (H : Hp) : But p H H := fun _ _ _ h => h
theorem But.upd (p : Addr) (H : Hp) (o : HO) : But p H (upd H p o) := fun b u n h => by rw [upd_ne n]; exact h
theorem But.trans {p : Addr} {H H1 H2 : Hp} (a : But p H H1) (b : But p H1 H2) : But p H H2 := fun c o n h => b c o n (a c o n h)
theorem But.of {p : Addr} {H H' : Hp} (s : Same H H') : But p H H' := fun b o _ h => s b o h
theorem Same.new {H : Hp} {a : Addr} {o : HO} (n : H a = none) : Same H (L2.upd H a o) := fun b u e => by rw [upd_ne (ne_of_none e n)]; exact e
def spPurses (K : PySem.W.Frag) : Sp := fun vs H Q _ => ∃ (a : Addr) (ns : List Int) (few : Int), vs = [.ref a, .int few] ∧ SqL K H a (ns.map V.int) ∧ ns.length ≤ 63 ∧ 1 ≤ few ∧ few ≤ 60 ∧
  ∀ (H' : Hp) (L : Addr) (ps : List Addr), Same H H' → H L = none → H' L = some (.lst (ps.map V.ref)) → (∀ p ∈ ps, H p = none ∧ Purse H' p 0) → ps.Nodup → L ∉ ps → ps.length ≤ 63 → Q (.ref L) H'
def spOneOf : Sp := fun vs H Q _ => ∃ (p L : Addr) (xs : List V) (t : Int), vs = [.ref p, .ref L] ∧ Purse H p t ∧ H L = some (.lst xs) ∧ L ≠ p ∧ 1 ≤ xs.length ∧ xs.length < 2 ^ 20 ∧ t < 2 ^ 30 ∧
  ∀ (i : Nat) (v : V) (t' : Int) (o : HO), xs[i]? = some v → t' ≤ t + 1 → Purse (L2.upd H p o) p t' → Q v (L2.upd H p o)
def spWord : Sp := fun vs H Q _ => ∃ (p : Addr) (t : Int), vs = [.ref p] ∧ Purse H p t ∧ t < 2 ^ 29 ∧
  ∀ (x : Str) (H' : Hp) (t' : Int), 1 ≤ x.length → x.length ≤ 8 → (∀ c ∈ x.cps.toList, 97 ≤ c ∧ c ≤ 122) → But p H H' → Purse H' p t' → t' ≤ t + 10 → Q (.str x) H'
section
variable {P : Program} {w : World} {K : PySem.W.Frag} {mg : Str → Option Value} {base : Heap}
theorem scPs : FnScope ["_law_script", "_law_few", "_law_at"] ["_law_script", "_law_few"] (defScope sPurses) := ⟨rfl, rfl, rfl, by decide +kernel, rfl, by decide +kernel, by decide +kernel⟩
theorem ok_purses {f fP : Addr} {fd fdP : FuncData} (F : Fun K "_law_purses" "_law_purses" sPurses f fd) (T : Free mg) (FP : Fun K "_law_purse" "_law_purse" sPurse fP fdP) (bP : Binds K fdP ["_law_script", "_law_at"] []) (gP : mg "_law_purse" = some (.ref fP)) :
    FnOk P w K mg base CX0 2 f fd ["_law_script", "_law_few"] (spPurses K) := by
  have GP : FnOk P w K mg base CX0 1 fP fdP ["_law_script", "_law_at"] (spPurse K) := ok_purse FP T
  refine F.ok scPs (fun vs H Q E h => ?_) (fun cdv A outer s H vs Q E hr h => ?_)
  · obtain ⟨a, ns, few, rfl, _⟩ := h; rfl
  · obtain ⟨a, ns, few, rfl, hS, l63, f1, f2, k⟩ := h
    refine ⟨_, pss_one (ps_ret (pe_lc (own := [("_law_at", 2)]) (g := gName 2) (tt := tYes) rfl scPs.nd
      (pi_range1 rfl T.range (pa_cons (pe_callB (call_max2 rfl) (by rfl) T.max (by decide +kernel) (pa_cons pe_int (pa_cons (pe_callB (call_min2 rfl) (by rfl) T.min (by decide +kernel) (pa_cons (pv 1) (pa_cons (pe_callB call_len_seq (by rfl) T.len PySem.boot_len (pa_cons (pv 0) pa_nil)) pa_nil))) pa_nil))) pa_nil))
      (blkOk_by (N := ["_law_script", "_law_few", "_law_at"]) (sc := defScope sPurses) (by decide +kernel)) (fun _ _ _ _ _ => pg_name (i := 2) scPs.nd rfl (Or.inl rfl)) (fun _ _ _ _ _ => pts_nil)
      (fun _ _ _ _ _ => pe_call GP (hr.mono (by decide)) rfl gP FP.kp bP .nil pass0 (pa_cons (pv 0) (pa_cons (pv 2) pa_nil))))), ?_⟩
    refine ⟨_, rfl, _, rfl, a, _, rfl, .inl hS, few, _, rfl, ?_⟩
    rw [List.length_map]
    generalize hm : (if (ns.length : Int) < few then (ns.length : Int) else few) = m
    have m0 : 0 ≤ m ∧ m ≤ 60 := by rw [← hm]; split <;> omega
    refine ⟨1, m, rfl, ?_⟩
    generalize hj : (if m > 1 then m else (1 : Int)) = j
    have j0 : 1 ≤ j ∧ j ≤ 60 := by rw [← hj]; split <;> omega
    refine ⟨j, rfl, by omega, by omega, fun D hD => ?_⟩
    refine lc_range (n := j.toNat) (fun i H' => ∃ ps : List Addr, ps.length = i ∧ Same H H' ∧ H' D = some (.lst (ps.map V.ref)) ∧ (∀ p ∈ ps, H p = none ∧ Purse H' p 0) ∧ ps.Nodup ∧ D ∉ ps)
      ⟨[], rfl, Same.new hD, upd_same, (fun p hp => by cases hp), List.nodup_nil, by simp⟩ ?_ ?_
    · rintro i H1 hi ⟨ps, lp, sm, hL, al, nd, nD⟩
      refine ⟨rfl, ?_⟩
      dsimp only [tYes]
      rw [if_pos rfl]
      refine ⟨_, rfl, _, rfl, a, ns, _, rfl, sm.seq hS, by omega, by omega, fun H2 p s2 np hp => ?_⟩
      have hD2 := s2 _ _ hL
      have npD : p ≠ D := fun e => by rw [e, hL] at np; cases np
      refine ⟨_, hD2, by rw [List.length_map, lp, sizeLine_eq]; omega, ps ++ [p], by rw [List.length_append, lp]; rfl, fun b o e => ?_, ?_, fun q hq => ?_, ?_, ?_⟩
      · rw [upd_ne (ne_of_none e hD)]; exact s2 _ _ (sm _ _ e)
      · rw [upd_same, List.map_append]; rfl
      · rcases List.mem_append.mp hq with hq | hq
        · obtain ⟨q0, qp⟩ := al q hq
          exact ⟨q0, (qp.same s2).upd fun e => nD (e ▸ hq)⟩
        · obtain rfl : q = p := by simpa using hq
          exact ⟨sm.free np, hp.upd npD⟩
      · refine List.nodup_append.mpr ⟨nd, by simp, fun x hx y hy e => ?_⟩
        obtain rfl : y = p := by simpa using hy
        obtain ⟨_, qp⟩ := al x hx
        obtain ⟨o, ho⟩ := qp.some
        rw [e, np] at ho; cases ho
      · intro z
        rcases List.mem_append.mp z with z | z
        · exact nD z
        · exact npD (by simpa using z : D = p).symm
    · rintro H1 ⟨ps, lp, sm, hL, al, nd, nD⟩
      exact k H1 D ps sm hD hL al nd nD (by omega)
theorem scO : FnScope ["_law_purse_here", "_law_some"] ["_law_purse_here", "_law_some"] (defScope sOneOf) := ⟨rfl, rfl, rfl, by decide +kernel, rfl, by decide +kernel, by decide +kernel⟩
theorem ok_oneof {f fD : Addr} {fd fdD : FuncData} (F : Fun K "_law_one_of" "_law_one_of" sOneOf f fd) (T : Free mg) (kD : PySem.W.keepIn K (.ref fD) = true) (GD : FnOk P w K mg base CX0 2 fD fdD ["_law_purse_here", "_law_many"] spDraw) (bD : Binds K fdD ["_law_purse_here", "_law_many"] []) (gD : mg "_law_draw" = some (.ref fD)) :
    FnOk P w K mg base CX0 3 f fd ["_law_purse_here", "_law_some"] spOneOf := by
  refine F.ok scO (fun vs H Q E h => ?_) (fun cdv A outer s H vs Q E hr h => ?_)
  · obtain ⟨p, L, xs, t, rfl, _⟩ := h; rfl
  · obtain ⟨p, L, xs, t, rfl, hp, hL, ne, l1, l2, t1, k⟩ := h
    refine ⟨_, pss_one (ps_ret (pe_ix ix_list (pv 1) (pe_call GD (hr.mono (by decide)) rfl gD kD bD .nil pass0 (pa_cons (pv 0) (pa_cons (pe_callB call_len_seq (by rfl) T.len PySem.boot_len (pa_cons (pv 1) pa_nil)) pa_nil))) (fun _ _ => rfl))), ?_⟩
    refine ⟨_, rfl, _, rfl, _, rfl, L, _, rfl, .inl (SqL.of hL), p, _, t, rfl, hp, by omega, by omega, t1, fun r t' o r0 r1 tt hp' => ?_⟩
    have hr2 : r.toNat < xs.length := by omega
    refine ⟨L, xs, r, xs[r.toNat], rfl, rfl, SqL.of (by rw [upd_ne ne]; exact hL), at_of (j := r.toNat) (by omega) (List.getElem?_eq_getElem hr2), ?_⟩
    exact k r.toNat _ t' o (List.getElem?_eq_getElem hr2) tt hp'
/-- single letters -/
def Let (y : Str) : Prop := ∃ c, 97 ≤ c ∧ c ≤ 122 ∧ y = ⟨#[c]⟩
theorem joinL_nil : ∀ ys : List (List Nat), (∀ y ∈ ys, ∃ c, 97 ≤ c ∧ c ≤ 122 ∧ y = [c]) → (TL.joinL [] ys).length = ys.length ∧ ∀ c ∈ TL.joinL [] ys, 97 ≤ c ∧ c ≤ 122
  | [], _ => ⟨rfl, fun c h => by cases h⟩
  | [p], h => by
    obtain ⟨c, c1, c2, rfl⟩ := h p (List.mem_singleton.mpr rfl)
    exact ⟨rfl, fun d hd => by obtain rfl : d = c := List.mem_singleton.mp hd; exact ⟨c1, c2⟩⟩
  | p :: q :: r, h => by
    obtain ⟨c, c1, c2, rfl⟩ := h p List.mem_cons_self
    obtain ⟨l, m⟩ := joinL_nil (q :: r) fun y hy => h y (List.mem_cons_of_mem _ hy)
    show ([c] ++ ([] ++ TL.joinL [] (q :: r))).length = _ ∧ ∀ d ∈ ([c] ++ ([] ++ TL.joinL [] (q :: r))), _
    refine ⟨by rw [List.length_append, List.nil_append, l]; simp; omega, fun d hd => ?_⟩
    rcases List.mem_append.mp hd with hd | hd
    · obtain rfl : d = c := List.mem_singleton.mp hd; exact ⟨c1, c2⟩
    · exact m d (by simpa using hd)
theorem word_of {ys : List Str} (h : ∀ y ∈ ys, Let y) : (Txt.join "" ys).length = ys.length ∧ ∀ c ∈ (Txt.join "" ys).cps.toList, 97 ≤ c ∧ c ≤ 122 := by
  have e : (Txt.join "" ys).cps.toList = TL.joinL [] (ys.map TL.tl) := by rw [TL.join_eq]; exact TL.tl_join "" ys
  obtain ⟨a, b⟩ := joinL_nil (ys.map TL.tl) fun y hy => by
    obtain ⟨z, hz, rfl⟩ := List.mem_map.mp hy
    obtain ⟨c, c1, c2, rfl⟩ := h z hz
    exact ⟨c, c1, c2, rfl⟩
  rw [List.length_map] at a
  refine ⟨?_, fun c hc => b c (e ▸ hc)⟩
  show (Txt.join "" ys).cps.size = _
  rw [← Array.length_toList, e, a]
theorem abc_at (r : Int) (r0 : 0 ≤ r) (r1 : r < 26) : ∃ c, atI (Str.ofString "abcdefghijklmnopqrstuvwxyz").cps.toList r = some c ∧ 97 ≤ c ∧ c ≤ 122 := by
  have h : ∀ j : Fin 26, ∃ c, (Str.ofString "abcdefghijklmnopqrstuvwxyz").cps.toList[j.val]? = some c ∧ 97 ≤ c ∧ c ≤ 122 := by
    intro j
    refine ⟨97 + j.val, ?_, by omega, by omega⟩
    revert j
    decide +kernel
  obtain ⟨c, e, q⟩ := h ⟨r.toNat, by omega⟩
  refine ⟨c, ?_, q⟩
  rw [show r = ((r.toNat : Nat) : Int) by omega]
  exact atI_nat e
theorem scW : FnScope ["_law_purse_here", "_law_size", "_law_turn"] ["_law_purse_here"] (defScope sWord) := ⟨rfl, rfl, rfl, by decide +kernel, rfl, by decide +kernel, by decide +kernel⟩
theorem ok_word {f fD : Addr} {fd fdD : FuncData} (F : Fun K "_law_word" "_law_word" sWord f fd) (T : Free mg) (kD : PySem.W.keepIn K (.ref fD) = true) (GD : FnOk P w K mg base CX0 2 fD fdD ["_law_purse_here", "_law_many"] spDraw) (bD : Binds K fdD ["_law_purse_here", "_law_many"] []) (gD : mg "_law_draw" = some (.ref fD)) :
    FnOk P w K mg base CX0 3 f fd ["_law_purse_here"] spWord := by
  refine F.ok scW (fun vs H Q E h => ?_) (fun cdv A outer s H vs Q E hr h => ?_)
  · obtain ⟨p, t, rfl, _⟩ := h; rfl
  · obtain ⟨p, t, rfl, hp, t1, k⟩ := h
    refine ⟨_, pss_cons (ps_set (i := 1) scW.nd rfl (Or.inl rfl) (pe_op op_add pe_int (pe_call GD (hr.mono (by decide)) rfl gD kD bD .nil pass0 (pa_cons (pv 0) (pa_cons (pe_ifExp (pt_cmpR op_eq (pe_call GD (hr.mono (by decide)) rfl gD kD bD .nil pass0 (pa_cons (pv 0) (pa_cons pe_int pa_nil))) pe_int (nomark _)) pe_int pe_int) pa_nil)))))
      (pss_one (ps_ret (pe_join pe_str (pe_lc (own := [("_law_turn", 2)]) (g := gName 2) (tt := tYes) rfl scW.nd (pi_range1 rfl T.range (pa_cons (pv 1) pa_nil))
        (blkOk_by (N := ["_law_purse_here", "_law_size", "_law_turn"]) (sc := defScope sWord) (by decide +kernel)) (fun _ _ _ _ _ => pg_name (i := 2) scW.nd rfl (Or.inl rfl)) (fun _ _ _ _ _ => pts_nil)
        (fun _ _ _ _ _ => pe_ix ix_str pe_str (pe_call GD (hr.mono (by decide)) rfl gD kD bD .nil pass0 (pa_cons (pv 0) (pa_cons pe_int pa_nil))) (fun _ _ => rfl)))))), ?_⟩
    refine ⟨_, rfl, _, rfl, p, 3, t, rfl, hp, by decide, by decide, by omega, fun r1 t2 o1 r10 r11 tt1 hp1 => ?_⟩
    refine ⟨rfl, _, rfl, ?_⟩
    refine ite2 (fun _ => ?_) (fun _ => ?_) <;> refine ⟨p, _, t2, rfl, hp1, by decide, by decide, by omega, fun r2 t3 o2 r20 r21 tt2 hp2 => ⟨_, _, rfl, rfl, ?_⟩⟩
    all_goals
      have rb : r2 < 8 := by omega
      clear r21
      have bt : But p H (L2.upd (L2.upd H p o1) p o2) := (But.upd p H o1).trans (But.upd p _ o2)
      generalize L2.upd (L2.upd H p o1) p o2 = H0 at hp2 bt
      refine ⟨⟨_, rfl⟩, _, rfl, _, rfl, by omega, by omega, fun D hD => ?_⟩
      have nD : p ≠ D := by obtain ⟨o, ho⟩ := hp2.some; exact ne_of_none ho hD
      refine lc_range (n := (1 + r2).toNat) (fun i H' => ∃ ys : List Str, ys.length = i ∧ (∀ y ∈ ys, Let y) ∧ H' D = some (.lst (ys.map V.str)) ∧ But p H0 H' ∧ ∃ t', Purse H' p t' ∧ t' ≤ t + 2 + i) ⟨[], rfl, (fun y hy => by cases hy), upd_same, But.of (Same.new hD), t3, hp2.upd nD, by omega⟩ ?_ ?_
      · rintro i H1 hi ⟨ys, ly, al, hL, b1, t', hp', tl'⟩
        refine ⟨rfl, ?_⟩
        dsimp only [tYes]
        rw [if_pos rfl]
        refine ⟨_, rfl, p, 26, t', rfl, hp', by decide, by decide, by omega, fun r t4 o r0 r1 tt hp4 => ?_⟩
        obtain ⟨c, ec, c1, c2⟩ := abc_at r r0 r1
        refine ⟨_, r, c, rfl, rfl, by decide +kernel, ec, _, by rw [upd_ne nD.symm]; exact hL, by rw [List.length_map, ly, sizeLine_eq]; omega, ys ++ [⟨#[c]⟩], by rw [List.length_append, ly]; rfl, fun y hy => ?_, ?_, ?_, t4, hp4.upd nD, by omega⟩
        · rcases List.mem_append.mp hy with hy | hy
          · exact al y hy
          · exact ⟨c, c1, c2, by simpa using hy⟩
        · rw [upd_same, List.map_append]; rfl
        · intro b u nb e
          have nbD : b ≠ D := ne_of_none e hD
          rw [upd_ne nbD, upd_ne nb]; exact b1 b u nb e
      · rintro H1 ⟨ys, ly, al, hL, b1, t', hp', tl'⟩
        obtain ⟨lw, cw⟩ := word_of al
        refine ⟨_, D, ys, rfl, rfl, .inl (SqL.of hL), ?_, ?_⟩
        · have one : (ys.map (·.length)).sum ≤ ys.length := by
            clear lw cw hL ly
            induction ys with
            | nil => exact Nat.le_refl _
            | cons y r ih =>
              obtain ⟨c, _, _, rfl⟩ := al y List.mem_cons_self
              have := ih fun z hz => al z (List.mem_cons_of_mem _ hz)
              simp only [List.map_cons, List.sum_cons, List.length_cons]
              show 1 + _ ≤ _
              omega
          have z0 : (Str.ofString "").length = 0 := rfl
          rw [z0]; omega
        · exact k _ H1 t' (by rw [lw]; omega) (by rw [lw]; omega) cw (bt.trans b1) hp' (by omega)
end
end D1
end L2
/-! what is hidden of a heap; shuffled -/
namespace L2
namespace D1
open PySem PySem.Spec PyProof.Rows
/-- the heap without what stands at S -/
def cut (S : List Addr) (H : Hp) : Hp := fun b => if b ∈ S then none else H b
section
variable {S : List Addr} {H H' : Hp} {p q D : Addr} {o : HO}
theorem cut_in (h : q ∈ S) : cut S H q = none := if_pos h
theorem cut_out (h : q ∉ S) : cut S H q = H q := if_neg h
theorem cut_some {u : HO} (h : cut S H q = some u) : q ∉ S ∧ H q = some u := by
  unfold cut at h
  split at h
  · cases h
  · exact ⟨by assumption, h⟩
theorem cut_le : Same (cut S H) H := fun _ _ h => (cut_some h).2
theorem cut_mono {S' : List Addr} (h : ∀ b ∈ S', b ∈ S) : Same (cut S H) (cut S' H) := fun b o e => by
  obtain ⟨n, e⟩ := cut_some e
  rw [cut_out fun z => n (h b z)]; exact e
theorem cut_upd (h : q ∈ S) : cut S (upd H q o) = cut S H := by
  funext b
  by_cases hb : b ∈ S
  · rw [cut_in hb, cut_in hb]
  · rw [cut_out hb, cut_out hb, upd_ne fun e => hb (by rw [e]; exact h)]
theorem cut_same (s : Same H H') : Same (cut S H) (cut S H') := fun b o e => by
  obtain ⟨n, e⟩ := cut_some e
  rw [cut_out n]; exact s _ _ e
theorem cut_but (s : But p H H') (h : p ∈ S) : Same (cut S H) (cut S H') := fun b o e => by
  obtain ⟨n, e⟩ := cut_some e
  rw [cut_out n]; exact s _ _ (fun z => n (z ▸ h)) e
theorem cut_new (n : H q = none) : Same (cut S H) (cut S (upd H q o)) := cut_same (Same.new n)
/-- what is new may be hidden -/
theorem cut_hide (n : H q = none) : Same (cut S H) (cut (q :: S) H) := fun b o e => by
  obtain ⟨m, e⟩ := cut_some e
  rw [cut_out fun z => by rcases List.mem_cons.mp z with z | z; exact absurd e (by rw [z, n]; exact fun y => by cases y); exact m z]; exact e
theorem cut_nil : Same H (cut [] H) := fun b o e => by rw [cut_out (by simp)]; exact e
theorem But.cut (s : But p H H') : Same (cut [p] H) (cut [p] H') := cut_but s (by simp)
theorem But.new (n : H q = none) : But p H (L2.upd H q o) := But.of (Same.new n)
/-- a list of texts -/
def SL (H : Hp) (a : Addr) (ss : List Str) : Prop := H a = some (.lst (ss.map V.str))
theorem SL.same {a : Addr} {ss : List Str} (h : SL H a ss) (s : Same H H') : SL H' a ss := s _ _ h
theorem SL.sq {K : PySem.W.Frag} {a : Addr} {ss : List Str} (h : SL H a ss) : SqL K H a (ss.map V.str) := SqL.of h
end
theorem perm_ins {α : Type} (xs : List α) (i : Nat) (y : α) : (xs.take i ++ [y] ++ xs.drop i).Perm (xs ++ [y]) := by
  have h : (xs.take i ++ ([y] ++ xs.drop i)).Perm (xs.take i ++ (xs.drop i ++ [y])) := (List.perm_append_comm).append_left _
  rw [List.append_assoc]
  refine h.trans ?_
  rw [← List.append_assoc, List.take_append_drop]
theorem take_succ_get {α : Type} {xs : List α} {i : Nat} {x : α} (h : xs[i]? = some x) : xs.take (i + 1) = xs.take i ++ [x] := by
  rw [List.take_succ, h]; rfl
abbrev sShuf : Stmt := top 42
def spShuf : Sp := fun vs H Q _ => ∃ (p L : Addr) (xs : List V) (t : Int), vs = [.ref p, .ref L] ∧ Purse H p t ∧ H L = some (.lst xs) ∧ L ≠ p ∧ xs.length ≤ 1000 ∧ t < 2 ^ 29 ∧
  ∀ (H' : Hp) (R : Addr) (ys : List V) (t' : Int), But p H H' → H R = none → H' R = some (.lst ys) → ys.Perm xs → Purse H' p t' → t' ≤ t + xs.length → Q (.ref R) H'
section
variable {P : Program} {w : World} {K : PySem.W.Frag} {mg : Str → Option Value} {base : Heap}
theorem scSh : FnScope ["_law_purse_here", "_law_some", "_law_found", "_law_item"] ["_law_purse_here", "_law_some"] (defScope sShuf) := ⟨rfl, rfl, rfl, by decide +kernel, rfl, by decide +kernel, by decide +kernel⟩
theorem ok_shuf {f fD : Addr} {fd fdD : FuncData} (F : Fun K "_law_shuffled" "_law_shuffled" sShuf f fd) (T : Free mg) (kD : PySem.W.keepIn K (.ref fD) = true) (GD : FnOk P w K mg base CX0 2 fD fdD ["_law_purse_here", "_law_many"] spDraw) (bD : Binds K fdD ["_law_purse_here", "_law_many"] []) (gD : mg "_law_draw" = some (.ref fD)) :
    FnOk P w K mg base CX0 3 f fd ["_law_purse_here", "_law_some"] spShuf := by
  refine F.ok scSh (fun vs H Q E h => ?_) (fun cdv A outer s H vs Q E hr h => ?_)
  · obtain ⟨p, L, xs, t, rfl, _⟩ := h; rfl
  · obtain ⟨p, L, xs, t, rfl, hp, hL, ne, l1, t1, k⟩ := h
    refine ⟨_, pss_cons (ps_set (i := 2) scSh.nd rfl (Or.inl rfl) (pe_lst pa_nil))
      (pss_cons (ps_for PassesOwn.never rfl (pi_list (pv 1)) (pg_name (i := 3) scSh.nd rfl (Or.inl rfl))
        (pss_one (ps_expr (pe_bm PySem.F.plainAttrs_list PySem.F.slot_list_insert PySem.F.type_list_insert mt_insert (pv 2)
          (pa_cons (pe_call GD (hr.mono (by decide)) rfl gD kD bD .nil pass0 (pa_cons (pv 0) (pa_cons (pe_op op_add (pe_callB call_len_seq (by rfl) T.len PySem.boot_len (pa_cons (pv 2) pa_nil)) pe_int) pa_nil))) (pa_cons (pv 3) pa_nil))))))
      (pss_one (ps_ret (pv 2)))), ?_⟩
    refine ⟨by decide, fun D hD => ?_⟩
    have nD : p ≠ D := by obtain ⟨o, ho⟩ := hp.some; exact ne_of_none ho hD
    have nL : L ≠ D := ne_of_none hL hD
    refine ⟨_, rfl, L, rfl, ⟨_, SqL.of (by rw [upd_ne nL]; exact hL)⟩, for_list (xs := xs) (K := K) (fun i σ H' => ∃ (v : Option V) (ys : List V) (t' : Int), σ = [some (.ref p), some (.ref L), some (.ref D), v] ∧ But p H H' ∧ H' D = some (.lst ys) ∧ ys.Perm (xs.take i) ∧ Purse H' p t' ∧ t' ≤ t + i) ⟨none, [], t, rfl, But.new hD, upd_same, by simp, hp.upd nD, by omega⟩ ?_ ?_ ?_⟩
    · rintro i σ H' hi ⟨v, ys, t', rfl, b, _⟩
      exact SqL.of (b _ _ ne hL)
    · rintro i x σ H' hx ⟨v, ys, t', rfl, b, hD', pm, hp', tt⟩
      have hi : i < xs.length := (List.getElem?_eq_some_iff.mp hx).1
      have ly : ys.length = i := by rw [pm.length_eq, List.length_take]; omega
      refine ⟨_, rfl, .inl ⟨rfl, _, SqL.of hD'⟩, _, rfl, _, rfl, D, _, rfl, .inl (SqL.of hD'), _, _, rfl, rfl, p, _, t', rfl, hp', by omega, by omega, by omega, fun r t2 o r0 r1 tt2 hp2 => ?_⟩
      refine ⟨_, rfl, D, ys, r, x, rfl, rfl, by rw [upd_ne nD.symm]; exact hD', by rw [sizeLine_eq]; omega, r0, by omega, ?_⟩
      refine ⟨_, _, t2, rfl, ?_, upd_same, ?_, hp2.upd nD, by omega⟩
      · intro b' u nb e
        rw [upd_ne (ne_of_none e hD), upd_ne nb]; exact b b' u nb e
      · rw [take_succ_get hx]
        exact (perm_ins ys _ x).trans (pm.append_right _)
    · rintro σ H' ⟨v, ys, t', rfl, b, hD', pm, hp', tt⟩
      rw [List.take_length] at pm
      exact ⟨_, rfl, k H' D ys t' b hD hD' pm hp' tt⟩
end
end D1
end L2
/-! calls told in one piece; list of a text; words -/
namespace L2
namespace D1
open PySem PySem.Spec PyProof.Rows
/-- the def that stands under the name x keeps a promise -/
structure Cal (P : Program) (w : World) (K : PySem.W.Frag) (mg : Str → Option Value) (base : Heap) (x : Str) (k : Nat) (ps : List Str) (sp : Sp) : Prop where
  ex : ∃ f fd, mg x = some (.ref f) ∧ PySem.W.keepIn K (.ref f) = true ∧ FnOk P w K mg base CX0 k f fd ps sp ∧ Binds K fd ps []
theorem pe_cal {X : Cx} {x : Str} {k : Nat} {ps : List Str} {sp : Sp} {e : Expr} {es : List Expr} {t : TA} {p pos : Pos} (C : Cal X.prog X.w X.K X.mg X.base x k ps sp) (hr : Room k X.A) (hg : Gl X x) (ha : PA X (e :: es) t)
    (hdb : (x == ("__debug__" : Str)) = false := by decide) (he : starEach (e :: es) X.env = (false, eval e X.env) :: starEach es X.env := by rfl) (hpl : (backTo pos (starEach es X.env)).any (·.1) = false := by rfl) :
    PE X (.Call (.Name x p) (e :: es) [] pos) (tCall sp [] E0 t) := by
  obtain ⟨f, fd, h1, h2, h3, h4⟩ := C.ex
  exact pe_call h3 hr hg h1 h2 h4 .nil pass0 ha hdb he hpl
theorem Cal.of {P : Program} {w : World} {K : PySem.W.Frag} {mg : Str → Option Value} {base : Heap} {x : Str} {k : Nat} {ps : List Str} {sp : Sp} {f : Addr} {fd : FuncData} (g : mg x = some (.ref f)) (kp : PySem.W.keepIn K (.ref f) = true) (F : FnOk P w K mg base CX0 k f fd ps sp) (b : Binds K fd ps []) : Cal P w K mg base x k ps sp := ⟨⟨f, fd, g, kp, F, b⟩⟩
def signs (z : Str) : List Str := z.cps.toList.map fun c => ⟨#[c]⟩
theorem call_listStr {X : Cx} (hc : X.calm = true) : CallR X (.type "list") (fun xs H Q => ∃ z : Str, xs = [.str z] ∧ z.cps.size ≤ sizeLine ∧ ∀ l, H l = none → Q (.ref l) (upd H l (.lst ((signs z).map V.str)))) := by
  intro pins s σ H xs us Q I r h
  obtain ⟨z, rfl, hz, q⟩ := h
  obtain ⟨u, rfl, t, rfl⟩ := vals1 r
  refine PySem.call_list_str (I.ok.hd hc) z t (fun h' tk acc' c' hkeep hS hacc => ?_) hz
  refine ⟨.ref s.heap.objs.size, upd H s.heap.objs.size (.lst ((signs z).map V.str)), I.laid hkeep (Nat.le_refl _) (show ObjOk X.prog X.w _ _ _ (.lst ((signs z).map V.str)) from ⟨?_, acc'.toList, c', ?_, ?_⟩), rfl, q _ (I.hok.fresh (Nat.le_refl _))⟩
  · rw [List.length_map, signs, List.length_map, Array.length_toList]; exact hz
  · have el : acc'.toList.length = acc'.size := by simp
    refine vals_of_at (by rw [List.length_map, signs, List.length_map, Array.length_toList, el, hacc.1]) fun j x w h1 h2 => ?_
    obtain ⟨c, v, hc, rfl⟩ := hacc.2 j w (by rw [← Array.getElem?_toList]; exact h2)
    rw [signs, List.map_map, List.getElem?_map, Array.getElem?_toList, hc] at h1
    cases h1
    exact ⟨v, rfl⟩
  · rw [Array.toArray_toList]; exact hS
def tl (x : Str) : List Nat := x.cps.toList
theorem tl_len (x : Str) : (tl x).length = x.length := Array.length_toList
theorem tl_app (x y : Str) : tl (x ++ y) = tl x ++ tl y := by
  show (x.cps ++ y.cps).toList = _
  rw [Array.toList_append]; rfl
theorem tl_ext {x y : Str} (h : tl x = tl y) : x = y := by
  cases x; cases y; exact congrArg _ (Array.toList_inj.mp h)
theorem tl_cut (z : Str) (lo hi : Option Int) : tl (cutS z lo hi) = ((tl z).drop (HT.sIx z.length 0 lo)).take (HT.sIx z.length z.length hi - HT.sIx z.length 0 lo) := rfl
/-- a word -/
structure Wd (x : Str) : Prop where
  lo : 1 ≤ x.length
  hi : x.length ≤ 8
  ok : ∀ c ∈ tl x, 97 ≤ c ∧ c ≤ 122
theorem wd_let {c : Nat} (h1 : 97 ≤ c) (h2 : c ≤ 122) : Wd ⟨#[c]⟩ := ⟨by show 1 ≤ 1; decide, by show 1 ≤ 8; decide, fun d hd => by obtain rfl : d = c := List.mem_singleton.mp hd; exact ⟨h1, h2⟩⟩
theorem sIx_of {n d : Nat} {r : Int} (h : 0 ≤ r) : HT.sIx n d (some r) = min r.toNat n := by
  show (if r < 0 then _ else _) = _
  rw [if_neg (by omega)]
theorem wd_bent {b : Str} {r : Int} {c : Nat} (h : Wd b) (r0 : 0 ≤ r) (r1 : r < b.length) (h1 : 97 ≤ c) (h2 : c ≤ 122) : Wd (cutS b none (some r) ++ ⟨#[c]⟩ ++ cutS b (some (r + 1)) none) := by
  have e : tl (cutS b none (some r) ++ ⟨#[c]⟩ ++ cutS b (some (r + 1)) none) = (tl b).take r.toNat ++ [c] ++ (tl b).drop (r + 1).toNat := by
    rw [tl_app, tl_app, tl_cut, tl_cut, HT.sIx_none, HT.sIx_none, sIx_of r0, sIx_of (by omega), Nat.min_eq_left (by omega), Nat.min_eq_left (by omega), Nat.sub_zero, List.drop_zero]
    congr 1
    refine List.take_of_length_le ?_
    rw [List.length_drop, tl_len]; omega
  have l : (cutS b none (some r) ++ ⟨#[c]⟩ ++ cutS b (some (r + 1)) none).length = b.length := by
    rw [← tl_len, e, List.length_append, List.length_append, List.length_take, List.length_drop, tl_len]
    simp only [List.length_singleton]
    omega
  refine ⟨by rw [l]; exact h.lo, by rw [l]; exact h.hi, fun d hd => ?_⟩
  rw [e] at hd
  rcases List.mem_append.mp hd with hd | hd
  · rcases List.mem_append.mp hd with hd | hd
    · exact h.ok d (List.mem_of_mem_take hd)
    · obtain rfl : d = c := List.mem_singleton.mp hd; exact ⟨h1, h2⟩
  · exact h.ok d (List.mem_of_mem_drop hd)
theorem inV_str (x : Str) : ∀ ss : List Str, inV (.str x) (ss.map V.str) = decide (x ∈ ss)
  | [] => by simp [inV]
  | y :: r => by
    have ih := inV_str x r
    unfold inV at ih ⊢
    rw [List.map_cons, List.any_cons, ih]
    show (y == x || decide (x ∈ r)) = _
    by_cases h : y = x
    · subst h; simp
    · have h1 : (y == x) = false := beq_eq_false_iff_ne.mpr h
      have h2 : ¬ x = y := fun e => h e.symm
      rw [h1, Bool.false_or]
      by_cases h3 : x ∈ r <;> simp [h2, h3]
theorem flat_strs (ss : List Str) : (ss.map V.str).all flatV = true := by
  induction ss with
  | nil => rfl
  | cons a r ih => rw [List.map_cons, List.all_cons, ih]; rfl
theorem pigeon {α : Type} [DecidableEq α] : ∀ (l m : List α), l.Nodup → (∀ x ∈ l, x ∈ m) → l.length ≤ m.length
  | [], _, _, _ => Nat.zero_le _
  | x :: r, m, nd, h => by
    have nd' := List.nodup_cons.mp nd
    have hx := h x List.mem_cons_self
    have ih := pigeon r (m.erase x) nd'.2 fun y hy => (List.mem_erase_of_ne fun e => nd'.1 (by rw [← e]; exact hy)).mpr (h y (List.mem_cons_of_mem _ hy))
    rw [List.length_erase_of_mem hx] at ih
    have : 0 < m.length := List.length_pos_of_mem hx
    rw [List.length_cons]; omega
def abc : Str := Str.ofString "abcdefghijklmnopqrstuvwxyz"
theorem abc_len : (signs abc).length = 26 := by decide +kernel
theorem abc_nd : (signs abc).Nodup := by decide +kernel
theorem abc_wd : ∀ x ∈ signs abc, Wd x := by
  have h : ∀ c ∈ tl abc, 97 ≤ c ∧ c ≤ 122 := by decide +kernel
  intro x hx
  obtain ⟨c, hc, rfl⟩ := List.mem_map.mp hx
  exact wd_let (h c hc).1 (h c hc).2
theorem abc_left {ss : List Str} (h : ss.length < 26) : ∃ x r, (signs abc).filter (fun x => decide (x ∉ ss)) = x :: r ∧ x ∉ ss ∧ Wd x := by
  cases e : (signs abc).filter (fun x => decide (x ∉ ss)) with
  | nil =>
    exfalso
    have := pigeon (signs abc) ss abc_nd fun x hx => Classical.byContradiction fun n => by
      have : x ∈ (signs abc).filter (fun x => decide (x ∉ ss)) := List.mem_filter.mpr ⟨hx, by simpa using n⟩
      rw [e] at this; cases this
    rw [abc_len] at this; omega
  | cons x r =>
    have h1 : x ∈ (signs abc).filter (fun x => decide (x ∉ ss)) := by rw [e]; exact List.mem_cons_self
    obtain ⟨h2, h3⟩ := List.mem_filter.mp h1
    exact ⟨x, r, rfl, by simpa using h3, abc_wd x h2⟩
end D1
end L2
/-! words, pool -/
namespace L2
namespace D1
open PySem PySem.Spec PyProof.Rows
structure Free2 (mg : Str → Option Value) : Prop extends Free mg where
  list : mg "list" = none
  dict : mg "dict" = none
  tuple : mg "tuple" = none
  str : mg "str" = none
  bool : mg "bool" = none
  zip : mg "zip" = none
  sorted : mg "sorted" = none
abbrev sWords : Stmt := top 45
abbrev sPool : Stmt := top 46
def spWords : Sp := fun vs H Q _ => ∃ (p : Addr) (n t : Int), vs = [.ref p, .int n] ∧ Purse H p t ∧ 0 ≤ n ∧ n ≤ 20 ∧ t < 2 ^ 28 ∧
  ∀ (H' : Hp) (R : Addr) (ss : List Str) (t' : Int), But p H H' → H R = none → SL H' R ss → ss.length = n.toNat → ss.Nodup → (∀ x ∈ ss, Wd x) → Purse H' p t' → t' ≤ t + 300 → Q (.ref R) H'
theorem upd_none' {H : Hp} {a b : Addr} {o : HO} (e : L2.upd H a o b = none) : H b = none := by
  by_cases h : b = a
  · rw [h, upd_same] at e; cases e
  · rw [upd_ne h] at e; exact e
theorem But.fr {p b : Addr} {H H' : Hp} (h : But p H H') (e : H' b = none) (n : b ≠ p) : H b = none := by
  cases z : H b with
  | none => rfl
  | some o => rw [h b o n z] at e; cases e
theorem But.ofL {p L : Addr} {H0 H : Hp} {o : HO} (n : H0 L = Option.none) : But p H0 H → But p H0 (L2.upd H L o) := fun s b u nb e => by
  rw [upd_ne (ne_of_none e n)]; exact s b u nb e
theorem get_map {α β : Type} {f : α → β} {l : List α} {i : Nat} {y : β} (h : (l.map f)[i]? = some y) : ∃ x, l[i]? = some x ∧ y = f x := by
  rw [List.getElem?_map] at h
  obtain ⟨x, h1, h2⟩ := Option.map_eq_some_iff.mp h
  exact ⟨x, h1, h2.symm⟩
theorem nodup_app {α : Type} {l : List α} {x : α} (h : l.Nodup) (n : x ∉ l) : (l ++ [x]).Nodup :=
  List.nodup_append.mpr ⟨h, by simp, fun a ha b hb e => by obtain rfl : b = x := List.mem_singleton.mp hb; exact n (e ▸ ha)⟩
theorem wd_app {l : List Str} {x : Str} (h : ∀ y ∈ l, Wd y) (w : Wd x) : ∀ y ∈ l ++ [x], Wd y := fun y hy => by
  rcases List.mem_append.mp hy with hy | hy
  · exact h y hy
  · obtain rfl : y = x := List.mem_singleton.mp hy; exact w
theorem filt_yes {α : Type} {l : List α} {j : Nat} {z : α} {f : α → Bool} (h : l[j]? = some z) (b : f z = true) : (l.take (j + 1)).filter f = (l.take j).filter f ++ [z] := by
  rw [take_succ_get h, List.filter_append]; simp [List.filter, b]
theorem filt_no {α : Type} {l : List α} {j : Nat} {z : α} {f : α → Bool} (h : l[j]? = some z) (b : f z = false) : (l.take (j + 1)).filter f = (l.take j).filter f := by
  rw [take_succ_get h, List.filter_append]; simp [List.filter, b]
theorem cut_len (z : Str) (lo hi : Option Int) : (cutS z lo hi).length ≤ z.length := by
  rw [← tl_len, tl_cut, List.length_take, List.length_drop, tl_len]; omega
theorem bent_len1 {b : Str} {r : Int} {c : Nat} (h : Wd b) : (cutS b none (some r)).length + (⟨#[c]⟩ : Str).length ≤ sizeLine := by
  have := cut_len b none (some r); have := h.hi; rw [sizeLine_eq]; show _ + 1 ≤ _; omega
theorem bent_len2 {b : Str} {r r2 : Int} {c : Nat} (h : Wd b) : (cutS b none (some r) ++ ⟨#[c]⟩).length + (cutS b (some r2) none).length ≤ sizeLine := by
  have h1 := cut_len b none (some r); have h2 := cut_len b (some r2) none; have := h.hi
  rw [← tl_len, tl_app, List.length_append, tl_len, sizeLine_eq]
  show _ + 1 + _ ≤ _; omega
section
variable {P : Program} {w : World} {K : PySem.W.Frag} {mg : Str → Option Value} {base : Heap}
abbrev CDraw (P : Program) (w : World) (K : PySem.W.Frag) (mg : Str → Option Value) (base : Heap) := Cal P w K mg base "_law_draw" 2 ["_law_purse_here", "_law_many"] spDraw
abbrev CWord (P : Program) (w : World) (K : PySem.W.Frag) (mg : Str → Option Value) (base : Heap) := Cal P w K mg base "_law_word" 3 ["_law_purse_here"] spWord
abbrev CShuf (P : Program) (w : World) (K : PySem.W.Frag) (mg : Str → Option Value) (base : Heap) := Cal P w K mg base "_law_shuffled" 3 ["_law_purse_here", "_law_some"] spShuf
abbrev CWords (P : Program) (w : World) (K : PySem.W.Frag) (mg : Str → Option Value) (base : Heap) := Cal P w K mg base "_law_words" 4 ["_law_purse_here", "_law_many"] spWords
theorem scWs : FnScope ["_law_purse_here", "_law_many", "_law_base", "_law_near", "_law_spot", "_law_found", "_law_turn", "_law_word_here", "_law_letter"] ["_law_purse_here", "_law_many"] (defScope sWords) := ⟨rfl, rfl, rfl, by decide +kernel, rfl, by decide +kernel, by decide +kernel⟩
theorem ok_words {f : Addr} {fd : FuncData} (F : Fun K "_law_words" "_law_words" sWords f fd) (T : Free2 mg) (CD : CDraw P w K mg base) (CW : CWord P w K mg base) :
    FnOk P w K mg base CX0 4 f fd ["_law_purse_here", "_law_many"] spWords := by
  refine F.ok scWs (fun vs H Q E h => ?_) (fun cdv A outer s H vs Q E hr h => ?_)
  · obtain ⟨p, n, t, rfl, _⟩ := h; rfl
  · obtain ⟨p, n, t, rfl, hp, n0, n1, t1, k⟩ := h
    refine ⟨_, pss_cons (ps_par (i := 2) (j := 3) rfl scWs.nd rfl rfl (by decide) rfl rfl (pa_cons (pe_cal CW (hr.mono (by decide)) rfl (pa_cons (pv 0) pa_nil)) (pa_cons (pe_cmpR op_eq (pe_cal CD (hr.mono (by decide)) rfl (pa_cons (pv 0) (pa_cons pe_int pa_nil))) pe_int (nomark _)) pa_nil)) (by rfl))
      (pss_cons (ps_asg (pe_tup (pa_cons (pe_cal CD (hr.mono (by decide)) rfl (pa_cons (pv 0) (pa_cons (pe_callB call_len_str (by rfl) T.len PySem.boot_len (pa_cons (pv 2) pa_nil)) pa_nil))) (pa_cons (pe_lst pa_nil) pa_nil))) (pg_tup rfl (pgs_cons (pg_name (i := 4) scWs.nd rfl (Or.inl rfl)) (pgs_cons (pg_name (i := 5) scWs.nd rfl (Or.inr rfl)) pgs_nil))))
      (pss_cons (ps_for PassesOwn.never rfl (pi_range1 rfl T.range (pa_cons (pv 1) pa_nil)) (pg_name (i := 6) scWs.nd rfl (Or.inl rfl))
        (pss_cons (ps_set (i := 7) scWs.nd rfl (Or.inl rfl) (pe_op op_add_str (pe_op op_add_str (pe_slice sl_str (pv 2) po_none (po_some (pv 4))) (pe_ix ix_str pe_str (pe_cal CD (hr.mono (by decide)) rfl (pa_cons (pv 0) (pa_cons pe_int pa_nil))) (fun _ _ => rfl))) (pe_slice sl_str (pv 2) (po_some (pe_op op_add (pv 4) pe_int)) po_none)))
        (pss_cons (ps_if (pt_not (pt_truth (pv 3) (by intro _; rfl))) (pss_one (ps_set (i := 7) scWs.nd rfl (Or.inl rfl) (pe_cal CW (hr.mono (by decide)) rfl (pa_cons (pv 0) pa_nil)))) pss_nil)
        (pss_cons (ps_if (pt_cmpR op_in_seq (pv 7) (pv 5) rfl) (pss_one (ps_set (i := 7) scWs.nd rfl (Or.inl rfl) (pe_ix ix_list (pe_lc (own := [("_law_letter", 8)]) (g := gName 8) (tt := tTest (tOp (rIn K true) (tVar 8) (tVar 5))) rfl scWs.nd
            (pi_list (pe_callTy (call_listStr rfl) (by rfl) T.list (by decide +kernel) (pa_cons pe_str pa_nil)))
            (blkOk_by (N := ["_law_purse_here", "_law_many", "_law_base", "_law_near", "_law_spot", "_law_found", "_law_turn", "_law_word_here", "_law_letter"]) (sc := defScope sWords) (by decide +kernel)) (fun _ _ _ _ _ => pg_name (i := 8) scWs.nd rfl (Or.inl rfl))
            (fun _ _ _ _ _ => pts_one (pt_cmpR op_notIn_seq (pv 8) (pv 5) rfl)) (fun _ _ _ _ _ => pv 8)) pe_int (fun _ _ => rfl)))) pss_nil)
        (pss_one (ps_expr (pe_bm PySem.F.plainAttrs_list PySem.F.slot_list_append PySem.F.type_list_append mt_append (pv 5) (pa_cons (pv 7) pa_nil))))))))
      (pss_one (ps_ret (pv 5))))), ?_⟩
    refine ⟨_, rfl, p, t, rfl, hp, by omega, fun base' H1 t2 b1 b2 b3 bt1 hp1 tt1 => ?_⟩
    refine ⟨_, rfl, p, 3, t2, rfl, hp1, by decide, by decide, by omega, fun r t3 o r0 r1 tt2 hp2 => ?_⟩
    refine ⟨rfl, _, _, rfl, ?_⟩
    refine ⟨_, rfl, _, rfl, base', rfl, by have := sizeLine_eq; omega, p, _, t3, rfl, hp2, by omega, by omega, by omega, fun spot t4 o4 s0 s1 tt4 hp4 => ?_⟩
    refine ⟨Nat.zero_le _, fun L hL => ?_⟩
    refine ⟨by show 2 ≤ sizeLine; decide, fun T1 hT1 => ?_⟩
    have hL0 : H L = none := by
      have z := upd_none' (upd_none' hL)
      exact bt1.fr z (fun e => by obtain ⟨u, hu⟩ := hp1.some; rw [← e, z] at hu; cases hu)
    have npL : p ≠ L := by obtain ⟨u, hu⟩ := hp4.some; exact ne_of_none hu hL
    have nTL : L ≠ T1 := fun e => by rw [← e, upd_same] at hT1; cases hT1
    have npT : p ≠ T1 := by
      obtain ⟨u, hu⟩ := (hp4.upd (o := .lst []) npL).some
      exact ne_of_none hu hT1
    refine ⟨T1, _, rfl, SqT.of upd_same, rfl, _, _, rfl, _, _, rfl, rfl, ?_⟩
    have wb : Wd base' := ⟨b1, b2, b3⟩
    refine ⟨_, rfl, n, rfl, by omega, by omega, ?_⟩
    refine for_range (n := n.toNat) (fun i σ H' => ∃ (v6 v7 : Option V) (ss : List Str) (t' : Int), σ = [some (.ref p), some (.int n), some (.str base'), some (.bl (decide (V.int r = V.int 0))), some (.int spot), some (.ref L), v6, v7, none] ∧ But p H H' ∧ SL H' L ss ∧ ss.length = i ∧ ss.Nodup ∧ (∀ x ∈ ss, Wd x) ∧ Purse H' p t' ∧ t' ≤ t + 12 + 12 * i)
      ⟨none, none, [], t4, rfl, ?_, ?_, rfl, List.nodup_nil, (fun x hx => by cases hx), (hp4.upd npL).upd npT, by omega⟩ ?_ ?_
    · exact ((bt1.trans (But.upd p _ o)).trans (But.upd p _ o4)).trans ((But.new hL).trans (But.new hT1))
    · rw [SL, upd_ne nTL, upd_same]; rfl
    · rintro i σ HX hi ⟨v6, v7, ss, tX, rfl, bX, hLX, ls, nd, aw, hpX, ttX⟩
      have li : i < 20 := by omega
      refine ⟨_, rfl, _, rfl, _, rfl, base', rfl, by rw [sizeLine_eq]; omega, _, rfl, p, 26, tX, rfl, hpX, by decide, by decide, by omega, fun rc tY oY y0 y1 ttY hpY => ?_⟩
      obtain ⟨cc, ec, c1, c2⟩ := abc_at rc y0 y1
      refine ⟨_, rc, cc, rfl, rfl, by decide +kernel, ec, _, _, rfl, rfl, ?_, _, rfl, _, rfl, _, _, rfl, rfl, _, rfl, base', rfl, by rw [sizeLine_eq]; omega, _, _, rfl, rfl, ?_, ?_⟩
      · exact bent_len1 wb
      · exact bent_len2 wb
      have wwX := wd_bent wb s0 s1 c1 c2
      generalize cutS base' none (some spot) ++ ⟨#[cc]⟩ ++ cutS base' (some (spot + 1)) none = wX at wwX
      replace bX := bX.trans (But.upd p HX oY)
      replace hLX : SL (L2.upd HX p oY) L ss := by rw [SL, upd_ne npL.symm]; exact hLX
      replace hpX := hpY
      generalize L2.upd HX p oY = HX at bX hLX hpX
      clear hpY
      refine ⟨_, rfl, _, rfl, ?_⟩
      refine ite2 (fun _ => ?_) (fun _ => ?_)
      · refine ⟨_, rfl, p, tY, rfl, hpX, by omega, fun wX HX2 tX2 w1 w2 w3 btX hpX2 ttX2 => ?_⟩
        have wwX : Wd wX := ⟨w1, w2, w3⟩
        replace bX := bX.trans btX
        replace hLX : SL HX2 L ss := btX _ _ npL.symm hLX
        replace hpX := hpX2
        refine ⟨_, rfl, _, rfl, L, _, rfl, .inl hLX.sq, rfl, flat_strs ss, ?_⟩
        refine ⟨_, rfl, ?_⟩
        rw [if_neg (by decide), inV_str]
        refine ite2 (fun c => ?_) (fun c => ?_)
        · refine ⟨_, rfl, by decide +kernel, fun q hq => ⟨q, rfl, ⟨_, SqL.of upd_same⟩, fun D hD => ?_⟩⟩
          have nqL : L ≠ q := ne_of_none hLX hq
          have hDX : HX2 D = none := upd_none' hD
          have nDL : L ≠ D := ne_of_none hLX hDX
          have nDq : q ≠ D := fun e => by rw [e, upd_same] at hD; cases hD
          refine lc_list (K := K) (a := q) (xs := (signs abc).map V.str) (fun j H' => Same HX2 H' ∧ SL H' q (signs abc) ∧ SL H' D (((signs abc).take j).filter fun x => decide (x ∉ ss)))
            ⟨fun b u e => by rw [upd_ne (ne_of_none e hDX), upd_ne (ne_of_none e hq)]; exact e, by rw [SL, upd_ne nDq, upd_same]; rfl, by rw [SL, upd_same]; rfl⟩ (fun j H' _ z => z.2.1.sq) ?_ ?_
          · rintro j x H' hx ⟨sm, hq', hD'⟩
            obtain ⟨z, hz, rfl⟩ := get_map hx
            refine ⟨rfl, _, rfl, _, rfl, L, _, rfl, .inl (hLX.same sm).sq, rfl, flat_strs ss, ?_⟩
            refine ⟨_, rfl, ?_⟩
            rw [if_pos rfl, inV_str]
            have lj : j < 26 := by rw [← abc_len]; exact (List.getElem?_eq_some_iff.mp hz).1
            by_cases hzs : z ∈ ss
            · have e1 : decide (z ∈ ss) = true := decide_eq_true hzs
              rw [e1]
              refine iteF ?_
              refine ⟨sm, hq', ?_⟩
              rw [filt_no hz (by simpa using hzs)]
              exact hD'
            · have e1 : decide (z ∈ ss) = false := decide_eq_false hzs
              rw [e1]
              refine iteT ?_
              refine ⟨_, rfl, _, hD', by rw [List.length_map, sizeLine_eq]; exact Nat.lt_of_le_of_lt (List.length_filter_le _ _) (by rw [List.length_take]; omega), fun b u e => ?_, ?_, ?_⟩
              · rw [upd_ne (ne_of_none e hDX)]; exact sm _ _ e
              · rw [SL, upd_ne nDq]; exact hq'
              · rw [SL, upd_same, filt_yes hz (by simpa using hzs), List.map_append]
                rfl
          · rintro H' ⟨sm, hq', hD'⟩
            have lf : ((signs abc).map V.str).length = (signs abc).length := List.length_map _
            rw [lf, List.take_length] at hD'
            obtain ⟨x, rr, ex, nx, wx⟩ := abc_left (ss := ss) (by omega)
            refine ⟨D, _, 0, .str x, rfl, rfl, SqL.of hD', by rw [ex]; exact atI_nat (j := 0) rfl, ?_⟩
            refine ⟨_, rfl, .inl ⟨rfl, _, SqL.of (hLX.same sm)⟩, _, rfl, L, _, _, rfl, rfl, hLX.same sm, by rw [List.length_map, sizeLine_eq]; omega, ?_⟩
            exact ⟨_, _, ss ++ [x], tX2, rfl, But.ofL hL0 (bX.trans (But.of sm)), by rw [SL, upd_same, List.map_append]; rfl, by rw [List.length_append, ls]; rfl, nodup_app nd nx, wd_app aw wx, (hpX.same sm).upd npL, by omega⟩
        · refine ⟨_, rfl, .inl ⟨rfl, _, SqL.of hLX⟩, _, rfl, L, _, _, rfl, rfl, hLX, by rw [List.length_map, sizeLine_eq]; omega, ?_⟩
          exact ⟨_, _, ss ++ [wX], tX2, rfl, But.ofL hL0 bX, by rw [SL, upd_same, List.map_append]; rfl, by rw [List.length_append, ls]; rfl, nodup_app nd (of_decide_eq_false (Bool.eq_false_iff.mpr c)), wd_app aw wwX, hpX.upd npL, by omega⟩
      · refine ⟨_, rfl, _, rfl, L, _, rfl, .inl hLX.sq, rfl, flat_strs ss, ?_⟩
        refine ⟨_, rfl, ?_⟩
        rw [if_neg (by decide), inV_str]
        refine ite2 (fun c => ?_) (fun c => ?_)
        · refine ⟨_, rfl, by decide +kernel, fun q hq => ⟨q, rfl, ⟨_, SqL.of upd_same⟩, fun D hD => ?_⟩⟩
          have nqL : L ≠ q := ne_of_none hLX hq
          have hDX : HX D = none := upd_none' hD
          have nDL : L ≠ D := ne_of_none hLX hDX
          have nDq : q ≠ D := fun e => by rw [e, upd_same] at hD; cases hD
          refine lc_list (K := K) (a := q) (xs := (signs abc).map V.str) (fun j H' => Same HX H' ∧ SL H' q (signs abc) ∧ SL H' D (((signs abc).take j).filter fun x => decide (x ∉ ss)))
            ⟨fun b u e => by rw [upd_ne (ne_of_none e hDX), upd_ne (ne_of_none e hq)]; exact e, by rw [SL, upd_ne nDq, upd_same]; rfl, by rw [SL, upd_same]; rfl⟩ (fun j H' _ z => z.2.1.sq) ?_ ?_
          · rintro j x H' hx ⟨sm, hq', hD'⟩
            obtain ⟨z, hz, rfl⟩ := get_map hx
            refine ⟨rfl, _, rfl, _, rfl, L, _, rfl, .inl (hLX.same sm).sq, rfl, flat_strs ss, ?_⟩
            refine ⟨_, rfl, ?_⟩
            rw [if_pos rfl, inV_str]
            have lj : j < 26 := by rw [← abc_len]; exact (List.getElem?_eq_some_iff.mp hz).1
            by_cases hzs : z ∈ ss
            · have e1 : decide (z ∈ ss) = true := decide_eq_true hzs
              rw [e1]
              refine iteF ?_
              refine ⟨sm, hq', ?_⟩
              rw [filt_no hz (by simpa using hzs)]
              exact hD'
            · have e1 : decide (z ∈ ss) = false := decide_eq_false hzs
              rw [e1]
              refine iteT ?_
              refine ⟨_, rfl, _, hD', by rw [List.length_map, sizeLine_eq]; exact Nat.lt_of_le_of_lt (List.length_filter_le _ _) (by rw [List.length_take]; omega), fun b u e => ?_, ?_, ?_⟩
              · rw [upd_ne (ne_of_none e hDX)]; exact sm _ _ e
              · rw [SL, upd_ne nDq]; exact hq'
              · rw [SL, upd_same, filt_yes hz (by simpa using hzs), List.map_append]
                rfl
          · rintro H' ⟨sm, hq', hD'⟩
            have lf : ((signs abc).map V.str).length = (signs abc).length := List.length_map _
            rw [lf, List.take_length] at hD'
            obtain ⟨x, rr, ex, nx, wx⟩ := abc_left (ss := ss) (by omega)
            refine ⟨D, _, 0, .str x, rfl, rfl, SqL.of hD', by rw [ex]; exact atI_nat (j := 0) rfl, ?_⟩
            refine ⟨_, rfl, .inl ⟨rfl, _, SqL.of (hLX.same sm)⟩, _, rfl, L, _, _, rfl, rfl, hLX.same sm, by rw [List.length_map, sizeLine_eq]; omega, ?_⟩
            exact ⟨_, _, ss ++ [x], tY, rfl, But.ofL hL0 (bX.trans (But.of sm)), by rw [SL, upd_same, List.map_append]; rfl, by rw [List.length_append, ls]; rfl, nodup_app nd nx, wd_app aw wx, (hpX.same sm).upd npL, by omega⟩
        · refine ⟨_, rfl, .inl ⟨rfl, _, SqL.of hLX⟩, _, rfl, L, _, _, rfl, rfl, hLX, by rw [List.length_map, sizeLine_eq]; omega, ?_⟩
          exact ⟨_, _, ss ++ [wX], tY, rfl, But.ofL hL0 bX, by rw [SL, upd_same, List.map_append]; rfl, by rw [List.length_append, ls]; rfl, nodup_app nd (of_decide_eq_false (Bool.eq_false_iff.mpr c)), wd_app aw wwX, hpX.upd npL, by omega⟩
    · rintro σ H' ⟨v6, v7, ss, t', rfl, b, hS, ls, nd, aw, hp', tt⟩
      exact ⟨_, rfl, k H' L ss t' b hL0 hS ls nd aw hp' (by omega)⟩
end
end D1
end L2
/-! pool, turns -/
namespace L2
namespace D1
open PySem PySem.Spec PyProof.Rows
def unS : V → Str
  | .str x => x
  | _ => ""
theorem Purse.ne {H : Hp} {p q : Addr} {t : Int} (h : Purse H p t) (n : H q = none) : q ≠ p := by
  obtain ⟨u, hu⟩ := h.some; exact (ne_of_none hu n).symm
theorem Purse.new {H : Hp} {p q : Addr} {t : Int} {o : HO} (h : Purse H p t) (n : H q = none) : Purse (L2.upd H q o) p t := h.upd (h.ne n).symm
theorem SL.new {H : Hp} {q a : Addr} {ss : List Str} {o : HO} (h : SL H a ss) (n : H q = none) : SL (L2.upd H q o) a ss := h.same (Same.new n)
theorem But.newt {p q : Addr} {H H1 : Hp} {o : HO} (h : But p H H1) (n : H1 q = none) : But p H (L2.upd H1 q o) := h.trans (But.new n)
theorem unS_map (ss : List Str) : (ss.map V.str).map unS = ss := by
  rw [List.map_map]
  exact List.map_id'' (fun _ => rfl) ss
/-- a permutation of texts is one of texts -/
theorem perm_str {ys : List V} {ss : List Str} (h : ys.Perm (ss.map V.str)) : ∃ zs : List Str, ys = zs.map V.str ∧ zs.Perm ss := by
  have a : ∀ y ∈ ys, y = V.str (unS y) := fun y hy => by
    obtain ⟨x, _, rfl⟩ := List.mem_map.mp (h.mem_iff.mp hy)
    rfl
  refine ⟨ys.map unS, ?_, ?_⟩
  · rw [List.map_map]
    refine (List.map_congr_left (g := id) fun y hy => (a y hy).symm).trans ?_ |>.symm
    exact List.map_id ys
  · have := h.map unS
    rwa [unS_map] at this
def cutL {α : Type} (xs : List α) (lo hi : Option Int) : List α := (xs.drop (HT.sIx xs.length 0 lo)).take (HT.sIx xs.length xs.length hi - HT.sIx xs.length 0 lo)
theorem cutV_map (ss : List Str) (lo hi : Option Int) : cutV (ss.map V.str) lo hi = (cutL ss lo hi).map V.str := by
  unfold cutV cutL
  rw [List.length_map, List.map_take, List.map_drop]
theorem cutL_to {α : Type} (xs : List α) {k : Int} (h : 0 ≤ k) : cutL xs none (some k) = xs.take k.toNat := by
  unfold cutL
  rw [HT.sIx_none, sIx_of h, Nat.sub_zero, List.drop_zero]
  rcases Nat.le_total k.toNat xs.length with q | q
  · rw [Nat.min_eq_left q]
  · rw [Nat.min_eq_right q, List.take_of_length_le (Nat.le_refl _), List.take_of_length_le q]
theorem cutL_from {α : Type} (xs : List α) {k : Int} (h : 0 ≤ k) : cutL xs (some k) none = xs.drop k.toNat := by
  unfold cutL
  rw [HT.sIx_none, sIx_of h]
  rcases Nat.le_total k.toNat xs.length with q | q
  · rw [Nat.min_eq_left q]
    exact List.take_of_length_le (by rw [List.length_drop]; omega)
  · rw [Nat.min_eq_right q, List.drop_of_length_le (Nat.le_refl _), List.drop_of_length_le q, List.take_nil]
abbrev sTurns : Stmt := top 47
def spPool : Sp := fun vs H Q _ => ∃ (p : Addr) (t : Int), vs = [.ref p] ∧ Purse H p t ∧ t < 2 ^ 27 ∧
  ∀ (H' : Hp) (R : Addr) (ss : List Str) (t' : Int), But p H H' → H R = none → SL H' R ss → ss.length = 6 → ss.Nodup → (∀ x ∈ ss, Wd x) → Purse H' p t' → t' ≤ t + 400 → Q (.ref R) H'
/-- turns as they stand in a dict -/
def kT (ts : List (Str × Str)) : List (Key × V) := ts.map fun t => (Sum.inr t.1, V.str t.2)
def putT (ts : List (Str × Str)) (k v : Str) : List (Str × Str) := if (ts.any fun t => decide (t.1 = k)) = true then ts.map (fun t => if t.1 = k then (t.1, v) else t) else ts ++ [(k, v)]
theorem any_kT (ts : List (Str × Str)) (k : Str) : ((kT ts).any fun kv => decide (kv.1 = Sum.inr k)) = ts.any fun t => decide (t.1 = k) := by
  rw [kT, List.any_map]
  refine congrArg (fun f => ts.any f) (funext fun t => ?_)
  show decide ((Sum.inr t.1 : Key) = Sum.inr k) = _
  by_cases h : t.1 = k
  · rw [h]; simp
  · have : ¬ (Sum.inr t.1 : Key) = Sum.inr k := fun e => h (Sum.inr.inj e)
    simp [h, this]
theorem putK_kT (ts : List (Str × Str)) (k v : Str) : putK (kT ts) (.inr k) (.str v) = kT (putT ts k v) := by
  unfold putK putT
  rw [any_kT]
  by_cases h : (ts.any fun t => decide (t.1 = k)) = true
  · rw [if_pos h, if_pos h, kT, kT, List.map_map, List.map_map]
    refine List.map_congr_left fun t _ => ?_
    show (if (Sum.inr t.1 : Key) = Sum.inr k then ((Sum.inr t.1 : Key), V.str v) else ((Sum.inr t.1 : Key), V.str t.2)) = _
    by_cases e : t.1 = k
    · rw [if_pos (congrArg _ e)]; simp [e]
    · rw [if_neg fun z => e (Sum.inr.inj z)]; simp [e]
  · rw [if_neg h, if_neg h, kT, kT, List.map_append]
    rfl
theorem any_mem (ts : List (Str × Str)) (k : Str) : ((ts.any fun t => decide (t.1 = k)) = true) ↔ k ∈ ts.map (·.1) := by
  rw [List.any_eq_true]
  constructor
  · rintro ⟨t, ht, e⟩
    exact List.mem_map.mpr ⟨t, ht, of_decide_eq_true e⟩
  · intro h
    obtain ⟨t, ht, e⟩ := List.mem_map.mp h
    exact ⟨t, ht, decide_eq_true e⟩
theorem putT_keys (ts : List (Str × Str)) (k v : Str) : (putT ts k v).map (·.1) = if k ∈ ts.map (·.1) then ts.map (·.1) else ts.map (·.1) ++ [k] := by
  unfold putT
  by_cases h : (ts.any fun t => decide (t.1 = k)) = true
  · rw [if_pos h, if_pos ((any_mem ts k).mp h), List.map_map]
    refine List.map_congr_left fun t _ => ?_
    show (if t.1 = k then (t.1, v) else t).1 = t.1
    by_cases e : t.1 = k
    · rw [if_pos e]
    · rw [if_neg e]
  · rw [if_neg h, if_neg fun z => h ((any_mem ts k).mpr z), List.map_append]
    rfl
theorem putT_goal {ts : List (Str × Str)} {k v : Str} : ∀ t ∈ putT ts k v, t.2 = v ∨ t ∈ ts := by
  unfold putT
  intro t ht
  by_cases h : (ts.any fun t => decide (t.1 = k)) = true
  · rw [if_pos h] at ht
    obtain ⟨u, hu, e⟩ := List.mem_map.mp ht
    by_cases c : u.1 = k
    · rw [if_pos c] at e; exact .inl (by rw [← e])
    · rw [if_neg c] at e; exact .inr (e ▸ hu)
  · rw [if_neg h] at ht
    rcases List.mem_append.mp ht with ht | ht
    · exact .inr ht
    · obtain rfl := List.mem_singleton.mp ht; exact .inl rfl
def TurnsAt (H : Hp) (a : Addr) (ts : List (Str × Str)) : Prop := H a = some (.dK (kT ts))
theorem TurnsAt.same {H H' : Hp} {a : Addr} {ts : List (Str × Str)} (h : TurnsAt H a ts) (s : Same H H') : TurnsAt H' a ts := s _ _ h
/-- turns over the words ws to the states ss -/
structure TOk (ts : List (Str × Str)) (ss ws : List Str) : Prop where
  nd : (ts.map (·.1)).Nodup
  ks : ∀ t ∈ ts, t.1 ∈ ws
  gs : ∀ t ∈ ts, t.2 ∈ ss
theorem TOk.nil {ss ws : List Str} : TOk [] ss ws := ⟨List.nodup_nil, by simp, by simp⟩
theorem TOk.len {ts : List (Str × Str)} {ss ws : List Str} (h : TOk ts ss ws) : ts.length ≤ ws.length := by
  have := pigeon (ts.map (·.1)) ws h.nd fun x hx => by obtain ⟨t, ht, rfl⟩ := List.mem_map.mp hx; exact h.ks t ht
  rwa [List.length_map] at this
theorem TOk.put {ts : List (Str × Str)} {ss ws : List Str} {k v : Str} (h : TOk ts ss ws) (hk : k ∈ ws) (hv : v ∈ ss) : TOk (putT ts k v) ss ws := by
  refine ⟨?_, fun t ht => ?_, fun t ht => ?_⟩
  · rw [putT_keys]
    by_cases c : k ∈ ts.map (·.1)
    · rw [if_pos c]; exact h.nd
    · rw [if_neg c]; exact nodup_app h.nd c
  · have : t.1 ∈ (putT ts k v).map (·.1) := List.mem_map_of_mem ht
    rw [putT_keys] at this
    have key : t.1 ∈ ts.map (·.1) → t.1 ∈ ws := fun z => by obtain ⟨u, hu, e⟩ := List.mem_map.mp z; rw [← e]; exact h.ks u hu
    by_cases c : k ∈ ts.map (·.1)
    · rw [if_pos c] at this; exact key this
    · rw [if_neg c] at this
      rcases List.mem_append.mp this with z | z
      · exact key z
      · rw [List.mem_singleton.mp z]; exact hk
  · rcases putT_goal t ht with e | e
    · rw [e]; exact hv
    · exact h.gs t e
theorem putT_ne {ts : List (Str × Str)} {k v : Str} : putT ts k v ≠ [] := fun e => by
  have := congrArg (List.map (·.1)) e
  rw [putT_keys] at this
  by_cases c : k ∈ ts.map (·.1)
  · rw [if_pos c] at this
    have e2 : ts.map (·.1) = [] := this
    rw [e2] at c; cases c
  · rw [if_neg c] at this; simp at this
def spTurns : Sp := fun vs H Q _ => ∃ (p S W : Addr) (ss ws : List Str) (at' top' t : Int), vs = [.ref p, .ref S, .ref W, .int at', .int top'] ∧ Purse H p t ∧ SL H S ss ∧ SL H W ws ∧ S ≠ p ∧ W ≠ p ∧ 1 ≤ ss.length ∧ ss.length ≤ 1000 ∧ 1 ≤ ws.length ∧ ws.length ≤ 20 ∧ ws.Nodup ∧ 0 ≤ at' ∧ at' < 2 ^ 20 ∧ 1 ≤ top' ∧ top' < 2 ^ 20 ∧ t < 2 ^ 27 ∧
  ∀ (H' : Hp) (R : Addr) (ts : List (Str × Str)) (t' : Int), But p H H' → H R = none → TurnsAt H' R ts → TOk ts ss ws → ts ≠ [] → Purse H' p t' → t' ≤ t + 50 → Q (.ref R) H'
def nmsL : List Str := ["says", "hears", "done", "start", "end"]
theorem nms_wd : ∀ x ∈ nmsL, Wd x := by
  have h : ∀ x ∈ nmsL, 1 ≤ x.length ∧ x.length ≤ 8 ∧ ∀ c ∈ tl x, 97 ≤ c ∧ c ≤ 122 := by decide +kernel
  exact fun x hx => ⟨(h x hx).1, (h x hx).2.1, (h x hx).2.2⟩
theorem nms_nd : nmsL.Nodup := by decide +kernel
section
variable {P : Program} {w : World} {K : PySem.W.Frag} {mg : Str → Option Value} {base : Heap}
abbrev COne (P : Program) (w : World) (K : PySem.W.Frag) (mg : Str → Option Value) (base : Heap) := Cal P w K mg base "_law_one_of" 3 ["_law_purse_here", "_law_some"] spOneOf
theorem scPo : FnScope ["_law_purse_here", "_law_words_here", "_law_word_here"] ["_law_purse_here"] (defScope sPool) := ⟨rfl, rfl, rfl, by decide +kernel, rfl, by decide +kernel, by decide +kernel⟩
theorem ok_pool {f : Addr} {fd : FuncData} (F : Fun K "_law_pool" "_law_pool" sPool f fd) (T : Free2 mg) (CD : CDraw P w K mg base) (CW : CWords P w K mg base) (CS : CShuf P w K mg base) :
    FnOk P w K mg base CX0 5 f fd ["_law_purse_here"] spPool := by
  refine F.ok scPo (fun vs H Q E h => ?_) (fun cdv A outer s H vs Q E hr h => ?_)
  · obtain ⟨p, t, rfl, _⟩ := h; rfl
  · obtain ⟨p, t, rfl, hp, t1, k⟩ := h
    refine ⟨_, pss_cons (ps_set (i := 1) scPo.nd rfl (Or.inr rfl) (pe_cal CW (hr.mono (by decide)) rfl (pa_cons (pv 0) (pa_cons pe_int pa_nil))))
      (pss_cons (ps_if (pt_cmpR op_eq (pe_cal CD (hr.mono (by decide)) rfl (pa_cons (pv 0) (pa_cons pe_int pa_nil))) pe_int (nomark _))
        (pss_one (ps_set (i := 1) scPo.nd rfl (Or.inr rfl) (pe_slice sl_list (pe_op op_cat (pe_slice sl_list (pe_lc (own := [("_law_word_here", 2)]) (g := gName 2) (tt := tTest (tOp (rIn K true) (tVar 2) (tVar 1))) rfl scPo.nd
            (pi_list (pe_lst (pa_cons pe_str (pa_cons pe_str (pa_cons pe_str (pa_cons pe_str (pa_cons pe_str pa_nil)))))))
            (blkOk_by (N := ["_law_purse_here", "_law_words_here", "_law_word_here"]) (sc := defScope sPool) (by decide +kernel)) (fun _ _ _ _ _ => pg_name (i := 2) scPo.nd rfl (Or.inl rfl))
            (fun _ _ _ _ _ => pts_one (pt_cmpR op_notIn_seq (pv 2) (pv 1) rfl)) (fun _ _ _ _ _ => pv 2)) po_none (po_some pe_int)) (pv 1)) po_none (po_some pe_int)))) pss_nil)
      (pss_one (ps_ret (pe_cal CS (hr.mono (by decide)) rfl (pa_cons (pv 0) (pa_cons (pv 1) pa_nil)))))), ?_⟩
    refine ⟨_, rfl, p, 6, t, rfl, hp, by decide, by decide, by omega, fun H1 R ss t1' b1 hR hS ls nd aw hp1 tt1 => ?_⟩
    refine ⟨_, rfl, p, 3, t1', rfl, hp1, by decide, by decide, by omega, fun r t2 o r0 r1 tt2 hp2 => ?_⟩
    have nRp : R ≠ p := fun e => by obtain ⟨u, hu⟩ := hp.some; rw [← e, hR] at hu; cases hu
    have b2 := b1.trans (But.upd p H1 o)
    have hS2 : SL (L2.upd H1 p o) R ss := by rw [SL, upd_ne nRp]; exact hS
    generalize L2.upd H1 p o = H2 at b2 hS2 hp2
    refine ⟨rfl, _, rfl, ?_⟩
    refine ite2 (fun _ => ?_) (fun _ => ?_)
    · refine ⟨by show 5 ≤ sizeLine; decide, fun q hq => ⟨q, rfl, ⟨_, SqL.of upd_same⟩, fun D hD => ?_⟩⟩
      have nRq : R ≠ q := ne_of_none hS2 hq
      have hD2 := upd_none' hD
      have nRD : R ≠ D := ne_of_none hS2 hD2
      have nDq : q ≠ D := fun e => by rw [e, upd_same] at hD; cases hD
      refine lc_list (K := K) (a := q) (xs := nmsL.map V.str) (fun j H' => Same H2 H' ∧ SL H' q nmsL ∧ SL H' D ((nmsL.take j).filter fun x => decide (x ∉ ss)))
        ⟨fun b u e => by rw [upd_ne (ne_of_none e hD2), upd_ne (ne_of_none e hq)]; exact e, by rw [SL, upd_ne nDq, upd_same]; rfl, by rw [SL, upd_same]; rfl⟩ (fun j H' _ z => z.2.1.sq) ?_ ?_
      · rintro j x H' hx ⟨sm, hq', hD'⟩
        obtain ⟨z, hz, rfl⟩ := get_map hx
        refine ⟨rfl, _, rfl, _, rfl, R, _, rfl, .inl (hS2.same sm).sq, rfl, flat_strs ss, ?_⟩
        refine ⟨_, rfl, ?_⟩
        rw [if_pos rfl, inV_str]
        have lj : j < 5 := (List.getElem?_eq_some_iff.mp hz).1
        by_cases hzs : z ∈ ss
        · rw [decide_eq_true hzs]
          refine iteF ⟨sm, hq', ?_⟩
          rw [filt_no hz (by simpa using hzs)]
          exact hD'
        · rw [decide_eq_false hzs]
          refine iteT ⟨_, rfl, _, hD', by rw [List.length_map, sizeLine_eq]; exact Nat.lt_of_le_of_lt (List.length_filter_le _ _) (by rw [List.length_take]; omega), fun b u e => ?_, ?_, ?_⟩
          · rw [upd_ne (ne_of_none e hD2)]; exact sm _ _ e
          · rw [SL, upd_ne nDq]; exact hq'
          · rw [SL, upd_same, filt_yes hz (by simpa using hzs), List.map_append]
            rfl
      · rintro H3 ⟨sm, hq', hD'⟩
        rw [show (nmsL.map V.str).length = 5 from rfl, show nmsL.take 5 = nmsL from rfl] at hD'
        refine ⟨_, rfl, D, _, rfl, SqL.of hD', fun q2 hq2 => ?_⟩
        have hR3 := hS2.same sm
        refine ⟨_, rfl, q2, R, _, _, rfl, rfl, upd_same, by rw [upd_ne (ne_of_none hR3 hq2)]; exact hR3, ?_, fun q3 hq3 => ?_⟩
        · rw [cutV_map, List.length_map, List.length_map, cutL_to _ (by decide), List.length_take, sizeLine_eq, ls]; omega
        refine ⟨_, rfl, q3, _, rfl, SqL.of upd_same, fun q4 hq4 => ?_⟩
        rw [cutV_map, ← List.map_append, cutV_map, cutL_to _ (by decide), cutL_to _ (by decide)]
        rw [cutV_map, ← List.map_append, cutL_to _ (by decide)] at hq4
        rw [cutV_map, cutL_to _ (by decide)] at hq3
        have wf : ∀ x ∈ nmsL.filter (fun x => decide (x ∉ ss)), x ∉ ss ∧ Wd x := fun x hx => by
          obtain ⟨h1, h2⟩ := List.mem_filter.mp hx
          exact ⟨by simpa using h2, nms_wd x h1⟩
        have nf : (nmsL.filter (fun x => decide (x ∉ ss))).Nodup := nms_nd.filter _
        generalize nmsL.filter (fun x => decide (x ∉ ss)) = fs at wf nf hq3 hq4 ⊢
        have lf : ((fs.take (2 : Int).toNat ++ ss).take (6 : Int).toNat).length = 6 := by
          rw [List.length_take, List.length_append, ls]; show min 6 _ = 6; omega
        have ndf : ((fs.take (2 : Int).toNat ++ ss).take (6 : Int).toNat).Nodup :=
          List.Nodup.sublist (List.take_sublist _ _) (List.nodup_append.mpr ⟨List.Nodup.sublist (List.take_sublist _ _) nf, nd, fun x hx y hy e => (wf x (List.mem_of_mem_take hx)).1 (e ▸ hy)⟩)
        have awf : ∀ x ∈ (fs.take (2 : Int).toNat ++ ss).take (6 : Int).toNat, Wd x := fun x hx => by
          rcases List.mem_append.mp (List.mem_of_mem_take hx) with z | z
          · exact (wf x (List.mem_of_mem_take z)).2
          · exact aw x z
        generalize (fs.take (2 : Int).toNat ++ ss).take (6 : Int).toNat = gs at lf ndf awf
        have b3 : But p H H3 := b2.trans (But.of sm)
        have hp3 := hp2.same sm
        refine ⟨_, rfl, _, rfl, p, q4, _, t2, rfl, ((hp3.new hq2).new hq3).new hq4, upd_same, ((hp3.new hq2).new hq3).ne hq4, by rw [List.length_map, lf]; decide, by omega, fun H5 R5 ys t5 b5 hR5 hy pm hp5 tt5 => ?_⟩
        obtain ⟨zs, rfl, pz⟩ := perm_str pm
        rw [List.length_map, lf] at tt5
        exact k H5 R5 zs t5 ((((b3.newt hq2).newt hq3).newt hq4).trans b5) ((((b3.newt hq2).newt hq3).newt hq4).fr hR5 ((((hp3.new hq2).new hq3).new hq4).ne hR5)) hy (by rw [pz.length_eq, lf]) (pz.nodup_iff.mpr ndf) (fun x hx => awf x (pz.mem_iff.mp hx)) hp5 (by omega)
    · refine ⟨_, rfl, _, rfl, p, R, _, t2, rfl, hp2, hS2, nRp, by rw [List.length_map, ls]; decide, by omega, fun H5 R5 ys t5 b5 hR5 hy pm hp5 tt5 => ?_⟩
      obtain ⟨zs, rfl, pz⟩ := perm_str pm
      rw [List.length_map, ls] at tt5
      exact k H5 R5 zs t5 (b2.trans b5) (b2.fr hR5 (hp2.ne hR5)) hy (by rw [pz.length_eq, ls]; rfl) (pz.nodup_iff.mpr nd) (fun x hx => aw x (pz.mem_iff.mp hx)) hp5 (by omega)
theorem scTu : FnScope ["_law_purse_here", "_law_states", "_law_words_here", "_law_at", "_law_top", "_law_many", "_law_found", "_law_word_here"] ["_law_purse_here", "_law_states", "_law_words_here", "_law_at", "_law_top"] (defScope sTurns) := ⟨rfl, rfl, rfl, by decide +kernel, rfl, by decide +kernel, by decide +kernel⟩
theorem ok_turns {f : Addr} {fd : FuncData} (F : Fun K "_law_turns" "_law_turns" sTurns f fd) (T : Free2 mg) (CD : CDraw P w K mg base) (CO : COne P w K mg base) (CS : CShuf P w K mg base) :
    FnOk P w K mg base CX0 4 f fd ["_law_purse_here", "_law_states", "_law_words_here", "_law_at", "_law_top"] spTurns := by
  refine F.ok scTu (fun vs H Q E h => ?_) (fun cdv A outer s H vs Q E hr h => ?_)
  · obtain ⟨p, S, W, ss, ws, a, b, t, rfl, _⟩ := h; rfl
  · obtain ⟨p, S, W, ss, ws, at', top', t, rfl, hp, hS, hW, nS, nW, s1, s2, w1, w2, wnd, a0, a1, p0, p1, t1, k⟩ := h
    have hu := hu_of hr
    refine ⟨_, pss_cons (ps_par (i := 5) (j := 6) rfl scTu.nd rfl rfl (by decide) rfl rfl (pa_cons (pe_op op_add pe_int (pe_cal CD (hr.mono (by decide)) rfl (pa_cons (pv 0) (pa_cons (pe_callB (call_max2 rfl) (by rfl) T.max (by decide +kernel) (pa_cons pe_int (pa_cons (pe_callB (call_min2 rfl) (by rfl) T.min (by decide +kernel) (pa_cons (pv 4) (pa_cons (pe_callB call_len_seq (by rfl) T.len PySem.boot_len (pa_cons (pv 2) pa_nil)) pa_nil))) pa_nil))) pa_nil)))) (pa_cons pe_dnewK pa_nil)) (by rfl))
      (pss_cons (ps_for PassesOwn.never rfl (pi_list (pe_slice sl_list (pe_cal CS (hr.mono (by decide)) rfl (pa_cons (pv 0) (pa_cons (pv 2) pa_nil))) po_none (po_some (pv 5)))) (pg_name (i := 7) scTu.nd rfl (Or.inl rfl))
        (pss_one (ps_dput hu (pv 6) (pv 7) (pe_cal CO (hr.mono (by decide)) rfl (pa_cons (pv 0) (pa_cons (pv 1) pa_nil))) rfl)))
      (pss_cons (ps_if (PW.pt (pw_and (pt_cmpR op_lt (pe_op op_add (pv 3) pe_int) (pe_callB call_len_seq (by rfl) T.len PySem.boot_len (pa_cons (pv 1) pa_nil)) (nomark _)) (pw_and1 (pt_cmpR op_gt (pe_cal CD (hr.mono (by decide)) rfl (pa_cons (pv 0) (pa_cons pe_int pa_nil))) pe_int (nomark _)))))
        (pss_one (ps_dput hu (pv 6) (pe_cal CO (hr.mono (by decide)) rfl (pa_cons (pv 0) (pa_cons (pe_callTy (call_listD rfl) (by rfl) T.list (by decide +kernel) (pa_cons (pv 6) pa_nil)) pa_nil))) (pe_cal CO (hr.mono (by decide)) rfl (pa_cons (pv 0) (pa_cons (pe_slice sl_list (pv 1) (po_some (pe_op op_add (pv 3) pe_int)) po_none) pa_nil))) rfl)) pss_nil)
      (pss_one (ps_ret (pv 6))))), ?_⟩
    refine ⟨_, rfl, _, rfl, _, rfl, W, _, rfl, .inl hW.sq, top', _, rfl, ?_⟩
    rw [List.length_map]
    refine ⟨1, _, rfl, ?_⟩
    generalize hM : (if (if (ws.length : Int) < top' then (ws.length : Int) else top') > 1 then (if (ws.length : Int) < top' then (ws.length : Int) else top') else (1 : Int)) = M
    have bM : 1 ≤ M ∧ M ≤ 20 := by
      rw [← hM]
      (repeat' split) <;> omega
    refine ⟨p, M, t, rfl, hp, bM.1, by omega, by omega, fun r t2 o r0 r1 tt2 hp2 => ?_⟩
    refine ⟨_, _, rfl, rfl, fun D hD => ⟨_, _, rfl, ?_⟩⟩
    have hS2 : SL (L2.upd H p o) S ss := by rw [SL, upd_ne nS]; exact hS
    have hW2 : SL (L2.upd H p o) W ws := by rw [SL, upd_ne nW]; exact hW
    have b2 := But.upd p H o
    generalize L2.upd H p o = H2 at hS2 hW2 hp2 b2 hD
    have hD0 := b2.fr hD (hp2.ne hD)
    refine ⟨_, rfl, _, rfl, p, W, _, t2, rfl, hp2.new hD, hW2.new hD, nW, by rw [List.length_map]; omega, by omega, fun H3 R ys t3 b3 hR hy pm hp3 tt3 => ?_⟩
    obtain ⟨zs, rfl, pz⟩ := perm_str pm
    refine ⟨_, rfl, _, rfl, R, _, rfl, SqL.of hy, fun q hq => ⟨q, rfl, ⟨_, SqL.of upd_same⟩, ?_⟩⟩
    rw [cutV_map, cutL_to _ (by omega)]
    have lz : zs.length = ws.length := pz.length_eq
    rw [List.length_map] at tt3
    have hm : 1 ≤ (1 + r).toNat := by omega
    generalize (1 + r).toNat = m at hm
    have lm : (zs.take m).length ≤ 20 ∧ 1 ≤ (zs.take m).length := by rw [List.length_take]; omega
    have mm : ∀ z ∈ zs.take m, z ∈ ws := fun z hz => pz.mem_iff.mp (List.mem_of_mem_take hz)
    generalize zs.take m = us at lm mm
    have nDp := hp2.ne hD
    have hS3 : SL H3 S ss := b3 _ _ nS (hS2.new hD)
    have hD3 : TurnsAt H3 D [] := b3 _ _ nDp upd_same
    have nqp := hp3.ne hq
    have nqD : D ≠ q := ne_of_none hD3 hq
    have b30 : But p H H3 := (b2.newt hD).trans b3
    refine for_list (K := K) (a := q) (xs := us.map V.str) (fun i σ H' => ∃ (v7 : Option V) (ts : List (Str × Str)) (t' : Int), σ = [some (.ref p), some (.ref S), some (.ref W), some (.int at'), some (.int top'), some (.int (1 + r)), some (.ref D), v7] ∧ But p H H' ∧ SL H' q us ∧ SL H' S ss ∧ TurnsAt H' D ts ∧ TOk ts ss ws ∧ (0 < i → ts ≠ []) ∧ Purse H' p t' ∧ t' ≤ t3 + i)
      ⟨none, [], t3, rfl, b30.newt hq, upd_same, hS3.new hq, hD3.same (Same.new hq), TOk.nil, fun c => absurd c (by decide), hp3.new hq, by omega⟩ (fun i σ H' _ ⟨v7, ts, t', _, _, z, _⟩ => z.sq) ?_ ?_
    · rintro i x σ H' hx ⟨v7, ts, t', rfl, b, hq', hS', hD', ok, ne, hp', tt'⟩
      obtain ⟨z, hz, rfl⟩ := get_map hx
      have hzm := mm z (List.mem_of_getElem? hz)
      have li : i < us.length := (List.getElem?_eq_some_iff.mp hz).1
      have lts := ok.len
      refine ⟨_, rfl, _, rfl, p, S, _, t', rfl, hp', hS', nS, by rw [List.length_map]; omega, by rw [List.length_map]; omega, by omega, fun j v t4 o4 hj tt4 hp4 => ?_⟩
      obtain ⟨g, hg, rfl⟩ := get_map hj
      have hgm := List.mem_of_getElem? hg
      refine ⟨_, rfl, _, rfl, D, _, rfl, DPut.k (k := Sum.inr z) (by rw [upd_ne nDp]; exact hD') (by rw [kT, List.length_map, sizeLine_eq]; omega), ?_⟩
      rw [putK_kT]
      have hDn : H D = none := hD0
      refine ⟨_, _, t4, rfl, But.ofL hDn (b.trans (But.upd p H' o4)), ?_, ?_, upd_same, ok.put hzm hgm, fun _ => putT_ne, hp4.upd nDp.symm, by omega⟩
      · rw [SL, upd_ne nqD.symm, upd_ne nqp]; exact hq'
      · have nSD : S ≠ D := fun e => by rw [e] at hS; rw [hS] at hDn; cases hDn
        rw [SL, upd_ne nSD, upd_ne nS]; exact hS'
    · rintro σ H' ⟨v7, ts, t', rfl, b, hq', hS', hD', ok, ne, hp', tt'⟩
      rw [List.length_map] at ne tt'
      have ne' := ne (by omega)
      have lts := ok.len
      refine ⟨_, rfl, _, _, rfl, rfl, _, rfl, S, _, rfl, .inl hS'.sq, _, _, rfl, rfl, _, rfl, ?_⟩
      rw [List.length_map]
      refine ite2 (fun c => ?_) (fun c => ?_)
      · refine ⟨_, rfl, p, 8, t', rfl, hp', by decide, by decide, by omega, fun r5 t5 o5 r50 r51 tt5 hp5 => ⟨_, _, rfl, rfl, _, rfl, ?_⟩⟩
        have hS5 : SL (L2.upd H' p o5) S ss := by rw [SL, upd_ne nS]; exact hS'
        have hD5 : TurnsAt (L2.upd H' p o5) D ts := by rw [TurnsAt, upd_ne nDp]; exact hD'
        have b5 := b.trans (But.upd p H' o5)
        generalize L2.upd H' p o5 = H5 at hS5 hD5 hp5 b5
        refine ite2 (fun c2 => ?_) (fun c2 => ?_)
        · have c' := of_decide_eq_true c
          refine ⟨_, rfl, _, rfl, _, rfl, _, _, rfl, rfl, _, rfl, S, _, rfl, hS5.sq, fun q6 hq6 => ?_⟩
          rw [cutV_map, cutL_from _ (by omega)]
          refine ⟨p, q6, _, t5, rfl, hp5.new hq6, upd_same, hp5.ne hq6, ?_, ?_, by omega, fun j v t6 o6 hj tt6 hp6 => ?_⟩
          · rw [List.length_map, List.length_drop]; omega
          · rw [List.length_map, List.length_drop]; omega
          obtain ⟨g, hg, rfl⟩ := get_map hj
          have hgm := List.mem_of_mem_drop (List.mem_of_getElem? hg)
          have hD6 : TurnsAt (L2.upd (L2.upd H5 q6 (.lst ((ss.drop (at' + 1).toNat).map V.str))) p o6) D ts := by
            rw [TurnsAt, upd_ne nDp]; exact hD5.same (Same.new hq6)
          have b6 := (b5.newt (o := .lst ((ss.drop (at' + 1).toNat).map V.str)) hq6).trans (But.upd p _ o6)
          generalize L2.upd (L2.upd H5 q6 (.lst ((ss.drop (at' + 1).toNat).map V.str))) p o6 = H6 at hp6 hD6 b6
          refine ⟨_, rfl, _, rfl, _, rfl, D, _, rfl, .inl hD6, fun q7 hq7 => ?_⟩
          have ek : (kT ts).map (fun kv => kV kv.1) = (ts.map (·.1)).map V.str := by
            rw [kT, List.map_map, List.map_map]; rfl
          rw [ek]
          refine ⟨p, q7, _, t6, rfl, hp6.new hq7, upd_same, hp6.ne hq7, ?_, ?_, by omega, fun j v t8 o8 hj tt8 hp8 => ?_⟩
          · rw [List.length_map, List.length_map]; have := List.length_pos_iff.mpr ne'; omega
          · rw [List.length_map, List.length_map]; omega
          obtain ⟨kk, hkk, rfl⟩ := get_map hj
          have hkm : kk ∈ ws := by
            obtain ⟨u, hu, e⟩ := List.mem_map.mp (List.mem_of_getElem? hkk)
            rw [← e]; exact ok.ks u hu
          refine ⟨D, _, rfl, DPut.k (k := Sum.inr kk) (by rw [upd_ne nDp]; exact hD6.same (Same.new hq7)) (by rw [kT, List.length_map, sizeLine_eq]; omega), ?_⟩
          rw [putK_kT]
          refine ⟨_, rfl, k _ D _ t8 (But.ofL hD0 ((b6.newt hq7).trans (But.upd p _ o8))) hD0 upd_same (ok.put hkm hgm) putT_ne (hp8.upd nDp.symm) (by omega)⟩
        · exact ⟨_, rfl, k H5 D ts t5 b5 hD0 hD5 ok ne' hp5 (by omega)⟩
      · exact ⟨_, rfl, k H' D ts t' b hD0 hD' ok ne' hp' (by omega)⟩
end
end D1
end L2
/-! books as they stand; world -/
namespace L2
namespace D1
open PySem PySem.Spec PyProof.Rows
abbrev RowD := Str × Str × List (Str × Str)
abbrev Bk := List RowD
def RowAt (H : Hp) (v : V) (k : Str) (ts : List (Str × Str)) : Prop := ∃ t a, v = .ref t ∧ H t = some (.tup [.str k, .ref a]) ∧ TurnsAt H a ts
theorem RowAt.same {H H' : Hp} {v : V} {k : Str} {ts : List (Str × Str)} (h : RowAt H v k ts) (s : Same H H') : RowAt H' v k ts := by
  obtain ⟨t, a, e, h1, h2⟩ := h; exact ⟨t, a, e, s _ _ h1, h2.same s⟩
def Rows (H : Hp) : List (Key × V) → Bk → Prop := Paired fun kv r => kv.1 = Sum.inr r.1 ∧ RowAt H kv.2 r.2.1 r.2.2
theorem Rows.same {H H' : Hp} {kvs : List (Key × V)} {bk : Bk} (h : Rows H kvs bk) (s : Same H H') : Rows H' kvs bk := by
  unfold Rows at h ⊢
  induction h with
  | nil => exact .nil
  | cons a b ih => exact .cons ⟨a.1, a.2.same s⟩ ih
theorem Rows.app {H : Hp} {kvs : List (Key × V)} {bk : Bk} {s : Str} {v : V} {k : Str} {ts : List (Str × Str)} (h : Rows H kvs bk) (r : RowAt H v k ts) : Rows H (kvs ++ [(.inr s, v)]) (bk ++ [(s, k, ts)]) := by
  unfold Rows at h ⊢
  induction h with
  | nil => exact .cons ⟨rfl, r⟩ .nil
  | cons a b ih => exact .cons a ih
theorem Rows.keys {H : Hp} {kvs : List (Key × V)} {bk : Bk} (h : Rows H kvs bk) : kvs.map (·.1) = bk.map fun r => Sum.inr r.1 := by
  unfold Rows at h
  induction h with
  | nil => rfl
  | cons a b ih => rw [List.map_cons, List.map_cons, ih, a.1]
theorem Rows.len {H : Hp} {kvs : List (Key × V)} {bk : Bk} (h : Rows H kvs bk) : kvs.length = bk.length := by
  have := congrArg List.length h.keys
  rwa [List.length_map, List.length_map] at this
theorem putK_new {kvs : List (Key × V)} {k : Key} {v : V} (n : k ∉ kvs.map (·.1)) : putK kvs k v = kvs ++ [(k, v)] := by
  unfold putK
  rw [if_neg]
  intro h
  obtain ⟨p, hp, e⟩ := List.any_eq_true.mp h
  exact n (List.mem_map.mpr ⟨p, hp, of_decide_eq_true e⟩)
theorem Rows.fresh {H : Hp} {kvs : List (Key × V)} {bk : Bk} {s : Str} (h : Rows H kvs bk) (n : s ∉ bk.map (·.1)) : (Sum.inr s : Key) ∉ kvs.map (·.1) := by
  rw [h.keys]
  intro z
  obtain ⟨r, hr, e⟩ := List.mem_map.mp z
  exact n (List.mem_map.mpr ⟨r, hr, Sum.inr.inj e⟩)
def BookAt (H : Hp) (b : Addr) (bk : Bk) : Prop := ∃ kvs, H b = some (.dK kvs) ∧ Rows H kvs bk
theorem BookAt.same {H H' : Hp} {b : Addr} {bk : Bk} (h : BookAt H b bk) (s : Same H H') : BookAt H' b bk := by
  obtain ⟨kvs, e, r⟩ := h; exact ⟨kvs, s _ _ e, r.same s⟩
def WorldAt (H : Hp) (R : Addr) (bk : Bk) (st : Str) : Prop := ∃ b, H R = some (.lst [.ref b, .str st]) ∧ BookAt H b bk
theorem WorldAt.same {H H' : Hp} {R : Addr} {bk : Bk} {st : Str} (h : WorldAt H R bk st) (s : Same H H') : WorldAt H' R bk st := by
  obtain ⟨b, e, r⟩ := h; exact ⟨b, s _ _ e, r.same s⟩
/-- a row of a book over the states ss -/
def ROk (ss ws : List Str) (r : RowD) : Prop := Wd r.1 ∧ ((r.2.1 = "done" ∧ r.2.2 = []) ∨ ((r.2.1 = "says" ∨ r.2.1 = "hears") ∧ r.2.2 ≠ [] ∧ TOk r.2.2 ss ws))
structure WF (bk : Bk) (st : Str) (ws : List Str) : Prop where
  nd : (bk.map (·.1)).Nodup
  rs : ∀ r ∈ bk, ROk (bk.map (·.1)) ws r
  st : st ∈ bk.map (·.1)
  len : bk.length ≤ 6
abbrev sWorld : Stmt := top 48
/-- a list of words -/
structure WsOk (ws : List Str) : Prop where
  lo : 1 ≤ ws.length
  hi : ws.length ≤ 6
  nd : ws.Nodup
  wd : ∀ x ∈ ws, Wd x
def spWorld : Sp := fun vs H Q _ => ∃ (p W : Addr) (ws : List Str) (n top' t : Int), vs = [.ref p, .int n, .ref W, .int top'] ∧ Purse H p t ∧ SL H W ws ∧ W ≠ p ∧ WsOk ws ∧ 1 ≤ n ∧ n ≤ 6 ∧ 1 ≤ top' ∧ top' < 2 ^ 20 ∧ t < 2 ^ 26 ∧
  ∀ (H' : Hp) (R : Addr) (bk : Bk) (st : Str) (t' : Int), But p H H' → H R = none → WorldAt (cut [p] H') R bk st → WF bk st ws → Purse H' p t' → t' ≤ t + 700 → Q (.ref R) H'
theorem first_at {x : Str} : ∀ {zs : List Str}, x ∈ zs → ∃ j, zs[j]? = some x ∧ ∀ m : Nat, m < j → zs[m]? ≠ some x
  | [], h => by cases h
  | y :: r, h => by
    by_cases e : y = x
    · exact ⟨0, by rw [e]; rfl, fun m hm => absurd hm (Nat.not_lt_zero _)⟩
    · rcases List.mem_cons.mp h with z | z
      · exact absurd z.symm e
      · obtain ⟨j, h1, h2⟩ := first_at z
        refine ⟨j + 1, h1, fun m hm => ?_⟩
        cases m with
        | zero => exact fun q => e (Option.some.inj q)
        | succ m => exact h2 m (by omega)
theorem row_step {p B T1 E1 : Addr} {H5 : Hp} {kvs : List (Key × V)} {bk : Bk} {x k : Str} {ts : List (Str × Str)} (hB : H5 B = some (.dK kvs)) (R : Rows (cut [p, B] H5) kvs bk) (n : x ∉ bk.map (·.1)) (hT : TurnsAt H5 E1 ts) (nE : E1 ≠ p) (nEB : E1 ≠ B)
    (nT : T1 ≠ p) (hT1 : H5 T1 = none) : ∃ kv2, (L2.upd (L2.upd H5 T1 (.tup [.str k, .ref E1])) B (.dK (putK kvs (.inr x) (.ref T1)))) B = some (.dK kv2) ∧ Rows (cut [p, B] (L2.upd (L2.upd H5 T1 (.tup [.str k, .ref E1])) B (.dK (putK kvs (.inr x) (.ref T1))))) kv2 (bk ++ [(x, k, ts)]) := by
  have nTB : T1 ≠ B := fun e => by rw [e, hB] at hT1; cases hT1
  have nET : E1 ≠ T1 := fun e => by rw [← e, hT] at hT1; cases hT1
  refine ⟨_, upd_same, ?_⟩
  rw [putK_new (R.fresh n), cut_upd (by simp)]
  refine (R.same (cut_new hT1)).app ⟨T1, E1, rfl, ?_, ?_⟩
  · rw [cut_out (by simp [nT, nTB])]; exact upd_same
  · rw [TurnsAt, cut_out (by simp [nE, nEB]), upd_ne nET]; exact hT
theorem pt_imp {X : Cx} {c : Expr} {t t' : TT} (h : PT X c t) (i : ∀ σ H Q, t' σ H Q → t σ H Q) : PT X c t' := ⟨fun pins s σ H Q I q => h.run pins s σ H Q I (i _ _ _ q)⟩
theorem pe_imp {X : Cx} {c : Expr} {t t' : TE} (h : PE X c t) (i : ∀ σ H Q, t' σ H Q → t σ H Q) : PE X c t' := ⟨fun pins s σ H Q I q => h.run pins s σ H Q I (i _ _ _ q)⟩
/-- any answer, whatever whole numbers the slots hold -/
def tAny (l : List Nat) : TT := fun σ H Q => (∀ i ∈ l, ∃ z, σ[i]? = some (some (.int z))) ∧ ∀ b, Q b H
def tKind (l : List Nat) : TE := fun σ H Q => (∀ i ∈ l, ∃ z, σ[i]? = some (some (.int z))) ∧ ∀ k : Str, k = "says" ∨ k = "hears" → Q (.str k) H
/-- one of the two lists that world begins with -/
def tBeg : TE := fun σ H Q => ∃ (p W : Addr) (n t : Int) (ws : List Str), σ[0]? = some (some (.ref p)) ∧ σ[1]? = some (some (.int n)) ∧ σ[2]? = some (some (.ref W)) ∧ Purse H p t ∧ SL H W ws ∧ W ≠ p ∧ (∀ x ∈ ws, Wd x) ∧ ws.length ≤ 6 ∧ 1 ≤ n ∧ n ≤ 6 ∧ t < 2 ^ 26 ∧
  ∀ (H' : Hp) (R : Addr) (zs : List Str) (t' : Int), But p H H' → R ≠ p → SL H' R zs → (∀ x ∈ zs, Wd x) → zs.length = n.toNat → Purse H' p t' → t' ≤ t + 301 → Q (.ref R) H'
section
variable {P : Program} {w : World} {K : PySem.W.Frag} {mg : Str → Option Value} {base : Heap}
abbrev CTurns (P : Program) (w : World) (K : PySem.W.Frag) (mg : Str → Option Value) (base : Heap) := Cal P w K mg base "_law_turns" 4 ["_law_purse_here", "_law_states", "_law_words_here", "_law_at", "_law_top"] spTurns
theorem scWo : FnScope ["_law_purse_here", "_law_many", "_law_words_here", "_law_top", "_law_states", "_law_at", "_law_book", "_law_last", "_law_way"] ["_law_purse_here", "_law_many", "_law_words_here", "_law_top"] (defScope sWorld) := ⟨rfl, rfl, rfl, by decide +kernel, rfl, by decide +kernel, by decide +kernel⟩
theorem ok_world {f : Addr} {fd : FuncData} (F : Fun K "_law_world" "_law_world" sWorld f fd) (T : Free2 mg) (CD : CDraw P w K mg base) (CW : CWords P w K mg base) (CS : CShuf P w K mg base) (CT : CTurns P w K mg base) :
    FnOk P w K mg base CX0 5 f fd ["_law_purse_here", "_law_many", "_law_words_here", "_law_top"] spWorld := by
  refine F.ok scWo (fun vs H Q E h => ?_) (fun cdv A outer s H vs Q E hr h => ?_)
  · obtain ⟨p, W, ws, n, top', t, rfl, _⟩ := h; rfl
  · obtain ⟨p, W, ws, n, top', t, rfl, hp, hW, nW, wok, n0, n1, p0, p1, t1, k⟩ := h
    have hu := hu_of hr
    refine ⟨_, pss_cons (ps_set (i := 4) scWo.nd rfl (Or.inr rfl) (pe_cal CS (hr.mono (by decide)) rfl (pa_cons (pv 0) (pa_cons (pe_imp (t' := tBeg) (pe_ifExp (pt_cmpR op_eq (pe_cal CD (hr.mono (by decide)) rfl (pa_cons (pv 0) (pa_cons pe_int pa_nil))) pe_int (nomark _))
          (pe_cal CW (hr.mono (by decide)) rfl (pa_cons (pv 0) (pa_cons (pv 1) pa_nil)))
          (pe_slice sl_list (pe_op op_cat (pv 2) (pe_cal CW (hr.mono (by decide)) rfl (pa_cons (pv 0) (pa_cons (pv 1) pa_nil)))) po_none (po_some (pv 1)))) ?sub1) pa_nil))))
      (pss_cons (ps_set (i := 4) scWo.nd rfl (Or.inr rfl) (pe_lc (own := [("_law_at", 5)]) (g := gName 5) (tt := tTest (tOp (rEq) (tBM K "list" (rIndex K) (tVar 4) (tCons (tOp (rIxL K) (tVar 4) (tVar 5)) tNil)) (tVar 5))) (te := tOp (rIxL K) (tVar 4) (tVar 5)) rfl scWo.nd
          (pi_range1 rfl T.range (pa_cons (pv 1) pa_nil))
          (blkOk_by (N := ["_law_purse_here", "_law_many", "_law_words_here", "_law_top", "_law_states", "_law_at", "_law_book", "_law_last", "_law_way"]) (sc := defScope sWorld) (by decide +kernel)) (fun _ _ _ _ _ => pg_name (i := 5) scWo.nd rfl (Or.inl rfl))
          (fun _ _ _ _ _ => pts_one (pt_cmpR op_eq (pe_bm PySem.F.plainAttrs_list PySem.F.slot_list_index PySem.F.type_list_index mt_index (pv 4) (pa_cons (pe_ix ix_list (pv 4) (pv 5) (fun _ _ => rfl)) pa_nil)) (pv 5) (nomark _))) (fun _ _ _ _ _ => pe_ix ix_list (pv 4) (pv 5) (fun _ _ => rfl))))
      (pss_cons (ps_par (i := 6) (j := 7) rfl scWo.nd rfl rfl (by decide) rfl rfl (pa_cons pe_dnewK (pa_cons (pe_op op_sub (pe_callB call_len_seq (by rfl) T.len PySem.boot_len (pa_cons (pv 4) pa_nil)) pe_int) pa_nil)) (by rfl))
      (pss_cons (ps_for PassesOwn.never rfl (pi_range1 rfl T.range (pa_cons (pe_callB call_len_seq (by rfl) T.len PySem.boot_len (pa_cons (pv 4) pa_nil)) pa_nil)) (pg_name (i := 5) scWo.nd rfl (Or.inl rfl))
        (pss_cons (ps_set (i := 8) scWo.nd rfl (Or.inl rfl) (pe_cal CD (hr.mono (by decide)) rfl (pa_cons (pv 0) (pa_cons pe_int pa_nil))))
        (pss_one (ps_if (pt_imp (t' := tAny [5, 7, 8]) (PW.pt (pw_or (PW.pt (pw_and (pt_cmpR op_eq (pv 5) (pv 7) (nomark _)) (pw_and1 (pt_cmpR op_gt (pv 8) pe_int (nomark _))))) (pw_or1 (PW.pt (pw_and (pt_cmpR op_eq (pv 8) pe_int (nomark _)) (pw_and1 (pt_cmpR op_gt (pv 5) pe_int (nomark _)))))))) ?sub2)
          (pss_one (ps_dput hu (pv 6) (pe_ix ix_list (pv 4) (pv 5) (fun _ _ => rfl)) (pe_tup (pa_cons pe_str (pa_cons pe_dnewK pa_nil))) rfl))
          (pss_one (ps_dput hu (pv 6) (pe_ix ix_list (pv 4) (pv 5) (fun _ _ => rfl)) (pe_tup (pa_cons (pe_imp (t' := tKind [8]) (pe_ifExp (pt_cmpR op_eq (pe_op op_mod (pv 8) pe_int) pe_int (nomark _)) pe_str pe_str) ?sub3) (pa_cons (pe_cal CT (hr.mono (by decide)) rfl (pa_cons (pv 0) (pa_cons (pv 4) (pa_cons (pv 2) (pa_cons (pv 5) (pa_cons (pv 3) pa_nil)))))) pa_nil))) rfl))))))
      (pss_one (ps_ret (pe_lst (pa_cons (pv 6) (pa_cons (pe_ix ix_list (pv 4) pe_int (fun _ _ => rfl)) pa_nil)))))))), ?_⟩
    case sub1 =>
      rintro σ H Q ⟨p, W, n, t, ws, e0, e1, e2, hp, hW, nW, aw, lw, n0, n1, t1, k⟩
      refine ⟨_, e0, p, 2, t, rfl, hp, by decide, by decide, by omega, fun r t2 o r0 r1 tt2 hp2 => ?_⟩
      have b2 := But.upd p H o
      have hW2 : SL (L2.upd H p o) W ws := by rw [SL, upd_ne nW]; exact hW
      generalize L2.upd H p o = H2 at b2 hW2 hp2
      refine ⟨rfl, _, rfl, ?_⟩
      refine ite2 (fun _ => ?_) (fun _ => ?_)
      · refine ⟨_, e0, _, e1, p, n, t2, rfl, hp2, by omega, by omega, by omega, fun H3 R ss t3 b3 hR hS ls nd aw hp3 tt3 => ?_⟩
        exact k H3 R ss t3 (b2.trans b3) (hp2.ne hR) hS aw ls hp3 (by omega)
      · refine ⟨_, e2, _, e0, _, e1, p, n, t2, rfl, hp2, by omega, by omega, by omega, fun H3 R ss t3 b3 hR hS ls nd aw2 hp3 tt3 => ?_⟩
        have hW3 : SL H3 W ws := b3 _ _ nW hW2
        refine ⟨W, R, _, _, rfl, rfl, hW3, hS, by rw [List.length_map, List.length_map, sizeLine_eq]; omega, fun q hq => ?_⟩
        refine ⟨_, e1, n, rfl, q, _, rfl, SqL.of upd_same, fun q2 hq2 => ?_⟩
        rw [← List.map_append, cutV_map, cutL_to _ (by omega)]
        rw [← List.map_append] at hq2
        refine k _ q2 _ t3 (((b2.trans b3).newt hq).newt hq2) ((hp3.new hq).ne hq2) upd_same (fun x hx => ?_) ?_ ((hp3.new hq).new hq2) (by omega)
        · rcases List.mem_append.mp (List.mem_of_mem_take hx) with z | z
          · exact aw x z
          · exact aw2 x z
        · rw [List.length_take, List.length_append]; omega
    case sub2 =>
      rintro σ H Q ⟨a, k⟩
      obtain ⟨z5, e5⟩ := a 5 (by simp)
      obtain ⟨z7, e7⟩ := a 7 (by simp)
      obtain ⟨z8, e8⟩ := a 8 (by simp)
      have two : ∃ a, σ[8]? = some (some a) ∧ rEq a (.int 10) H fun x H' => ∃ k, x = .bl k ∧ if k = true then (∃ a, σ[5]? = some (some a) ∧ rI0 (fun i j => V.bl (decide (j < i))) a (.int 0) H' fun x H' => ∃ k, x = .bl k ∧ Q k H') else Q false H' := by
        refine ⟨_, e8, rfl, _, rfl, ite2 (fun _ => ⟨_, e5, _, _, rfl, rfl, _, rfl, k _⟩) (fun _ => k _)⟩
      refine ⟨_, e5, _, e7, rfl, _, rfl, ?_⟩
      refine ite2 (fun _ => ⟨_, e8, _, _, rfl, rfl, _, rfl, ?_⟩) (fun _ => ?_)
      · exact ite2 (fun _ => k _) (fun _ => two)
      · exact iteF two
    case sub3 =>
      rintro σ H Q ⟨a, k⟩
      obtain ⟨z8, e8⟩ := a 8 (by simp)
      refine ⟨_, e8, _, _, rfl, rfl, (by show (0 : Int) < 2; decide), rfl, _, rfl, ?_⟩
      exact ite2 (fun _ => k _ (.inl rfl)) (fun _ => k _ (.inr rfl))
    refine ⟨_, rfl, p, W, n, t, ws, rfl, rfl, rfl, hp, hW, nW, wok.wd, wok.hi, n0, n1, t1, fun H3 R zs0 t3 b3 nR hS az0 lz0 hp3 tt3 => ?_⟩
    refine ⟨p, R, _, t3, rfl, hp3, hS, nR, by rw [List.length_map]; omega, by omega, fun H4 R4 ys t4 b4 hR4 hy pm hp4 tt4 => ?_⟩
    obtain ⟨zs, rfl, pz⟩ := perm_str pm
    rw [List.length_map, lz0] at tt4
    have lz : zs.length = n.toNat := by rw [pz.length_eq]; exact lz0
    have az : ∀ x ∈ zs, Wd x := fun x hx => az0 x (pz.mem_iff.mp hx)
    have bH4 := b3.trans b4
    have nR4 := hp3.ne hR4
    have hW4 : SL H4 W ws := bH4 _ _ nW hW
    clear b3 b4 hS pm az0 lz0 hp3 pz
    have hy : SL H4 R4 zs := hy
    refine ⟨_, rfl, n, rfl, by omega, by omega, fun D hD => ?_⟩
    refine lc_range (n := n.toNat) (fun i H' => ∃ rs : List Str, Same H4 H' ∧ SL H' D rs ∧ rs.Nodup ∧ (∀ x ∈ rs, x ∈ zs.take i) ∧ (0 < i → rs ≠ []) ∧ rs.length ≤ i)
      ⟨[], Same.new hD, upd_same, List.nodup_nil, by simp, fun c => absurd c (by decide), Nat.le_refl _⟩ ?_ ?_
    · rintro i H' hi ⟨rs, sm, hD', nd, sub, ne, ll⟩
      have hiz : i < zs.length := by omega
      have hx := List.getElem?_eq_getElem hiz
      have ha : atI (zs.map V.str) (0 + (i : Int)) = some (V.str zs[i]) := at_of (j := i) (by omega) (by rw [List.getElem?_map, hx]; rfl)
      obtain ⟨j, hj, no⟩ := first_at (List.getElem_mem hiz)
      generalize zs[i] = x at hx ha hj no
      have hy' := (hy.same sm).sq (K := K)
      refine ⟨rfl, _, rfl, .inl ⟨rfl, _, hy'⟩, _, rfl, _, rfl, R4, _, _, _, rfl, rfl, hy', ha, R4, _, .str x, j, .str x, rfl, rfl, hy', rfl, flat_strs zs, by rw [List.getElem?_map, hj]; rfl, ?_, fun m z' hm hz => ?_, ?_⟩
      · show (x == x) = true
        exact beq_self_eq_true x
      · obtain ⟨y, hyy, rfl⟩ := get_map hz
        show (y == x) = false
        exact beq_eq_false_iff_ne.mpr fun e => no m hm (by rw [hyy, e])
      refine ⟨_, rfl, rfl, _, rfl, ?_⟩
      have hji : j ≤ i := by
        rcases Nat.lt_or_ge i j with c | c
        · exact absurd hx (no i c)
        · exact c
      refine ite2 (fun c => ?_) (fun c => ?_)
      · have ej : j = i := by
          have := of_decide_eq_true c
          have e2 : (j : Int) = 0 + (i : Int) := by injection this
          omega
        have xn : x ∉ zs.take i := fun hm => by
          obtain ⟨m, hm1, hm2⟩ := List.mem_take_iff_getElem.mp hm
          have : m < j := by omega
          exact no m this (by rw [List.getElem?_eq_getElem (by omega), hm2])
        refine ⟨_, rfl, _, rfl, R4, _, _, _, rfl, rfl, hy', ha, _, hD', by rw [List.length_map, sizeLine_eq]; omega, rs ++ [x], ?_, by rw [SL, upd_same, List.map_append]; rfl, nodup_app nd fun z => xn (sub x z), fun z hz => ?_, fun _ e => by simp at e, by rw [List.length_append]; simp only [List.length_singleton]; omega⟩
        · intro b u e
          rw [upd_ne (ne_of_none e hD)]; exact sm _ _ e
        · rw [take_succ_get hx]
          rcases List.mem_append.mp hz with z1 | z1
          · exact List.mem_append_left _ (sub z z1)
          · exact List.mem_append_right _ z1
      · have ei : i ≠ 0 := fun e => by
          refine c (decide_eq_true ?_)
          have : j = i := by omega
          rw [this, Int.zero_add]
        exact ⟨rs, sm, hD', nd, fun z hz => by rw [take_succ_get hx]; exact List.mem_append_left _ (sub z hz), fun _ => ne (by omega), by omega⟩
    · rintro H5 ⟨rs, sm, hD', nd, sub, ne, ll⟩
      have ne' := ne (by omega)
      have ln : 1 ≤ rs.length := List.length_pos_iff.mpr ne'
      have ar : ∀ x ∈ rs, Wd x := fun x hx => az x (List.mem_of_mem_take (sub x hx))
      have b5 := bH4.trans (But.of sm)
      have hp5 := hp4.same sm
      have hW5 := hW4.same sm
      have nDp := hp4.ne hD
      clear hy sub ne hD
      refine fun B hB => ⟨_, rfl, D, _, rfl, .inl (hD'.new hB).sq, _, _, rfl, rfl, _, _, rfl, ?_⟩
      have nBp := hp5.ne hB
      have nDB : D ≠ B := ne_of_none hD' hB
      have nWB : W ≠ B := ne_of_none hW5 hB
      have hB0 : H B = none := b5.fr hB nBp
      refine ⟨_, rfl, D, _, rfl, .inl (hD'.new hB).sq, _, rfl, by rw [List.length_map]; omega, by rw [List.length_map]; omega, ?_⟩
      rw [List.length_map]
      refine for_range (n := rs.length) (fun i σ H' => ∃ (v5 v8 : Option V) (bk : Bk) (t' : Int), σ = [some (.ref p), some (.int n), some (.ref W), some (.int top'), some (.ref D), v5, some (.ref B), some (.int ((rs.length : Int) - 1)), v8] ∧ But p H H' ∧ SL H' D rs ∧ SL H' W ws ∧ (∃ kvs, H' B = some (.dK kvs) ∧ Rows (cut [p, B] H') kvs bk) ∧ bk.map (·.1) = rs.take i ∧ (∀ r ∈ bk, ROk rs ws r) ∧ Purse H' p t' ∧ t' ≤ t4 + 51 * i)
        ⟨none, none, [], t4, rfl, b5.newt hB, hD'.new hB, hW5.new hB, ⟨[], upd_same, .nil⟩, by simp, by simp, hp5.new hB, by omega⟩ ?_ ?_
      · rintro i σ H' hi ⟨v5, v8, bk, t', rfl, b, hDD, hWW, ⟨kvs, hBB, hR⟩, ek, ak, hp', tt'⟩
        have hx := List.getElem?_eq_getElem hi
        have hxm := List.getElem_mem hi
        have ha : atI (rs.map V.str) (0 + (i : Int)) = some (V.str rs[i]) := at_of (j := i) (by omega) (by rw [List.getElem?_map, hx]; rfl)
        generalize rs[i] = x at hx hxm ha
        have xn : x ∉ bk.map (·.1) := fun z => by
          rw [ek] at z
          obtain ⟨m, hm1, hm2⟩ := List.mem_take_iff_getElem.mp z
          have h1 : rs[m]? = some x := by rw [List.getElem?_eq_getElem (by omega), hm2]
          have := (List.getElem?_inj (by omega) nd).mp (h1.trans hx.symm)
          omega
        have lk : kvs.length ≤ 6 := by
          rw [hR.len, ← List.length_map (·.1), ek, List.length_take]; omega
        refine ⟨_, rfl, p, 11, t', rfl, hp', by decide, by decide, by omega, fun way t5 o r0 r1 tt5 hp5 => ?_⟩
        have hD5 : SL (L2.upd H' p o) D rs := by rw [SL, upd_ne nDp]; exact hDD
        have hW5 : SL (L2.upd H' p o) W ws := by rw [SL, upd_ne nW]; exact hWW
        have hB5 : (L2.upd H' p o) B = some (.dK kvs) := by rw [upd_ne nBp]; exact hBB
        have hR5 : Rows (cut [p, B] (L2.upd H' p o)) kvs bk := by rw [cut_upd (by simp)]; exact hR
        have b5 := b.trans (But.upd p H' o)
        generalize L2.upd H' p o = H5 at hD5 hW5 hB5 hR5 hp5 b5
        clear hDD hWW hBB hR b hp'
        refine ⟨fun j hj => ?_, fun bb => ?_⟩
        · simp only [List.mem_cons, List.not_mem_nil, or_false] at hj
          rcases hj with rfl | rfl | rfl
          · exact ⟨_, rfl⟩
          · exact ⟨_, rfl⟩
          · exact ⟨_, rfl⟩
        have fin : ∀ (H6 : Hp) (E1 T1 : Addr) (k0 : Str) (ts : List (Str × Str)) (t6 : Int), But p H5 H6 → E1 ≠ p → E1 ≠ B → TurnsAt H6 E1 ts → H6 T1 = none → Purse H6 p t6 → t6 ≤ t5 + 50 → ROk rs ws (x, k0, ts) →
            ∃ (v5 v8 : Option V) (bk2 : Bk) (t' : Int), [some (.ref p), some (.int n), some (.ref W), some (.int top'), some (.ref D), some (.int (0 + (i : Int))), some (.ref B), some (.int ((rs.length : Int) - 1)), some (.int way)] = [some (.ref p), some (.int n), some (.ref W), some (.int top'), some (.ref D), v5, some (.ref B), some (.int ((rs.length : Int) - 1)), v8] ∧ But p H (L2.upd (L2.upd H6 T1 (.tup [.str k0, .ref E1])) B (.dK (putK kvs (.inr x) (.ref T1)))) ∧ SL (L2.upd (L2.upd H6 T1 (.tup [.str k0, .ref E1])) B (.dK (putK kvs (.inr x) (.ref T1)))) D rs ∧ SL (L2.upd (L2.upd H6 T1 (.tup [.str k0, .ref E1])) B (.dK (putK kvs (.inr x) (.ref T1)))) W ws ∧
              (∃ kvs', (L2.upd (L2.upd H6 T1 (.tup [.str k0, .ref E1])) B (.dK (putK kvs (.inr x) (.ref T1)))) B = some (.dK kvs') ∧ Rows (cut [p, B] (L2.upd (L2.upd H6 T1 (.tup [.str k0, .ref E1])) B (.dK (putK kvs (.inr x) (.ref T1))))) kvs' bk2) ∧ bk2.map (·.1) = rs.take (i + 1) ∧ (∀ r ∈ bk2, ROk rs ws r) ∧ Purse (L2.upd (L2.upd H6 T1 (.tup [.str k0, .ref E1])) B (.dK (putK kvs (.inr x) (.ref T1)))) p t' ∧ t' ≤ t4 + 51 * ((i + 1 : Nat) : Int) := by
          intro H6 E1 T1 k0 ts t6 b6 nE nEB hT hT1 hp6 tt6 rok
          have hB6 : H6 B = some (.dK kvs) := b6 _ _ nBp hB5
          have nT := hp6.ne hT1
          refine ⟨_, _, bk ++ [(x, k0, ts)], t6, rfl, But.ofL hB0 ((b5.trans b6).newt hT1), ?_, ?_, row_step hB6 (hR5.same (cut_but b6 (by simp))) xn hT nE nEB nT hT1, ?_, fun r hr => ?_, (hp6.new hT1).upd nBp.symm, by omega⟩
          · rw [SL, upd_ne nDB]; exact SL.new (b6 _ _ nDp hD5) hT1
          · rw [SL, upd_ne nWB]; exact SL.new (b6 _ _ nW hW5) hT1
          · rw [List.map_append, ek, take_succ_get hx]; rfl
          · rcases List.mem_append.mp hr with z | z
            · exact ak r z
            · rw [List.mem_singleton.mp z]; exact rok
        refine ite2 (fun _ => ?_) (fun _ => ?_)
        · refine fun E1 hE1 => ⟨by show 2 ≤ sizeLine; decide, fun T1 hT1 => ?_⟩
          have hD6 := (hD5.new (o := .dK []) hE1).new (o := .tup [.str "done", .ref E1]) hT1
          refine ⟨_, rfl, _, rfl, _, rfl, D, _, _, _, rfl, rfl, hD6.sq, ha, B, _, rfl, DPut.k (kvs := kvs) (k := Sum.inr x) ?_ (by rw [sizeLine_eq]; omega), ?_⟩
          · exact Same.new hT1 _ _ (Same.new hE1 _ _ hB5)
          · exact fin _ E1 T1 "done" [] t5 (But.new hE1) (hp5.ne hE1) (ne_of_none hB5 hE1).symm upd_same hT1 (hp5.new hE1) (by omega) ⟨ar x hxm, .inl ⟨rfl, rfl⟩⟩
        · refine ⟨fun j hj => ?_, fun k0 hk0 => ?_⟩
          · simp only [List.mem_cons, List.not_mem_nil, or_false] at hj
            rw [hj]; exact ⟨_, rfl⟩
          refine ⟨_, rfl, _, rfl, _, rfl, _, rfl, _, rfl, p, D, W, rs, ws, _, top', t5, rfl, hp5, hD5, hW5, nDp, nW, ln, by omega, wok.lo, Nat.le_trans wok.hi (by decide), wok.nd, by omega, by omega, p0, p1, by omega, fun H6 E1 ts t6 b6 hE1 hT ok ne6 hp6 tt6 => ?_⟩
          refine ⟨by show 2 ≤ sizeLine; decide, fun T1 hT1 => ?_⟩
          have hD6 := SL.new (o := .tup [.str k0, .ref E1]) (b6 _ _ nDp hD5 : SL H6 D rs) hT1
          refine ⟨_, rfl, _, rfl, _, rfl, D, _, _, _, rfl, rfl, hD6.sq, ha, B, _, rfl, DPut.k (k := Sum.inr x) (Same.new hT1 _ _ (b6 _ _ nBp hB5)) (by rw [sizeLine_eq]; omega), ?_⟩
          exact fin H6 E1 T1 k0 ts t6 b6 (hp5.ne hE1) (ne_of_none hB5 hE1).symm hT hT1 hp6 tt6 ⟨ar x hxm, .inr ⟨hk0, ne6, ok⟩⟩
      · rintro σ H' ⟨v5, v8, bk, t', rfl, b, hDD, hWW, ⟨kvs, hBB, hR⟩, ek, ak, hp', tt'⟩
        rw [List.take_length] at ek
        have ha : atI (rs.map V.str) (0 : Int) = some (V.str rs[0]) := at_of (j := 0) (by omega) (by rw [List.getElem?_map, List.getElem?_eq_getElem ln]; rfl)
        have h0 : rs[0] ∈ rs := List.getElem_mem ln
        refine ⟨_, rfl, _, rfl, D, _, _, _, rfl, rfl, hDD.sq, ha, by show 2 ≤ sizeLine; decide, fun R hR1 => ?_⟩
        refine k _ R bk rs[0] t' (b.newt hR1) (b.fr hR1 (hp'.ne hR1)) ⟨B, ?_, kvs, ?_, hR.same ?_⟩ ⟨by rw [ek]; exact nd, by rw [ek]; exact ak, by rw [ek]; exact h0, ?_⟩ (hp'.new hR1) (by omega)
        · rw [cut_out (by simp [hp'.ne hR1])]; exact upd_same
        · rw [cut_out (by simp [nBp])]; exact Same.new hR1 _ _ hBB
        · exact fun c u e => cut_new hR1 _ _ (cut_mono (S := [p, B]) (S' := [p]) (by simp) _ _ e)
        · rw [← List.length_map (·.1), ek]; omega
end
end D1
end L2
/-! forms: is_name, is_names, is_state_of, is_row -/
namespace L2
namespace D1
open PySem PySem.Spec PyProof.Rows
abbrev sIsName : Stmt := top 3
abbrev sIsRow : Stmt := top 5
abbrev sIsState : Stmt := top 6
/-- the names of built-in classes, and the two numbers of forms -/
structure Free3 (mg : Str → Option Value) : Prop extends Free2 mg where
  lets : ∃ t, mg "LETTERS" = some (.str abc t)
  most : ∃ t, mg "MOST_LETTERS" = some (.int 8 t)
def spIsName : Sp := fun vs H Q _ => ∃ x : Str, vs = [.str x] ∧ Wd x ∧ ∀ H', Same H H' → Q (.bl true) H'
def spIsNames : Sp := fun vs H Q _ => ∃ (L : Addr) (ss : List Str), vs = [.ref L] ∧ SL H L ss ∧ ss.length ≤ 1000 ∧ (∀ x ∈ ss, Wd x) ∧ ∀ H', Same H H' → Q (.bl true) H'
def spIsState : Sp := fun vs H Q _ => ∃ (b : Addr) (kvs : List (Key × V)) (x : Str), vs = [.ref b, .str x] ∧ Rd H b (.dK kvs) ∧ (valV kvs (.inr x)).isSome = true ∧ Q (.bl true) H
/-- a row by its form -/
def RForm (k : Str) (ts : List (Str × Str)) : Prop := (k = "done" ∧ ts = []) ∨ ((k = "says" ∨ k = "hears") ∧ ts ≠ [] ∧ ts.length ≤ 1000 ∧ ∀ t ∈ ts, Wd t.1 ∧ Wd t.2)
def spIsRow : Sp := fun vs H Q _ => ∃ (v : V) (k : Str) (ts : List (Str × Str)), vs = [v] ∧ RowAt H v k ts ∧ RForm k ts ∧ ∀ H', Same H H' → Q (.bl true) H'
theorem Same.unlock {H H' : Hp} {b : Addr} {u f : HO} (e : H b = some u) (s : Same (L2.upd H b f) H') : Same H (L2.upd H' b u) := fun c o ec => by
  by_cases h : c = b
  · rw [h] at ec ⊢; rw [upd_same, ← ec, e]
  · rw [upd_ne h]; exact s _ _ (by rw [upd_ne h]; exact ec)
theorem all_true (n : Nat) : (List.replicate n true).all id = true := by
  induction n with
  | zero => rfl
  | succ n ih => rw [List.replicate_succ, List.all_cons, ih]; rfl
theorem repl_snoc (n : Nat) : (List.replicate n true).map V.bl ++ [V.bl true] = (List.replicate (n + 1) true).map V.bl := by
  rw [List.replicate_succ', List.map_append]; rfl
section
variable {P : Program} {w : World} {K : PySem.W.Frag} {mg : Str → Option Value} {base : Heap}
abbrev CIsName (P : Program) (w : World) (K : PySem.W.Frag) (mg : Str → Option Value) (base : Heap) := Cal P w K mg base "is_name" 1 ["value"] spIsName
theorem scIn : FnScope ["value", "letter"] ["value"] (defScope sIsName) := ⟨rfl, rfl, rfl, by decide +kernel, rfl, by decide +kernel, by decide +kernel⟩
theorem ok_isname {f : Addr} {fd : FuncData} (F : Fun K "is_name" "is_name" sIsName f fd) (T : Free3 mg) : FnOk P w K mg base CX0 1 f fd ["value"] spIsName := by
  obtain ⟨tL, eL⟩ := T.lets
  obtain ⟨tM, eM⟩ := T.most
  refine F.ok scIn (fun vs H Q E h => ?_) (fun cdv A outer s H vs Q E hr h => ?_)
  · obtain ⟨x, rfl, _⟩ := h; rfl
  · obtain ⟨x, rfl, wx, k⟩ := h
    refine ⟨_, pss_cons (ps_if (PW.pt (pw_or (pt_not (pt_val (pe_callB call_isi (by rfl) T.isi (by decide +kernel) (pa_cons (pv 0) (pa_cons (pe_bltn (v := .ty "str") rfl T.str (by decide +kernel) rfl) pa_nil))))) (pw_or1 (pt_not (pt_chain op_le op_le pe_int (pe_callB call_len_str (by rfl) T.len PySem.boot_len (pa_cons (pv 0) pa_nil)) (pe_glob (v := .int 8) rfl eM ⟨_, rfl⟩)))))) (pss_one (ps_ret pe_bl)) pss_nil)
      (pss_one (ps_ret (pe_callB (cr_all rfl) (by rfl) T.all (by decide +kernel) (pa_cons (pe_lc (own := [("letter", 1)]) (g := gName 1) (tt := tYes) rfl scIn.nd (pi_str (pv 0))
        (blkOk_by (N := ["value", "letter"]) (sc := defScope sIsName) (by decide +kernel)) (fun _ _ _ _ _ => pg_name (i := 1) scIn.nd rfl (Or.inl rfl)) (fun _ _ _ _ _ => pts_nil)
        (fun _ _ _ _ _ => pe_cmpR op_in_sign (pv 1) (pe_glob (v := .str abc) rfl eL ⟨_, rfl⟩) rfl)) pa_nil)))), ?_⟩
    have l1 := wx.lo
    have l2 := wx.hi
    refine ⟨_, rfl, _, .ty "str", .type "str", .type "str", true, rfl, .ty _, .base (.str _), kit_ty (by decide +kernel), _, rfl, ?_⟩
    refine iteF ?_
    refine ⟨_, rfl, x, rfl, by rw [sizeLine_eq]; omega, _, _, rfl, rfl, _, rfl, ?_⟩
    rw [decide_eq_true (show (1 : Int) ≤ x.length by omega)]
    refine iteT ⟨_, _, rfl, rfl, _, rfl, ?_⟩
    rw [decide_eq_true (show (x.length : Int) ≤ 8 by omega)]
    refine iteF ?_
    refine ⟨_, rfl, x, rfl, fun D hD => ?_⟩
    refine lc_it (walk_str (z := x)) (fun i H' => Same H H' ∧ H' D = some (.lst ((List.replicate i true).map V.bl))) ⟨Same.new hD, upd_same⟩ (fun _ _ _ _ => trivial) ?_ ?_
    · rintro i v H1 H2 hi ⟨sm, hl⟩ ⟨rfl, c, hc, rfl⟩
      refine ⟨rfl, ?_⟩
      dsimp only [tYes]
      rw [if_pos rfl]
      have hm : c ∈ tl x := by
        rw [tl, ← Array.getElem?_toList] at *
        exact List.mem_of_getElem? hc
      have hr' := wx.ok c hm
      have ha : ∀ c, 97 ≤ c → c ≤ 122 → c ∈ abc.cps.toList := by
        have h : ∀ j : Fin 26, (97 + j.val) ∈ abc.cps.toList := by decide +kernel
        intro c h1 h2
        have := h ⟨c - 97, by omega⟩
        rwa [show 97 + (c - 97) = c by omega] at this
      refine ⟨_, rfl, c, abc, rfl, rfl, _, hl, by rw [List.length_map, List.length_replicate, sizeLine_eq]; have : x.cps.size = x.length := rfl; omega, ?_, ?_⟩
      · intro b u e
        rw [upd_ne (ne_of_none e hD)]; exact sm _ _ e
      · rw [upd_same, decide_eq_true (ha c hr'.1 hr'.2), repl_snoc]
    · rintro H1 ⟨sm, hl⟩
      refine ⟨D, _, rfl, SqL.of hl, ?_⟩
      rw [all_true]
      exact k H1 sm
theorem scIst : FnScope ["book", "value"] ["book", "value"] (defScope sIsState) := ⟨rfl, rfl, rfl, by decide +kernel, rfl, by decide +kernel, by decide +kernel⟩
theorem ok_isstate {f : Addr} {fd : FuncData} (F : Fun K "is_state_of" "is_state_of" sIsState f fd) (T : Free3 mg) : FnOk P w K mg base CX0 1 f fd ["book", "value"] spIsState := by
  refine F.ok scIst (fun vs H Q E h => ?_) (fun cdv A outer s H vs Q E hr h => ?_)
  · obtain ⟨b, kvs, x, rfl, _⟩ := h; rfl
  · obtain ⟨b, kvs, x, rfl, hb, hx, k⟩ := h
    have hu := hu_of hr
    refine ⟨_, pss_one (ps_ret (pe_and (pe_callB call_isi (by rfl) T.isi (by decide +kernel) (pa_cons (pv 1) (pa_cons (pe_bltn (v := .ty "str") rfl T.str (by decide +kernel) rfl) pa_nil))) (pe_one (pe_cmp (pc_din hu (pv 1) (pv 0)) rfl)))), ?_⟩
    refine ⟨_, rfl, _, .ty "str", .type "str", .type "str", true, rfl, .ty _, .base (.str _), kit_ty (by decide +kernel), _, rfl, ?_⟩
    refine iteT ⟨_, rfl, _, rfl, b, _, rfl, .inl ⟨kvs, .inr x, hb, rfl, rfl⟩, ?_⟩
    rw [hx]
    exact k
abbrev CIsRow (P : Program) (w : World) (K : PySem.W.Frag) (mg : Str → Option Value) (base : Heap) := Cal P w K mg base "is_row" 2 ["value"] spIsRow
theorem scIr : FnScope ["value", "kind", "turns", "word", "goal"] ["value"] (defScope sIsRow) := ⟨rfl, rfl, rfl, by decide +kernel, rfl, by decide +kernel, by decide +kernel⟩
theorem ok_isrow {f : Addr} {fd : FuncData} (F : Fun K "is_row" "is_row" sIsRow f fd) (T : Free3 mg) (CN : CIsName P w K mg base) : FnOk P w K mg base CX0 2 f fd ["value"] spIsRow := by
  refine F.ok scIr (fun vs H Q E h => ?_) (fun cdv A outer s H vs Q E hr h => ?_)
  · obtain ⟨v, k, ts, rfl, _⟩ := h; rfl
  · obtain ⟨v, kd, ts, rfl, ⟨t, a, rfl, ht, ha⟩, rf, k⟩ := h
    have hu := hu_of hr
    refine ⟨_, pss_cons (ps_if (PW.pt (pw_or (pt_not (pt_val (pe_callB call_isi (by rfl) T.isi (by decide +kernel) (pa_cons (pv 0) (pa_cons (pe_bltn (v := .ty "tuple") rfl T.tuple (by decide +kernel) rfl) pa_nil))))) (pw_or1 (pt_cmpR op_ne (pe_callB call_len_seq (by rfl) T.len PySem.boot_len (pa_cons (pv 0) pa_nil)) pe_int (nomark _))))) (pss_one (ps_ret pe_bl)) pss_nil)
      (pss_cons (ps_asg (pv 0) (pg_tup rfl (pgs_cons (pg_name (i := 1) scIr.nd rfl (Or.inl rfl)) (pgs_cons (pg_name (i := 2) scIr.nd rfl (Or.inl rfl)) pgs_nil))))
      (pss_cons (ps_if (pt_not (pt_val (pe_callB call_isi (by rfl) T.isi (by decide +kernel) (pa_cons (pv 2) (pa_cons (pe_bltn (v := .ty "dict") rfl T.dict (by decide +kernel) rfl) pa_nil))))) (pss_one (ps_ret pe_bl)) pss_nil)
      (pss_cons (ps_if (pt_cmpR op_eq (pv 1) pe_str (nomark _)) (pss_one (ps_ret (pe_cmpR op_eq (pe_callB call_lenD (by rfl) T.len PySem.boot_len (pa_cons (pv 2) pa_nil)) pe_int (nomark _)))) pss_nil)
      (pss_cons (ps_if (PW.pt (pw_and (pt_cmpR op_ne (pv 1) pe_str (nomark _)) (pw_and1 (pt_cmpR op_ne (pv 1) pe_str (nomark _))))) (pss_one (ps_ret pe_bl)) pss_nil)
      (pss_one (ps_ret (pe_and (pe_cmpR op_gt (pe_callB call_lenD (by rfl) T.len PySem.boot_len (pa_cons (pv 2) pa_nil)) pe_int (nomark _)) (pe_one (pe_callB (cr_all rfl) (by rfl) T.all (by decide +kernel) (pa_cons (pe_lock (pe_lc (own := [("word", 3), ("goal", 4)]) (g := gTup K 2 (gCons (gName 3) (gCons (gName 4) gNil))) (tt := tYes) rfl scIr.nd (pi_items (pv 2))
        (blkOk_by (N := ["value", "kind", "turns", "word", "goal"]) (sc := defScope sIsRow) (by decide +kernel)) (fun _ _ _ _ _ => pg_tup rfl (pgs_cons (pg_name (i := 3) scIr.nd rfl (Or.inl rfl)) (pgs_cons (pg_name (i := 4) scIr.nd rfl (Or.inl rfl)) pgs_nil))) (fun _ _ _ _ _ => pts_nil)
        (fun _ _ _ _ _ => pe_and (pe_cal CN (hr.mono (by decide)) rfl (pa_cons (pv 3) pa_nil)) (pe_one (pe_cal CN (hr.mono (by decide)) rfl (pa_cons (pv 4) pa_nil)))))) pa_nil)))))))))), ?_⟩
    refine ⟨_, rfl, _, .ty "tuple", .type "tuple", .type "tuple", true, rfl, .ty _, .base (.tup ht), kit_ty (by decide +kernel), _, rfl, ?_⟩
    refine iteF ⟨_, rfl, t, _, rfl, .inr (SqT.of ht), ?_⟩
    refine ⟨rfl, _, rfl, ?_⟩
    refine iteF ⟨_, rfl, t, _, rfl, SqT.of ht, rfl, _, _, rfl, _, _, rfl, rfl, ?_⟩
    refine ⟨_, rfl, _, .ty "dict", .type "dict", .type "dict", true, rfl, .ty _, .base (.dK ha), kit_ty (by decide +kernel), _, rfl, ?_⟩
    refine iteF ⟨_, rfl, rfl, _, rfl, ?_⟩
    rcases rf with ⟨rfl, rfl⟩ | ⟨hk, ne, ll, aw⟩
    · refine iteT ⟨_, rfl, a, [], rfl, ha, rfl, ?_⟩
      exact k H (Same.refl H)
    · have nk : (decide (V.str kd = V.str "done")) = false := by
        refine decide_eq_false fun e => ?_
        have e : kd = "done" := by injection e
        rcases hk with h | h <;> rw [h] at e <;> exact absurd e (by decide)
      rw [nk]
      refine iteF ⟨_, rfl, rfl, _, rfl, ?_⟩
      have bad : (!decide (V.str kd = V.str "says")) = true → (!decide (V.str kd = V.str "hears")) = true → False := fun c1 c2 => by
        rcases hk with h | h
        · rw [h] at c1; simp at c1
        · rw [h] at c2; simp at c2
      refine ite2 (fun c1 => ⟨_, rfl, rfl, _, rfl, ite2 (fun c2 => (bad c1 c2).elim) (fun _ => ?_)⟩) (fun _ => iteF ?_)
      all_goals
        refine ⟨_, rfl, a, _, rfl, ha, _, _, rfl, rfl, _, rfl, ?_⟩
        have lp : 0 < (kT ts).length := by rw [kT, List.length_map]; exact List.length_pos_iff.mpr ne
        rw [decide_eq_true (show (0 : Int) < ((kT ts).length : Int) by omega)]
        refine iteT ⟨a, _, ha, trivial, fun od => ?_⟩
        refine ⟨_, rfl, a, od, kT ts, rfl, upd_same, fun D hD => ?_⟩
        have nD : a ≠ D := fun e => by rw [← e, upd_same] at hD; cases hD
        have hD0 := upd_none' hD
        refine lc_it (walk_items (d := a) (o := od) (kvs := kT ts)) (fun i H' => Same (L2.upd H a (.frz od (.dK (kT ts)))) H' ∧ H' D = some (.lst ((List.replicate i true).map V.bl))) ⟨Same.new hD, upd_same⟩ (fun i H' _ z => z.1 _ _ upd_same) ?_ ?_
        · rintro i v H1 H2 hi ⟨sm, hl⟩ ⟨T1, x, y, rfl, hT1, rfl, ex, ey⟩
          have hi' : i < ts.length := by rw [kT, List.length_map] at hi; exact hi
          have hk1 : (kT ts)[i]? = some (.inr ts[i].1, .str ts[i].2) := by rw [kT, List.getElem?_map, List.getElem?_eq_getElem hi']; rfl
          dsimp only at ex ey
          rw [hk1] at ex ey
          cases ex; cases ey
          have hw := aw ts[i] (List.getElem_mem hi')
          have nTD : D ≠ T1 := ne_of_none hl hT1
          refine ⟨T1, _, rfl, SqT.of upd_same, rfl, _, _, rfl, _, _, rfl, rfl, rfl, ?_⟩
          dsimp only [tYes]
          rw [if_pos rfl]
          refine ⟨_, rfl, _, rfl, hw.1, fun H3 s3 => ⟨_, rfl, iteT ⟨_, rfl, _, rfl, hw.2, fun H4 s4 => ?_⟩⟩⟩
          refine ⟨_, s4 _ _ (s3 _ _ (by rw [upd_ne nTD]; exact hl)), by rw [List.length_map, List.length_replicate, sizeLine_eq]; omega, ?_, ?_⟩
          · intro b u e
            rw [upd_ne (ne_of_none e hD)]; exact s4 _ _ (s3 _ _ (Same.new hT1 _ _ (sm _ _ e)))
          · rw [upd_same, repl_snoc]
        · rintro H1 ⟨sm, hl⟩
          refine ⟨sm _ _ upd_same, D, _, rfl, SqL.of (by rw [upd_ne nD.symm]; exact hl), ?_⟩
          rw [all_true]
          exact k _ (Same.unlock ha sm)
end
end D1
end L2
/-! ordered turns and books -/
namespace L2
namespace D1
open PySem PySem.Spec PyProof.Rows
def leC (a b : List Nat) : Prop := ltCps b a = false
theorem leC_trans : ∀ {a b c : List Nat}, leC a b → leC b c → leC a c
  | [], _, [], _, _ => rfl
  | [], _, _ :: _, _, _ => rfl
  | _ :: _, [], _, h, _ => by cases h
  | _ :: _, _ :: _, [], _, h => by cases h
  | x :: a, y :: b, z :: c, h1, h2 => by
    unfold leC at *
    unfold ltCps at *
    simp only [Bool.or_eq_false_iff, decide_eq_false_iff_not, Bool.and_eq_false_iff, beq_eq_false_iff_ne] at *
    obtain ⟨p1, q1⟩ := h1
    obtain ⟨p2, q2⟩ := h2
    refine ⟨by omega, ?_⟩
    by_cases e : z = x
    · right
      have e1 : y = x := by omega
      have e2 : z = y := by omega
      have r1 := q1.resolve_left fun n => n e1
      have r2 := q2.resolve_left fun n => n e2
      exact leC_trans (a := a) (b := b) (c := c) r1 r2
    · exact .inl e
theorem leC_anti : ∀ {a b : List Nat}, leC a b → leC b a → a = b
  | [], [], _, _ => rfl
  | [], _ :: _, _, h => by cases h
  | _ :: _, [], h, _ => by cases h
  | x :: a, y :: b, h1, h2 => by
    unfold leC at *
    unfold ltCps at *
    simp only [Bool.or_eq_false_iff, decide_eq_false_iff_not, Bool.and_eq_false_iff, beq_eq_false_iff_ne] at *
    have e : x = y := by omega
    have r1 := h1.2.resolve_left fun n => n e.symm
    have r2 := h2.2.resolve_left fun n => n e
    rw [e, leC_anti (a := a) (b := b) r1 r2]
theorem leC_total : ∀ (a b : List Nat), leC a b ∨ leC b a
  | [], [] => .inl rfl
  | [], _ :: _ => .inl rfl
  | _ :: _, [] => .inr rfl
  | x :: a, y :: b => by
    unfold leC
    unfold ltCps
    simp only [Bool.or_eq_false_iff, decide_eq_false_iff_not, Bool.and_eq_false_iff, beq_eq_false_iff_ne]
    rcases Nat.lt_trichotomy x y with h | h | h
    · exact .inl ⟨by omega, .inl (by omega)⟩
    · rcases leC_total a b with r | r
      · exact .inl ⟨by omega, .inr r⟩
      · exact .inr ⟨by omega, .inr r⟩
    · exact .inr ⟨by omega, .inl (by omega)⟩
def leS (x y : Str) : Prop := leC (tl x) (tl y)
theorem rising_pw : ∀ (l : List Str) (p : Str), risingS p l = true → (p :: l).Pairwise leS
  | [], p, _ => List.pairwise_singleton _ _
  | x :: r, p, h => by
    unfold risingS at h
    rw [Bool.and_eq_true, Bool.not_eq_true'] at h
    have ih := rising_pw r x h.2
    refine List.pairwise_cons.mpr ⟨fun y hy => ?_, ih⟩
    rcases List.mem_cons.mp hy with e | e
    · rw [e]; exact h.1
    · exact leC_trans (show leC (tl p) (tl x) from h.1) ((List.pairwise_cons.mp ih).1 y e)
theorem sorted_pw : ∀ {l : List Str}, sortedS l = true → l.Pairwise leS
  | [], _ => List.Pairwise.nil
  | x :: r, h => rising_pw r x h
theorem pw_unique : ∀ {ys zs : List Str}, ys.Perm zs → ys.Pairwise leS → zs.Pairwise leS → ys = zs
  | [], zs, p, _, _ => (List.nil_perm.mp p).symm
  | y :: r, [], p, _, _ => by have := p.length_eq; simp at this
  | y :: r, z :: s, p, h1, h2 => by
    have e : y = z := by
      rcases List.mem_cons.mp (p.mem_iff.mp List.mem_cons_self) with e | e
      · exact e
      · rcases List.mem_cons.mp (p.mem_iff.mpr List.mem_cons_self) with e2 | e2
        · exact e2.symm
        · exact tl_ext (leC_anti ((List.pairwise_cons.mp h1).1 z e2) ((List.pairwise_cons.mp h2).1 y e))
    subst e
    rw [pw_unique (List.Perm.cons_inv p) (List.pairwise_cons.mp h1).2 (List.pairwise_cons.mp h2).2]
instance (x y : Str) : Decidable (leS x y) := inferInstanceAs (Decidable (_ = false))
def insS (x : Str) : List Str → List Str
  | [] => [x]
  | y :: r => if leS x y then x :: y :: r else y :: insS x r
def srt : List Str → List Str
  | [] => []
  | x :: r => insS x (srt r)
theorem ins_perm (x : Str) : ∀ l : List Str, (insS x l).Perm (x :: l)
  | [] => List.Perm.refl _
  | y :: r => by
    unfold insS
    split
    · exact List.Perm.refl _
    · exact ((ins_perm x r).cons y).trans (List.Perm.swap x y r)
theorem srt_perm : ∀ l : List Str, (srt l).Perm l
  | [] => List.Perm.refl _
  | x :: r => (ins_perm x (srt r)).trans ((srt_perm r).cons x)
theorem ins_pw (x : Str) : ∀ {l : List Str}, l.Pairwise leS → (insS x l).Pairwise leS
  | [], _ => List.pairwise_singleton _ _
  | y :: r, h => by
    unfold insS
    split
    · rename_i c
      refine List.pairwise_cons.mpr ⟨fun z hz => ?_, h⟩
      rcases List.mem_cons.mp hz with e | e
      · rw [e]; exact c
      · exact leC_trans c ((List.pairwise_cons.mp h).1 z e)
    · rename_i c
      have hy : leS y x := (leC_total (tl x) (tl y)).resolve_left c
      refine List.pairwise_cons.mpr ⟨fun z hz => ?_, ins_pw x (List.pairwise_cons.mp h).2⟩
      rcases List.mem_cons.mp ((ins_perm x r).mem_iff.mp hz) with e | e
      · rw [e]; exact hy
      · exact (List.pairwise_cons.mp h).1 z e
theorem srt_pw : ∀ l : List Str, (srt l).Pairwise leS
  | [] => List.Pairwise.nil
  | x :: r => ins_pw x (srt_pw r)
theorem srt_of {ys ks : List Str} (p : ys.Perm ks) (s : sortedS ys = true) : ys = srt ks := pw_unique (p.trans (srt_perm ks).symm) (sorted_pw s) (srt_pw ks)
theorem srt_congr {ks ls : List Str} (p : ks.Perm ls) : srt ks = srt ls := pw_unique ((srt_perm ks).trans (p.trans (srt_perm ls).symm)) (srt_pw ks) (srt_pw ls)
/-- the goal of a word -/
def goalT (ts : List (Str × Str)) (k : Str) : Str := ((ts.find? fun t => decide (t.1 = k)).map (·.2)).getD ""
def ordT (ts : List (Str × Str)) : List (Str × Str) := (srt (ts.map (·.1))).map fun k => (k, goalT ts k)
theorem valV_kT (ts : List (Str × Str)) (k : Str) : valV (kT ts) (.inr k) = (ts.find? fun t => decide (t.1 = k)).map fun t => V.str t.2 := by
  induction ts with
  | nil => rfl
  | cons a r ih =>
    rw [List.find?_cons]
    by_cases h : a.1 = k
    · rw [show valV (kT (a :: r)) (.inr k) = some (V.str a.2) from valV_pos (p := (Sum.inr a.1, V.str a.2)) (congrArg _ h), decide_eq_true h]; rfl
    · rw [show valV (kT (a :: r)) (.inr k) = valV (kT r) (.inr k) from valV_neg (p := (Sum.inr a.1, V.str a.2)) (fun e => h (Sum.inr.inj e)), decide_eq_false h, ih]
theorem find_some {ts : List (Str × Str)} {k : Str} (h : k ∈ ts.map (·.1)) : ∃ t, (ts.find? fun t => decide (t.1 = k)) = some t ∧ t.1 = k ∧ t ∈ ts := by
  obtain ⟨t, ht, e⟩ := List.mem_map.mp h
  cases z : ts.find? fun t => decide (t.1 = k) with
  | none => exact absurd (decide_eq_true e) (List.find?_eq_none.mp z t ht)
  | some u =>
    have e1 := List.find?_some z
    exact ⟨u, rfl, of_decide_eq_true e1, List.mem_of_find?_eq_some z⟩
theorem valV_goal {ts : List (Str × Str)} {k : Str} (h : k ∈ ts.map (·.1)) : valV (kT ts) (.inr k) = some (.str (goalT ts k)) := by
  obtain ⟨t, e, _⟩ := find_some h
  rw [valV_kT, goalT, e]; rfl
theorem ordT_keys (ts : List (Str × Str)) : (ordT ts).map (·.1) = srt (ts.map (·.1)) := by
  rw [ordT, List.map_map]
  exact List.map_id'' (fun _ => rfl) _
/-- a dict comprehension over a walk -/
theorem dc_it {J : It} {n : Nat} {G : Hp → Prop} {Y : Nat → Hp → V → Hp → Prop} (w : Walk J n G Y) {g : TG} {tt : TT} {tk tv : TE} {vs : List Nat} {σ : L2.St} {H1 : Hp} {D : Addr} {Qd : Hp → Prop} (Pv : Nat → Hp → Prop) (h0 : Pv 0 (L2.upd H1 D (.dK []))) (hG : ∀ i H, i ≤ n → Pv i H → G H)
    (hs : ∀ i x H H', i < n → Pv i H → Y i H x H' → g x (wipe σ vs) H' fun σ2 H2 => wipe σ2 vs = wipe σ vs ∧ tt σ2 H2 fun b H3 =>
      if b = true then tk σ2 H3 fun y H4 => tv σ2 H4 fun z H5 => ∃ kvs k, y = kV k ∧ H5 D = some (.dK kvs) ∧ kvs.length < sizeLine ∧ Pv (i + 1) (L2.upd H5 D (.dK (putK kvs k z))) else Pv (i + 1) H3) (hd : ∀ H, Pv n H → Qd H) :
    ∃ W : Nat → Nat → Hp → Prop, (∃ m, W 0 m (L2.upd H1 D (.dK []))) ∧ ∀ i m H, W i m H →
      (J.stop i H ∧ Qd H) ∨ (J.go i H ∧ ∃ Nx : Hp → Prop, (∀ H', Nx H' → ∃ m', m' < m ∧ W (i + 1) m' H') ∧ ∀ x H', J.yld i H x H' → g x (wipe σ vs) H' fun σ2 H2 => wipe σ2 vs = wipe σ vs ∧ tt σ2 H2 fun b H3 =>
        if b = true then tk σ2 H3 fun y H4 => tv σ2 H4 fun z H5 => ∃ kvs k, y = kV k ∧ H5 D = some (.dK kvs) ∧ kvs.length < sizeLine ∧ Nx (L2.upd H5 D (.dK (putK kvs k z))) else Nx H3) := by
  refine ⟨fun i m H => m = n - i ∧ i ≤ n ∧ Pv i H, ⟨n, by simp, Nat.zero_le _, h0⟩, ?_⟩
  rintro i m H ⟨rfl, hi, p⟩
  have q := hG i H hi p
  by_cases hlt : i < n
  · refine .inr ⟨w.goes i H hlt q, Pv (i + 1), fun H' p' => ⟨n - (i + 1), by omega, rfl, hlt, p'⟩, fun x H' y => hs i x H H' hlt p (w.yields i H x H' hlt q y)⟩
  · have e : i = n := by omega
    subst e
    exact .inl ⟨w.stops H q, hd H p⟩
/-- a book's row -/
def rowOf (bk : Bk) (s : Str) : Str × List (Str × Str) := ((bk.find? fun r => decide (r.1 = s)).map (·.2)).getD ("", [])
def ordB (bk : Bk) : Bk := (srt (bk.map (·.1))).map fun s => (s, (rowOf bk s).1, ordT (rowOf bk s).2)
theorem Rows.look {H : Hp} {kvs : List (Key × V)} {bk : Bk} {s : Str} (h : Rows H kvs bk) (m : s ∈ bk.map (·.1)) : ∃ v, valV kvs (.inr s) = some v ∧ RowAt H v (rowOf bk s).1 (rowOf bk s).2 ∧ (s, rowOf bk s) ∈ bk := by
  unfold Rows at h
  induction h with
  | nil => cases m
  | @cons a r kvs bk h1 _ ih =>
    by_cases e : r.1 = s
    · refine ⟨a.2, valV_pos (by rw [h1.1, e]), ?_, ?_⟩
      · rw [rowOf, List.find?_cons, decide_eq_true e]; exact h1.2
      · rw [rowOf, List.find?_cons, decide_eq_true e, ← e]; exact List.mem_cons_self
    · have m' : s ∈ bk.map (·.1) := by
        rcases List.mem_cons.mp m with z | z
        · exact absurd z.symm e
        · exact z
      obtain ⟨v, h2, h3, h4⟩ := ih m'
      have er : rowOf (r :: bk) s = rowOf bk s := by rw [rowOf, List.find?_cons, decide_eq_false e]; rfl
      refine ⟨v, by rw [valV_neg (by rw [h1.1]; exact fun z => e (Sum.inr.inj z))]; exact h2, by rw [er]; exact h3, by rw [er]; exact List.mem_cons_of_mem _ h4⟩
/-- what is new in H' -/
def newH (H H' : Hp) : Hp := fun a => if (H a).isSome then none else H' a
theorem new_out {H H' : Hp} {a : Addr} (n : H a = none) : newH H H' a = H' a := by unfold newH; rw [n]; rfl
theorem new_some {H H' : Hp} {a : Addr} {o : HO} (e : newH H H' a = some o) : H a = none ∧ H' a = some o := by
  unfold newH at e
  cases h : H a with
  | none => rw [h] at e; exact ⟨rfl, e⟩
  | some u => rw [h] at e; cases e
theorem new_le {H H' : Hp} : Same (newH H H') H' := fun _ _ e => (new_some e).2
theorem new_same {H H1 H2 : Hp} (s : Same H1 H2) : Same (newH H H1) (newH H H2) := fun _ _ e => let ⟨n, e⟩ := new_some e; by rw [new_out n]; exact s _ _ e
theorem new_mono {H Hq H' : Hp} (s : Same H Hq) : Same (newH Hq H') (newH H H') := fun a _ e => by
  obtain ⟨n, e⟩ := new_some e
  have n2 : H a = none := by
    cases h : H a with
    | none => rfl
    | some u => rw [s _ _ h] at n; cases n
  rw [new_out n2]; exact e
theorem cut_new_upd {H X : Hp} {D : Addr} {o : HO} : cut [D] (newH H (L2.upd X D o)) = cut [D] (newH H X) := by
  funext a
  by_cases h : a = D
  · rw [cut, cut, if_pos (List.mem_singleton.mpr h), if_pos (List.mem_singleton.mpr h)]
  · have e : newH H (L2.upd X D o) a = newH H X a := by unfold newH; rw [upd_ne h]
    rw [cut_out (by simpa using h), cut_out (by simpa using h), e]
/-- a book that may stand locked -/
def BookR (H : Hp) (b : Addr) (bk : Bk) : Prop := ∃ kvs, Rd H b (.dK kvs) ∧ Rows H kvs bk
theorem rd_same {H H' : Hp} {a : Addr} {o : HO} (h : Rd H a o) (s : Same H H') : Rd H' a o := by
  rcases h with h | ⟨od, h⟩
  · exact .inl (s _ _ h)
  · exact .inr ⟨od, s _ _ h⟩
theorem BookAt.r {H : Hp} {b : Addr} {bk : Bk} (h : BookAt H b bk) : BookR H b bk := let ⟨kvs, e, r⟩ := h; ⟨kvs, .inl e, r⟩
theorem BookR.same {H H' : Hp} {b : Addr} {bk : Bk} (h : BookR H b bk) (s : Same H H') : BookR H' b bk := let ⟨kvs, e, r⟩ := h; ⟨kvs, rd_same e s, r.same s⟩
abbrev sOrdT : Stmt := top 21
abbrev sOrdB : Stmt := top 22
def spOrdT : Sp := fun vs H Q _ => ∃ (a : Addr) (ts : List (Str × Str)), vs = [.ref a] ∧ TurnsAt H a ts ∧ (ts.map (·.1)).Nodup ∧ ts.length < 64 ∧ ∀ H' R, Same H H' → H R = none → TurnsAt H' R (ordT ts) → Q (.ref R) H'
/-- a book that may be put in order -/
structure BOk (bk : Bk) : Prop where
  nd : (bk.map (·.1)).Nodup
  len : bk.length < 64
  rs : ∀ r ∈ bk, (r.2.2.map (·.1)).Nodup ∧ r.2.2.length < 64
def spOrdB : Sp := fun vs H Q _ => ∃ (b : Addr) (bk : Bk), vs = [.ref b] ∧ BookR H b bk ∧ BOk bk ∧ ∀ H' R, Same H H' → H R = none → BookAt (newH H H') R (ordB bk) → Q (.ref R) H'
section
variable {P : Program} {w : World} {K : PySem.W.Frag} {mg : Str → Option Value} {base : Heap}
theorem scOt : FnScope ["turns", "word"] ["turns"] (defScope sOrdT) := ⟨rfl, rfl, rfl, by decide +kernel, rfl, by decide +kernel, by decide +kernel⟩
theorem ok_ordT {f : Addr} {fd : FuncData} (F : Fun K "ordered_turns" "ordered_turns" sOrdT f fd) (T : Free3 mg) : FnOk P w K mg base CX0 1 f fd ["turns"] spOrdT := by
  refine F.ok scOt (fun vs H Q E h => ?_) (fun cdv A outer s H vs Q E hr h => ?_)
  · obtain ⟨a, ts, rfl, _⟩ := h; rfl
  · obtain ⟨a, ts, rfl, ha, nd, l64, k⟩ := h
    have hu := hu_of hr
    refine ⟨_, pss_one (ps_ret (pe_dc (own := [("word", 1)]) (g := gName 1) (tt := tYes) (tk := tVar 1) (tv := tDGet (tVar 0) (tVar 1)) rfl scOt.nd (pi_list (pe_callB (call_sortedD rfl) (by rfl) T.sorted (by decide +kernel) (pa_cons (pv 0) pa_nil)))
        (blkOk_by (N := ["turns", "word"]) (sc := defScope sOrdT) (by decide +kernel)) (fun _ _ _ _ _ => pg_name (i := 1) scOt.nd rfl (Or.inl rfl)) (fun _ _ _ _ _ => pts_nil) (fun _ _ _ _ _ => pv 1) (fun _ _ _ _ _ => pe_dget hu (pv 0) (pv 1) (fun _ _ => rfl)))), ?_⟩
    have ek : (kT ts).map (·.1) = (ts.map (·.1)).map Sum.inr := by rw [kT, List.map_map, List.map_map]; rfl
    refine ⟨_, rfl, a, kT ts, ts.map (·.1), rfl, .inl ha, ek, by rw [List.length_map]; exact l64, fun ys q pm so hq => ?_⟩
    have ey := srt_of pm so
    have lq : ys.length < 64 := by rw [pm.length_eq, List.length_map]; exact l64
    have am : ∀ y ∈ ys, y ∈ ts.map (·.1) := fun y hy => pm.mem_iff.mp hy
    have ndy : ys.Nodup := pm.nodup_iff.mpr nd
    refine ⟨q, rfl, ⟨_, SqL.of upd_same⟩, fun D hD => ?_⟩
    have nqD : q ≠ D := fun e => by rw [← e, upd_same] at hD; cases hD
    have hD0 := upd_none' hD
    refine dc_it (walk_list (K := K) (a := q) (xs := ys.map V.str)) (fun i H' => Same H H' ∧ SL H' q ys ∧ TurnsAt H' D ((ys.take i).map fun k => (k, goalT ts k)))
      ⟨fun b u e => by rw [upd_ne (ne_of_none e hD0), upd_ne (ne_of_none e hq)]; exact e, by rw [SL, upd_ne nqD, upd_same], by rw [TurnsAt, upd_same]; rfl⟩ (fun i H' _ z => z.2.1.sq) ?_ ?_
    · rintro i v H1 H2 hi ⟨sm, hl, hT⟩ ⟨rfl, hx⟩
      obtain ⟨z, hz, rfl⟩ := get_map hx
      have hzm := am z (List.mem_of_getElem? hz)
      refine ⟨rfl, ?_⟩
      dsimp only [tYes]
      rw [if_pos rfl]
      have hn : (Sum.inr z : Key) ∉ (kT ((ys.take i).map fun k => (k, goalT ts k))).map (·.1) := fun hm => by
        obtain ⟨p1, hp1, e1⟩ := List.mem_map.mp hm
        obtain ⟨p2, hp2, e2⟩ := List.mem_map.mp hp1
        obtain ⟨p3, hp3, e3⟩ := List.mem_map.mp hp2
        subst e3; subst e2
        have e1 : p3 = z := Sum.inr.inj e1
        rw [e1] at hp3
        obtain ⟨m, hm1, hm2⟩ := List.mem_take_iff_getElem.mp hp3
        have h1 : ys[m]? = some z := by rw [List.getElem?_eq_getElem (by omega), hm2]
        have := (List.getElem?_inj (by omega) ndy).mp (h1.trans hz.symm)
        omega
      refine ⟨_, rfl, _, rfl, _, rfl, a, _, rfl, .inl ⟨kT ts, .inr z, .inl (ha.same sm), rfl, (valV_goal hzm).symm⟩, _, .inr z, rfl, hT, ?_, ?_, ?_, ?_⟩
      · rw [kT, List.length_map, List.length_map, List.length_take, sizeLine_eq]; omega
      · intro b u e
        rw [upd_ne (ne_of_none e hD0)]; exact sm _ _ e
      · rw [SL, upd_ne nqD]; exact hl
      · rw [TurnsAt, upd_same, putK_new hn, take_succ_get hz, List.map_append, kT, kT, List.map_append]; rfl
    · rintro H1 ⟨sm, hl, hT⟩
      refine k H1 D sm hD0 ?_
      rw [List.length_map, List.take_length, ey] at hT
      exact hT
end
end D1
end L2
/-! ordered_book -/
namespace L2
namespace D1
open PySem PySem.Spec PyProof.Rows
section
variable {P : Program} {w : World} {K : PySem.W.Frag} {mg : Str → Option Value} {base : Heap}
abbrev COrdT (P : Program) (w : World) (K : PySem.W.Frag) (mg : Str → Option Value) (base : Heap) := Cal P w K mg base "ordered_turns" 1 ["turns"] spOrdT
theorem scOb : FnScope ["book", "state"] ["book"] (defScope sOrdB) := ⟨rfl, rfl, rfl, by decide +kernel, rfl, by decide +kernel, by decide +kernel⟩
theorem ok_ordB {f : Addr} {fd : FuncData} (F : Fun K "ordered_book" "ordered_book" sOrdB f fd) (T : Free3 mg) (CT : COrdT P w K mg base) : FnOk P w K mg base CX0 2 f fd ["book"] spOrdB := by
  refine F.ok scOb (fun vs H Q E h => ?_) (fun cdv A outer s H vs Q E hr h => ?_)
  · obtain ⟨a, bk, rfl, _⟩ := h; rfl
  · obtain ⟨b, bk, rfl, ⟨kvs0, hb, hRw⟩, ok, k⟩ := h
    have hu := hu_of hr
    refine ⟨_, pss_one (ps_ret (pe_dc (own := [("state", 1)]) (g := gName 1) (tt := tYes) (tk := tVar 1) (tv := tTup (tCons (tOp (rIxT K) (tDGet (tVar 0) (tVar 1)) (tC (.int 0))) (tCons (tCall spOrdT [] E0 (tCons (tOp (rIxT K) (tDGet (tVar 0) (tVar 1)) (tC (.int 1))) tNil)) tNil))) rfl scOb.nd (pi_list (pe_callB (call_sortedD rfl) (by rfl) T.sorted (by decide +kernel) (pa_cons (pv 0) pa_nil)))
        (blkOk_by (N := ["book", "state"]) (sc := defScope sOrdB) (by decide +kernel)) (fun _ _ _ _ _ => pg_name (i := 1) scOb.nd rfl (Or.inl rfl)) (fun _ _ _ _ _ => pts_nil) (fun _ _ _ _ _ => pv 1)
        (fun _ _ _ _ _ => pe_tup (pa_cons (pe_ix ix_tup (pe_dget hu (pv 0) (pv 1) (fun _ _ => rfl)) pe_int (fun _ _ => rfl)) (pa_cons (pe_cal CT (hr.mono (by decide)) rfl (pa_cons (pe_ix ix_tup (pe_dget hu (pv 0) (pv 1) (fun _ _ => rfl)) pe_int (fun _ _ => rfl)) pa_nil)) pa_nil))))), ?_⟩
    have ek : kvs0.map (·.1) = (bk.map (·.1)).map Sum.inr := by rw [hRw.keys, List.map_map]; rfl
    refine ⟨_, rfl, b, kvs0, bk.map (·.1), rfl, hb, ek, by rw [List.length_map]; exact ok.len, fun ys q pm so hq => ?_⟩
    have ey := srt_of pm so
    have lq : ys.length < 64 := by rw [pm.length_eq, List.length_map]; exact ok.len
    have am : ∀ y ∈ ys, y ∈ bk.map (·.1) := fun y hy => pm.mem_iff.mp hy
    have ndy : ys.Nodup := pm.nodup_iff.mpr ok.nd
    refine ⟨q, rfl, ⟨_, SqL.of upd_same⟩, fun D hD => ?_⟩
    have nqD : q ≠ D := fun e => by rw [← e, upd_same] at hD; cases hD
    have hD0 := upd_none' hD
    refine dc_it (walk_list (K := K) (a := q) (xs := ys.map V.str)) (fun i H' => Same H H' ∧ SL H' q ys ∧ ∃ kvs, H' D = some (.dK kvs) ∧ Rows (cut [D] (newH H H')) kvs ((ys.take i).map fun s => (s, (rowOf bk s).1, ordT (rowOf bk s).2)))
      ⟨fun b u e => by rw [upd_ne (ne_of_none e hD0), upd_ne (ne_of_none e hq)]; exact e, by rw [SL, upd_ne nqD, upd_same], [], upd_same, .nil⟩ (fun i H' _ z => z.2.1.sq) ?_ ?_
    · rintro i v H1 H2 hi ⟨sm, hl, kvs, hk, hR⟩ ⟨rfl, hx⟩
      obtain ⟨z, hz, rfl⟩ := get_map hx
      have hzm := am z (List.mem_of_getElem? hz)
      refine ⟨rfl, ?_⟩
      dsimp only [tYes]
      rw [if_pos rfl]
      have hn : z ∉ ((ys.take i).map fun s => (s, (rowOf bk s).1, ordT (rowOf bk s).2) : Bk).map (·.1) := fun hm => by
        obtain ⟨p1, hp1, e1⟩ := List.mem_map.mp hm
        obtain ⟨p3, hp3, e3⟩ := List.mem_map.mp hp1
        subst e3
        have e1 : p3 = z := e1
        rw [e1] at hp3
        obtain ⟨m, hm1, hm2⟩ := List.mem_take_iff_getElem.mp hp3
        have h1 : ys[m]? = some z := by rw [List.getElem?_eq_getElem (by omega), hm2]
        have := (List.getElem?_inj (by omega) ndy).mp (h1.trans hz.symm)
        omega
      obtain ⟨v, h2, ⟨t, a, rfl, ht, ha⟩, hm⟩ := (hRw.same sm).look hzm
      have rr := ok.rs _ hm
      have hbz : DGet H2 b (V.str z) (some (.ref t)) := .inl ⟨kvs0, .inr z, rd_same hb sm, rfl, h2.symm⟩
      refine ⟨_, rfl, _, rfl, _, rfl, b, _, rfl, hbz, t, _, _, _, rfl, rfl, SqT.of ht, atI_nat (j := 0) rfl, _, rfl, _, rfl, b, _, rfl, hbz, t, _, _, _, rfl, rfl, SqT.of ht, atI_nat (j := 1) rfl, a, _, rfl, ha, rr.1, rr.2, fun H3 R s3 hRn hT => ?_⟩
      refine ⟨by show 2 ≤ sizeLine; decide, fun T1 hT1 => ?_⟩
      have hk3 := Same.new (o := .tup [.str (rowOf bk z).1, .ref R]) hT1 _ _ (s3 _ _ hk)
      have nT1D : T1 ≠ D := fun e => by rw [e, s3 _ _ hk] at hT1; cases hT1
      have nRD : R ≠ D := fun e => by rw [e, hk] at hRn; cases hRn
      have nRT : R ≠ T1 := fun e => by rw [← e, hT] at hT1; cases hT1
      refine ⟨kvs, .inr z, rfl, hk3, ?_, ?_, ?_, _, upd_same, ?_⟩
      · rw [hR.len, List.length_map, List.length_take, sizeLine_eq]; omega
      · intro b u e
        rw [upd_ne (ne_of_none e hD0)]; exact Same.new hT1 _ _ (s3 _ _ (sm _ _ e))
      · rw [SL, upd_ne nqD]; exact Same.new hT1 _ _ (s3 _ _ hl)
      · rw [putK_new (hR.fresh hn), cut_new_upd, take_succ_get hz, List.map_append]
        have oT : H T1 = none := (Same.trans sm s3).free hT1
        have oR : H R = none := sm.free hRn
        refine (hR.same (cut_same (new_same (Same.trans s3 (Same.new hT1))))).app ⟨T1, R, rfl, ?_, ?_⟩
        · rw [cut_out (by simpa using nT1D), new_out oT]; exact upd_same
        · rw [TurnsAt, cut_out (by simpa using nRD), new_out oR, upd_ne nRT]; exact hT
    · rintro H1 ⟨sm, hl, kvs, hk, hR⟩
      refine k H1 D sm hD0 ⟨kvs, by rw [new_out hD0]; exact hk, ?_⟩
      rw [List.length_map, List.take_length, ey] at hR
      exact hR.same cut_le
end
end D1
end L2
/-! sorted(list of pairs of texts) -/
namespace L2
namespace X6
open PySem PySem.Spec PyProof.Rows D1
/-- two texts in a tuple -/
def TwoT (h : Heap) (v : Value) (y : Str × Str) : Prop := ∃ (a : Addr) (o : Obj) (t u : Tok) (n : Nat), v = .ref a ∧ h.get? a = some o ∧ o.cls = .type "tuple" ∧ o.data = .seq #[.str y.1 t, .str y.2 u] n
theorem TwoT.uniq {h : Heap} {v : Value} {y z : Str × Str} (p : TwoT h v y) (q : TwoT h v z) : y = z := by
  obtain ⟨a, o, t, u, n, e, ho, hc, hd⟩ := p
  obtain ⟨b, o', t', u', n', e', ho', hc', hd'⟩ := q
  rw [e] at e'
  cases e'
  rw [ho] at ho'
  cases ho'
  rw [hd] at hd'
  cases y; cases z
  simp at hd'
  obtain ⟨⟨⟨e1, _⟩, e2, _⟩, _⟩ := hd'
  rw [e1, e2]
theorem TwoT.keeps {h h' : Heap} {v : Value} {y : Str × Str} (p : TwoT h v y) (k : ∀ b o, v = .ref b → h.get? b = some o → o.cls = .type "tuple" → h'.get? b = some o) : TwoT h' v y := by
  obtain ⟨a, o, t, u, n, e, ho, hc, hd⟩ := p
  exact ⟨a, o, t, u, n, e, k a o e ho hc, hc, hd⟩
instance : Nonempty (Str × Str) := ⟨⟨"", ""⟩⟩
noncomputable def twoOf (h : Heap) (v : Value) : Str × Str := Classical.epsilon fun y => TwoT h v y
theorem TwoT.two {h : Heap} {v : Value} {y : Str × Str} (p : TwoT h v y) : twoOf h v = y := TwoT.uniq (show TwoT h v (twoOf h v) from Classical.epsilon_spec (p := fun y => TwoT h v y) ⟨y, p⟩) p

def ltPS (p q : Str × Str) : Bool := if p.1 = q.1 then ltCps p.2.cps.toList q.2.cps.toList else ltCps p.1.cps.toList q.1.cps.toList
/-- in order, alike pairs beside one another -/
def lePS (p q : Str × Str) : Prop := ltPS q p = false
theorem lePS_iff {p q : Str × Str} : lePS p q ↔ (p.1 = q.1 ∧ leS p.2 q.2) ∨ (p.1 ≠ q.1 ∧ leS p.1 q.1) := by
  unfold lePS ltPS
  by_cases h : q.1 = p.1
  · rw [if_pos h]
    exact ⟨fun z => .inl ⟨h.symm, z⟩, fun z => z.elim (fun z => z.2) fun z => absurd h.symm z.1⟩
  · rw [if_neg h]
    exact ⟨fun z => .inr ⟨fun e => h e.symm, z⟩, fun z => z.elim (fun z => absurd z.1.symm h) fun z => z.2⟩
theorem leS_trans {a b c : Str} (h : leS a b) (g : leS b c) : leS a c := leC_trans h g
theorem leS_anti {a b : Str} (h : leS a b) (g : leS b a) : a = b := tl_ext (leC_anti h g)
theorem lePS_trans {p q r : Str × Str} (h : lePS p q) (g : lePS q r) : lePS p r := by
  rw [lePS_iff] at h g ⊢
  rcases h with ⟨h1, h2⟩ | ⟨h1, h2⟩
  · rcases g with ⟨g1, g2⟩ | ⟨g1, g2⟩
    · exact .inl ⟨h1.trans g1, leS_trans h2 g2⟩
    · exact .inr ⟨by rw [h1]; exact g1, by rw [h1]; exact g2⟩
  · rcases g with ⟨g1, g2⟩ | ⟨g1, g2⟩
    · exact .inr ⟨by rw [← g1]; exact h1, by rw [← g1]; exact h2⟩
    · by_cases e : p.1 = r.1
      · exact absurd (leS_anti h2 (by rw [e]; exact g2)) h1
      · exact .inr ⟨e, leS_trans h2 g2⟩
theorem lePS_anti {p q : Str × Str} (h : lePS p q) (g : lePS q p) : p = q := by
  rw [lePS_iff] at h g
  rcases h with ⟨h1, h2⟩ | ⟨h1, h2⟩
  · rcases g with ⟨g1, g2⟩ | ⟨g1, g2⟩
    · exact Prod.ext h1 (leS_anti h2 g2)
    · exact absurd h1.symm g1
  · rcases g with ⟨g1, g2⟩ | ⟨g1, g2⟩
    · exact absurd g1.symm h1
    · exact absurd (leS_anti h2 g2) h1
theorem ltC_asym {a b : List Nat} (h : ltCps a b = true) : ltCps b a = false := by
  rcases leC_total a b with z | z
  · exact z
  · rw [show ltCps a b = false from z] at h; cases h
def ltY2 (k : Value → Str × Str) (v u : Value) : Bool := ltPS (k v) (k u)
theorem ltY2_swo (k : Value → Str × Str) : SrtO.Swo (ltY2 k) := by
  refine ⟨fun x y h => ?_, fun x y z h g => lePS_trans (p := k x) (q := k y) (r := k z) h g⟩
  unfold ltY2 ltPS at h ⊢
  by_cases e : (k x).1 = (k y).1
  · rw [if_pos e] at h; rw [if_pos e.symm]; exact ltC_asym h
  · rw [if_neg e] at h; rw [if_neg fun z => e z.symm]; exact ltC_asym h
section
variable {prog : Program} {w : World} {A : Around} {E : Value → Shared → Prop} {s : Shared} {vs : List Value} {k : Value → Str × Str}
theorem pair_cmpS (hp : ∀ v ∈ vs, TwoT s.heap v (k v)) : SrtO.Cmp prog w A s (tuples' true) (fun p => p.1 ∈ vs) (SrtO.lt2 (ltY2 k)) := by
  intro p q hm hm'
  have h1 := hp _ hm
  have h2 := hp _ hm'
  show wpAny (model prog w) A (keyLt' (tuples' true) p.1 q.1) (fun r s' => s' = s ∧ r = ltPS (k p.1) (k q.1)) (fun _ _ => False) s
  generalize k p.1 = x at h1 ⊢
  generalize k q.1 = z at h2 ⊢
  obtain ⟨a, o, t, u, n, e, ho, hc, hd⟩ := h1
  obtain ⟨b, oo, t', u', n', e', ho', hc', hd'⟩ := h2
  rw [e, e']
  refine PySem.W.kat_lt ho hd ho' hd' ?_
  show PySem.W.KatLex prog w A true (decide (2 < 2)) _ [(.str x.1 t, .str z.1 t'), (.str x.2 u, .str z.2 u')] 0 s
  have irr : ∀ y : Str, ltCps y.cps.toList y.cps.toList = false := fun y => by rw [ltCps_eq]; exact decide_eq_false (List.lt_irrefl _)
  refine PySem.W.kat_cons (SeqAt.EqAt.str_str x.1 t z.1 t' prog w _ _ ?_)
  refine PySem.W.kat_go (fun same => ?_) (fun apart => ?_)
  · have ex : x.1 = z.1 := by simpa using same
    have er : ltPS x z = ltCps x.2.cps.toList z.2.cps.toList := if_pos ex
    refine PySem.W.kat_yes (PySem.W.kat_cons (SeqAt.EqAt.str_str x.2 u z.2 u' prog w _ _ ?_))
    refine PySem.W.kat_go (fun same2 => ?_) fun apart2 => ?_
    · have e2 : x.2 = z.2 := by simpa using same2
      have e0 : false = ltPS x z := by rw [er, e2, irr]
      refine PySem.W.kat_yes ?_
      refine PySem.W.kat_nil ?_
      exact ⟨rfl, e0⟩
    · refine PySem.W.kat_no ?_
      refine PyProof.Rows.oneLt_any_str ?_
      exact ⟨rfl, by rw [er, ltCps_eq]⟩
  · have ex : ¬ x.1 = z.1 := by simpa using apart
    have er : ltPS x z = ltCps x.1.cps.toList z.1.cps.toList := if_neg ex
    refine PySem.W.kat_no ?_
    refine oneLt_str ?_
    exact ⟨rfl, by rw [er, ltCps_eq]⟩
theorem first_ts {h : Heap} : ∀ {vs : List Value}, (∀ v ∈ vs, ∃ y, TwoT h v y) → ∃ fs : List Value, PySem.W.KatTups h vs fs ∧ fs.length = vs.length ∧ ∀ f ∈ fs, ∃ x t, f = Value.str x t
  | [], _ => ⟨[], .nil, rfl, nofun⟩
  | v :: vs, hp => by
    obtain ⟨fs, h1, h2, h3⟩ := first_ts (vs := vs) fun u hu => hp u (.tail _ hu)
    obtain ⟨y, a, o, t, u, n, rfl, ho, hc, hd⟩ := hp v (.head _)
    exact ⟨.str y.1 t :: fs, .cons ho hc hd rfl h1, congrArg (· + 1) h2, fun f hf => (List.mem_cons.mp hf).elim (fun z => ⟨_, _, z⟩) (h3 f)⟩
theorem pair_sortable {a : Addr} (h0 : 0 < vs.length) (hp : ∀ v ∈ vs, TwoT s.heap v (k v)) (ha : ∀ v ∈ vs, v ≠ .ref a) : SrtO.SortableO prog w A s a vs (ltY2 k) := by
  intro h' keep
  have hp' : ∀ v ∈ vs, TwoT h' v (k v) := fun v hv => (hp v hv).keeps fun b o e q _ => keep b o (fun z => ha v hv (by rw [e, z])) q
  obtain ⟨fs, h1, h2, h3⟩ := first_ts fun v hv => ⟨_, hp' v hv⟩
  refine ⟨tuples' true, fun Q E hq => PySem.W.kat_kind (T := .type "str") h1 (by omega) (fun f hf => ?_) (by rfl) ?_, pair_cmpS (s := { s with heap := h' }) hp'⟩
  · obtain ⟨x, t, rfl⟩ := h3 f hf
    exact PySem.W.Looks.now
  · rw [show (Value.type "str" != Value.type "tuple") = true by first | decide +kernel | rfl | decide]
    exact hq
end
/-- a list of pairs of texts, each a tuple -/
def Prs (H : Hp) (zs : List (Addr × Str × Str)) : Prop := ∀ z ∈ zs, H z.1 = some (.tup [.str z.2.1, .str z.2.2])
theorem Prs.same {H H' : Hp} {zs : List (Addr × Str × Str)} (h : Prs H zs) (s : Same H H') : Prs H' zs := fun z hz => s _ _ (h z hz)
def rSortSP (K : PySem.W.Frag) : List V → Hp → VK → Prop := fun vs H Q => ∃ (a : Addr) (zs : List (Addr × Str × Str)), vs = [.ref a] ∧ SqL K H a (zs.map fun z => V.ref z.1) ∧ Prs H zs ∧
  ∀ (p : Addr) (ys : List (Addr × Str × Str)), ys.Perm zs → (ys.map (·.2)).Pairwise lePS → H p = none → Q (.ref p) (L2.upd H p (.lst (ys.map fun z => V.ref z.1)))
section
variable {X : Cx}
theorem vals_refs : ∀ {zs : List (Addr × Str × Str)} {us : List Value}, Vals (zs.map fun z => V.ref z.1) us → us = zs.map fun z => Value.ref z.1
  | [], _, h => by cases h; rfl
  | z :: r, _, h => by
    cases h with
    | cons a t => rw [vals_refs t, show _ = Value.ref z.1 from a]; rfl
theorem refs_vals : ∀ zs : List (Addr × Str × Str), Vals (zs.map fun z => V.ref z.1) (zs.map fun z => Value.ref z.1)
  | [] => .nil
  | z :: r => .cons rfl (refs_vals r)
theorem cr_sortSP : CallR X (.builtin "sorted") (rSortSP X.K) := by
  intro pins s σ H vs us Q I r h
  obtain ⟨a, zs, rfl, hs, hp, q⟩ := h
  obtain ⟨its, rv, hl, hz⟩ := I.list hs
  obtain rfl := Vals.ref1 r
  have eits := vals_refs rv
  have lz : its.length ≤ sizeLine := by rw [← rv.length]; exact hz
  have two : ∀ z ∈ zs, TwoT s.heap (.ref z.1) z.2 := fun z m => by
    obtain ⟨_, its2, r2, o, ho, hc, n, hd⟩ := I.hok _ _ (hp z m)
    obtain ⟨u1, u2, rfl, ri, rj⟩ := vals2 r2
    obtain ⟨t1, rfl⟩ := ri
    obtain ⟨t2, rfl⟩ := rj
    exact ⟨z.1, o, t1, t2, n, rfl, ho, hc, hd⟩
  have all : ∀ v ∈ its, TwoT s.heap v (twoOf s.heap v) := fun v hv => by
    rw [eits] at hv
    obtain ⟨z, m, rfl⟩ := List.mem_map.mp hv
    rw [(two z m).two]; exact two z m
  refine SrtO.sorted_ord (ltY2_swo (twoOf s.heap)) hl.isList lz (fun h2 h1 b hb keep => ?_) fun out srtd stb => ?_
  · have all1 : ∀ v ∈ its, TwoT h1 v (twoOf s.heap v) := fun v hv => (all v hv).keeps fun c o _ e _ => (keep c o e).2
    refine pair_sortable (s := { s with heap := h1 }) (by omega) all1 fun v hv z => ?_
    obtain ⟨c, o, _, _, _, ev, ho, _⟩ := all v hv
    rw [ev] at z
    exact (keep c o ho).1 (Value.ref.inj z)
  · obtain ⟨ys, pz, ez⟩ := perm_lift (fun z : Addr × Str × Str => Value.ref z.1) stb.perm zs eits.symm
    have tw : ∀ y ∈ ys, twoOf s.heap (.ref y.1) = y.2 := fun y hy => (two y (pz.mem_iff.mp hy)).two
    obtain ⟨ep, he⟩ := PyProof.Rows.sortedAll_at s.heap its out.toArray
    have hlen : ys.length = zs.length := pz.length_eq
    refine ⟨.ref _, L2.upd H (s.heap.objs.size + 1) (.lst (ys.map fun z => V.ref z.1)), I.laid (t' := s.toks) (fun _ _ => PyProof.Rows.sortedAll_old) (Nat.le_succ _) ⟨by rw [List.length_map, hlen, ← List.length_map (f := fun z : Addr × Str × Str => V.ref z.1)]; exact hz, out, ep, ?_, he⟩, rfl, q _ ys pz ?_ (I.hok.fresh (Nat.le_succ _))⟩
    · rw [← ez]; exact refs_vals ys
    · rw [← ez] at srtd
      rw [List.pairwise_map]
      refine List.Pairwise.imp_of_mem (fun {x y} hx hy e => ?_) (List.pairwise_map.mp srtd)
      have e' : ltPS (twoOf s.heap (.ref y.1)) (twoOf s.heap (.ref x.1)) = false := e
      rw [tw x hx, tw y hy] at e'
      exact e'
end
end X6
end L2
/-! list(d), sorted(d), the keys of d being tuples -/
namespace L2
namespace X6
open PySem PySem.Spec PyProof.Rows D1
/-- what a dict with tuples as keys is walked through -/
theorem src_tup {prog : Program} {w : World} {d : Addr} {K0 : Type} {xs : List (K0 × Addr × Value)} {es : Array DictEntry} {ep : Nat} (lo : (d == sysModules) = false) (hx : ∀ i (hi : i < es.size), ∃ y, xs[i]? = some y ∧ es[i].key = .ref y.2.1 ∧ es[i].val = y.2.2) :
    PySem.W.KdlSrc prog w "dict" d d es.size (fun i v => ∃ y, xs[i]? = some y ∧ v = .ref y.2.1) (fun h => h.DictRaw d es ep) where
  type := fun _ m => m.typeIs
  there := fun _ ⟨_, e, _⟩ => ⟨Heap.lt_size e, Heap.lt_size e⟩
  keep := fun _ _ m k => m.at fun o e => k d (.inl rfl) o e
  notList := by decide
  notTuple := by decide
  hint := fun _ _ _ _ m q => PySem.W.kdl_hint_dict m.typeIs q
  iter := fun _ s hh m => by
    have hlt : d < s.heap.objs.size := let ⟨_, e, _⟩ := m; Heap.lt_size e
    exact ⟨_, _, fun _ _ q => wpAny_pyIter_dict_raw lo m q, Walks.keysH hh _ d (Nat.ne_of_lt hlt) es ep hx, ⟨⟨_, Heap.get?_push_size _ rfl, rfl, rfl⟩, m.at fun o e => Heap.get?_push_of_some _ e⟩⟩
/-- the tuples that are the keys -/
def KAt (H : Hp) (zs : List Addr) (kvs : List (List Key × V)) : Prop := Paired (fun z (kv : List Key × V) => H z = some (.tup (kv.1.map kV))) zs kvs
theorem kat_of {H : Hp} : ∀ {kvs : List (List Key × V)} {xs : List (List Key × Addr × Value)}, KT H kvs xs → KAt H (xs.map fun x => x.2.1) kvs
  | _, _, .nil => .nil
  | _, _, .cons h t => .cons h.2.1 (kat_of t)
section
variable {X : Cx}
theorem keys_out {zs : List Addr} : ∀ {us : List Value}, us.length = zs.length → (∀ (j : Nat) v, us[j]? = some v → ∃ z, zs[j]? = some z ∧ v = .ref z) → us = zs.map Value.ref := by
  induction zs with
  | nil => intro us hl _; exact List.length_eq_zero_iff.mp hl
  | cons z r ih =>
    intro us hl h
    match us, hl, h with
    | u :: us, hl, h =>
      obtain ⟨y, e1, e2⟩ := h 0 u rfl
      have e1 : z = y := Option.some.inj e1
      rw [e2, ← e1, ih (by simpa using hl) fun j v e => h (j + 1) v e]; rfl
theorem refs_are : ∀ zs : List Addr, Vals (zs.map V.ref) (zs.map Value.ref)
  | [] => .nil
  | _ :: r => .cons rfl (refs_are r)
/-- list(d) -/
theorem call_listT (hc : X.calm = true) : CallR X (.type "list") (fun xs H Q => ∃ (a : Addr) (kvs : List (List Key × V)), xs = [.ref a] ∧ Rd H a (.dT kvs) ∧ ∀ zs p, KAt H zs kvs → H p = none → Q (.ref p) (L2.upd H p (.lst (zs.map V.ref)))) := by
  intro pins s σ H xs us Q I r q
  obtain ⟨a, kvs, rfl, hd, q⟩ := q
  obtain rfl := Vals.ref1 r
  obtain ⟨z, lo, ys, rel, dd⟩ := dt_rd I.hok hd
  obtain ⟨es, ep, raw, len, hx⟩ := dd.raw
  have ly : ys.length = kvs.length := (Paired.length rel).symm
  refine PySem.W.kdl_call (src_tup (xs := ys) (ep := ep) lo fun i hi => let ⟨y, h1, h2, h3, _⟩ := hx i hi; ⟨y, h1, h2, h3⟩) (I.ok.hd hc) raw (by omega) fun h' tk acc c' hk hD hacc => ?_
  have ea : acc.toList = (ys.map fun x => x.2.1).map Value.ref := keys_out (by rw [Array.length_toList, hacc.1, List.length_map, len]) fun j v e => by
    obtain ⟨y, e1, e2⟩ := hacc.2 j v (by rw [← Array.getElem?_toList]; exact e)
    exact ⟨y.2.1, by rw [List.getElem?_map, e1]; rfl, e2⟩
  refine ⟨.ref s.heap.objs.size, L2.upd H s.heap.objs.size (.lst ((ys.map fun x => x.2.1).map V.ref)), I.laid (t' := tk) hk (Nat.le_refl _)
    (show ObjOk X.prog X.w _ _ _ (.lst ((ys.map fun x => x.2.1).map V.ref)) from ⟨by rw [List.length_map, List.length_map, ly]; exact z, acc.toList, c', by rw [ea]; exact refs_are _, by rw [Array.toArray_toList]; exact hD⟩), rfl, q _ _ (kat_of rel) (I.hok.fresh (Nat.le_refl _))⟩
/-- two texts as a key -/
def kP (p : Str × Str) : List Key := [.inr p.1, .inr p.2]
theorem kP_tup (p : Str × Str) : (kP p).map kV = [V.str p.1, V.str p.2] := rfl
theorem kat_prs {H : Hp} : ∀ {zs : List Addr} {kvs : List (List Key × V)} {ps : List (Str × Str)}, KAt H zs kvs → kvs.map (·.1) = ps.map kP → Prs H (zs.zip ps) ∧ zs.length = ps.length
  | [], [], ps, _, e => by
    have : ps = [] := by cases ps with
      | nil => rfl
      | cons p r => simp at e
    subst this
    exact ⟨(fun z hz => by cases hz), rfl⟩
  | z :: zs, kv :: kvs, ps, .cons h t, e => by
    match ps, e with
    | p :: ps, e =>
      rw [List.map_cons, List.map_cons] at e
      injection e with e1 e2
      obtain ⟨i1, i2⟩ := kat_prs t e2
      refine ⟨fun y hy => ?_, by rw [List.length_cons, List.length_cons, i2]⟩
      rw [List.zip_cons_cons] at hy
      rcases List.mem_cons.mp hy with q | q
      · rw [q]; rw [e1] at h; exact h
      · exact i1 y q
def rSortDT : List V → Hp → VK → Prop := fun vs H Q => ∃ (a : Addr) (kvs : List (List Key × V)) (ps : List (Str × Str)), vs = [.ref a] ∧ Rd H a (.dT kvs) ∧ kvs.map (·.1) = ps.map kP ∧
  ∀ (p : Addr) (ys : List (Addr × Str × Str)), (ys.map (·.2)).Perm ps → (ys.map (·.2)).Pairwise lePS → Prs H ys → H p = none → Q (.ref p) (L2.upd H p (.lst (ys.map fun z => V.ref z.1)))
/-- sorted(d) -/
theorem cr_sortDT (hc : X.calm = true) : CallR X (.builtin "sorted") rSortDT := by
  intro pins s σ H xs us Q I r q
  obtain ⟨a, kvs, ps, rfl, hd, ek, q⟩ := q
  obtain rfl := Vals.ref1 r
  obtain ⟨z, lo, ys, rel, dd⟩ := dt_rd I.hok hd
  obtain ⟨es, ep, raw, len, hx⟩ := dd.raw
  have ly : ys.length = kvs.length := (Paired.length rel).symm
  have lp : ps.length = kvs.length := by have := congrArg List.length ek; rw [List.length_map, List.length_map] at this; exact this.symm
  obtain ⟨prs, lzp⟩ := kat_prs (kat_of rel) ek
  generalize hzs : (ys.map fun x => x.2.1) = zs at prs lzp
  have lzs : zs.length = kvs.length := by rw [lzp, lp]
  refine Calls.call_function_entry PyProof.Rows.kind_sorted PyProof.Rows.plain_sorted PyProof.Rows.entry_sorted (PyProof.Rows.args_sorted1 _) ?_
  unfold Builtin.«sorted»
  refine wpAny_bind (m := checkCount "sorted" 1 1 _) (wpAny_pure ?_)
  refine wpAny_bind (PySem.W.kdu_collect (A := X.A.in1) (src_tup (xs := ys) (ep := ep) lo fun i hi => let ⟨y, h1, h2, h3, _⟩ := hx i hi; ⟨y, h1, h2, h3⟩) (I.ok.hd hc) raw (by omega) fun h' tk acc hk hacc => ?_)
  have ea : acc.toList = zs.map Value.ref := keys_out (by rw [Array.length_toList, hacc.1, len, lzs, ly]) fun j v e => by
    obtain ⟨y, e1, e2⟩ := hacc.2 j v (by rw [← Array.getElem?_toList]; exact e)
    exact ⟨y.2.1, by rw [← hzs, List.getElem?_map, e1]; rfl, e2⟩
  rw [ea]
  have I1 : Inv X pins σ H { s with heap := h', toks := tk } := I.kept hk
  have lv : (zs.map Value.ref).length ≤ sizeLine := by rw [List.length_map, lzs]; exact z
  refine wpAny_bind (wpAny_newList ?_ lv)
  have hoL : (h'.push (seqObj "list" (zs.map Value.ref).toArray 0)).get? h'.objs.size = some (seqObj "list" (zs.map Value.ref).toArray 0) := Heap.get?_push_size _ rfl
  have old : ∀ b o, h'.get? b = some o → (h'.push (seqObj "list" (zs.map Value.ref).toArray 0)).get? b = some o := fun b o e => Heap.get?_push_of_some _ e
  have two0 : ∀ y ∈ zs.zip ps, TwoT h' (.ref y.1) y.2 := fun y m => by
    obtain ⟨_, its2, r2, o, ho, hc', n, hd'⟩ := I1.hok _ _ (prs y m)
    obtain ⟨u1, u2, rfl, ri, rj⟩ := vals2 r2
    obtain ⟨t1, rfl⟩ := ri
    obtain ⟨t2, rfl⟩ := rj
    exact ⟨y.1, o, t1, t2, n, rfl, ho, hc', hd'⟩
  show wpAny _ _ _ _ _ { s with heap := h'.push (seqObj "list" (zs.map Value.ref).toArray 0), toks := tk }
  generalize hh2 : h'.push (seqObj "list" (zs.map Value.ref).toArray 0) = h2 at hoL old ⊢
  have two : ∀ y ∈ zs.zip ps, TwoT h2 (.ref y.1) y.2 := fun y m => (two0 y m).keeps fun b o _ e _ => old b o e
  have m1 : (zs.zip ps).map (fun z => Value.ref z.1) = zs.map Value.ref := by
    rw [show (fun z : Addr × Str × Str => Value.ref z.1) = Value.ref ∘ Prod.fst from rfl, ← List.map_map, List.map_fst_zip (by omega)]
  have all : ∀ v ∈ zs.map Value.ref, TwoT h2 v (twoOf h2 v) := fun v hv => by
    rw [← m1] at hv
    obtain ⟨y, m, rfl⟩ := List.mem_map.mp hv
    rw [(two y m).two]; exact two y m
  refine wpAny_bind (wpAny_holding (wpAny_call_entry PyProof.Rows.slot_list_sort ⟨_, hoL, rfl⟩ PyProof.Rows.entry_list_sort
    (SrtO.list_sort_ord (s := { s with heap := h2, toks := tk }) (ltY2_swo (twoOf h2)) hoL lv (fun _ => ?_) fun out srtd stb => ⟨_, rfl, ?_⟩) (PyProof.Rows.args_list_sort _)))
  · refine pair_sortable (s := { s with heap := h2, toks := tk }) ?_ all fun v hv e => ?_
    · omega
    · rw [← m1] at hv
      obtain ⟨y, m, rfl⟩ := List.mem_map.mp hv
      obtain ⟨b, o, _, _, _, eb, ho, _⟩ := two0 y m
      cases eb
      exact Nat.ne_of_lt (Heap.lt_size ho) (Value.ref.inj e)
  · obtain ⟨ws, pw, ew⟩ := perm_lift (fun z : Addr × Str × Str => Value.ref z.1) stb.perm (zs.zip ps) m1
    have tw : ∀ y ∈ ws, twoOf h2 (.ref y.1) = y.2 := fun y hy => (two y (pw.mem_iff.mp hy)).two
    obtain ⟨e', he'⟩ := PyProof.Rows.sortedHeap_at (vs := zs.map Value.ref) (out := out.toArray) hoL
    have lw : ws.length = zs.length := by rw [pw.length_eq, List.length_zip]; omega
    refine wpAny_pure ⟨_, rfl, .ref h'.objs.size, L2.upd H h'.objs.size (.lst (ws.map fun z => V.ref z.1)), I1.laid (t' := tk) (fun b u e => ?_) (Nat.le_refl _)
      (show ObjOk X.prog X.w _ _ _ (.lst (ws.map fun z => V.ref z.1)) from ⟨by rw [List.length_map, lw, lzs]; exact z, out, e', by rw [← ew]; exact refs_vals ws, he'⟩), rfl, q _ ws ?_ ?_ (fun y hy => prs y (pw.mem_iff.mp hy)) (I1.hok.fresh (Nat.le_refl _))⟩
    · have hb : b < h'.objs.size := Heap.lt_size e
      exact (PyProof.Rows.sortedHeap_old (Nat.ne_of_lt hb) (by rw [← hh2, size_push']; exact Nat.lt_succ_of_lt hb)).trans (old b u e)
    · have e1 := pw.map (·.2)
      rw [List.map_snd_zip (by omega)] at e1
      exact e1
    · rw [← ew] at srtd
      rw [List.pairwise_map]
      refine List.Pairwise.imp_of_mem (fun {x y} hx hy e => ?_) (List.pairwise_map.mp srtd)
      have e' : ltPS (twoOf h2 (.ref y.1)) (twoOf h2 (.ref x.1)) = false := e
      rw [tw x hx, tw y hy] at e'
      exact e'
end
end X6
end L2
/-! is_book -/
namespace L2
namespace D1
open PySem PySem.Spec PyProof.Rows
theorem lp_it {J : It} {n : Nat} {G : Hp → Prop} {Y : Nat → Hp → V → Hp → Prop} (w : Walk J n G Y) {body : V → Hp → (Hp → Prop) → Prop} {H0 : Hp} {Qd : Hp → Prop} (Pv : Nat → Hp → Prop) (h0 : Pv 0 H0) (hG : ∀ i H, i ≤ n → Pv i H → G H)
    (hs : ∀ i x H H', i < n → Pv i H → Y i H x H' → body x H' (Pv (i + 1))) (hd : ∀ H, Pv n H → Qd H) :
    ∃ W : Nat → Nat → Hp → Prop, (∃ m, W 0 m H0) ∧ ∀ i m H, W i m H → (J.stop i H ∧ Qd H) ∨ (J.go i H ∧ ∃ Nx : Hp → Prop, (∀ H', Nx H' → ∃ m', m' < m ∧ W (i + 1) m' H') ∧ ∀ x H', J.yld i H x H' → body x H' Nx) := by
  refine ⟨fun i m H => m = n - i ∧ i ≤ n ∧ Pv i H, ⟨n, by simp, Nat.zero_le _, h0⟩, ?_⟩
  rintro i m H ⟨rfl, hi, p⟩
  have q := hG i H hi p
  by_cases hlt : i < n
  · refine .inr ⟨w.goes i H hlt q, Pv (i + 1), fun H' p' => ⟨n - (i + 1), by omega, rfl, hlt, p'⟩, fun x H' y => hs i x H H' hlt p (w.yields i H x H' hlt q y)⟩
  · have e : i = n := by omega
    subst e
    exact .inl ⟨w.stops H q, hd H p⟩
def tLk : Nat → TE → TE
  | 0, t => t
  | n + 1, t => tLockE (tLk n t)
theorem pe_lkN {X : Cx} {e : Expr} {t : TE} (h : PE X e t) : ∀ n, PE X e (tLk n t)
  | 0 => h
  | n + 1 => pe_lock (pe_lkN h n)
theorem pe_lkAny {X : Cx} {e : Expr} {t : TE} (h : PE X e t) : PE X e (fun σ H Q => ∃ n, tLk n t σ H Q) := ⟨fun pins s σ H Q I ⟨n, q⟩ => (pe_lkN h n).run pins s σ H Q I q⟩
def Lk (ds : List Addr) (H H2 : Hp) : Prop := (∀ c, c ∉ ds → H2 c = H c) ∧ ∀ d ∈ ds, ∃ od u, H d = some u ∧ H2 d = some (.frz od u)
theorem lk_all (t : TE) (σ : L2.St) (Post : V → Hp → Prop) : ∀ (ds : List Addr) (H : Hp) (Q : VK), ds.Nodup → (∀ d ∈ ds, ∃ u, H d = some u ∧ Mut (some u)) →
    (∀ H2 Q2, Lk ds H H2 → (∀ v H3, Same H2 H3 → Post v H3 → Q2 v H3) → t σ H2 Q2) →
    (∀ v H3, Post v H3 → ∀ H4, Same H H4 → (∀ c, c ∉ ds → H4 c = H3 c) → Q v H4) → tLk ds.length t σ H Q
  | [], H, Q, _, _, h, k => h H Q ⟨fun _ _ => rfl, by simp⟩ fun v H3 s p => k v H3 p H3 s fun _ _ => rfl
  | d :: ds, H, Q, nd, hm, h, k => by
    obtain ⟨u, hu, mu⟩ := hm d List.mem_cons_self
    have nd' := List.nodup_cons.mp nd
    refine ⟨d, u, hu, mu, fun od => ?_⟩
    refine lk_all t σ Post ds _ _ nd'.2 (fun d' hd' => ?_) (fun H2 Q2 lk k2 => h H2 Q2 ⟨fun c hc => ?_, fun d' hd' => ?_⟩ k2) fun v H3 p H4 s4 e4 => ⟨s4 _ _ upd_same, k v H3 p _ (Same.unlock hu s4) fun c hc => ?_⟩
    · rw [upd_ne fun e => nd'.1 (by rw [← e]; exact hd')]; exact hm d' (List.mem_cons_of_mem _ hd')
    · rw [lk.1 c fun z => hc (List.mem_cons_of_mem _ z), upd_ne fun e => hc (by rw [e]; exact List.mem_cons_self)]
    · rcases List.mem_cons.mp hd' with e | e
      · rw [e]; exact ⟨od, u, hu, by rw [lk.1 d nd'.1]; exact upd_same⟩
      · obtain ⟨o2, u2, h1, h2⟩ := lk.2 d' e
        rw [upd_ne fun z => nd'.1 (by rw [← z]; exact e)] at h1
        exact ⟨o2, u2, h1, h2⟩
    · rw [upd_ne fun e => hc (by rw [e]; exact List.mem_cons_self)]
      exact e4 c fun z => hc (List.mem_cons_of_mem _ z)
theorem dedup (as : List Addr) : ∃ ds : List Addr, ds.Nodup ∧ ∀ a, a ∈ ds ↔ a ∈ as := by
  induction as with
  | nil => exact ⟨[], List.nodup_nil, fun _ => Iff.rfl⟩
  | cons x r ih =>
    obtain ⟨ds, nd, h⟩ := ih
    by_cases e : x ∈ ds
    · refine ⟨ds, nd, fun a => ⟨fun z => List.mem_cons_of_mem _ ((h a).mp z), fun z => ?_⟩⟩
      rcases List.mem_cons.mp z with q | q
      · rw [q]; exact e
      · exact (h a).mpr q
    · refine ⟨x :: ds, List.nodup_cons.mpr ⟨e, nd⟩, fun a => ?_⟩
      rw [List.mem_cons, List.mem_cons, h a]
/-- a row with its dict of turns told -/
def RowA (H : Hp) (v : V) (a : Addr) (k : Str) (ts : List (Str × Str)) : Prop := ∃ t, v = .ref t ∧ H t = some (.tup [.str k, .ref a]) ∧ TurnsAt H a ts
theorem rows_addrs {H : Hp} {kvs : List (Key × V)} {bk : Bk} (h : Rows H kvs bk) : ∀ l : List Str, (∀ s ∈ l, s ∈ bk.map (·.1)) → ∃ as : List Addr, (∀ a ∈ as, ∃ ts, TurnsAt H a ts) ∧ ∀ s ∈ l, ∃ v a, valV kvs (.inr s) = some v ∧ a ∈ as ∧ RowA H v a (rowOf bk s).1 (rowOf bk s).2
  | [], _ => ⟨[], by simp, by simp⟩
  | s :: l, hl => by
    obtain ⟨as, h1, h2⟩ := rows_addrs h l fun x hx => hl x (List.mem_cons_of_mem _ hx)
    obtain ⟨v, e, ⟨t, a, ev, ht, ha⟩, _⟩ := h.look (hl s List.mem_cons_self)
    refine ⟨a :: as, fun b hb => ?_, fun x hx => ?_⟩
    · rcases List.mem_cons.mp hb with z | z
      · rw [z]; exact ⟨_, ha⟩
      · exact h1 b z
    · rcases List.mem_cons.mp hx with z | z
      · rw [z]; exact ⟨v, a, e, List.mem_cons_self, t, ev, ht, ha⟩
      · obtain ⟨v', a', h3, h4, h5⟩ := h2 x z
        exact ⟨v', a', h3, List.mem_cons_of_mem _ h4, h5⟩
/-- a book's dict is no dict of turns -/
theorem book_ne {H : Hp} {b a : Addr} {kvs : List (Key × V)} {bk : Bk} {ts : List (Str × Str)} (hb : H b = some (.dK kvs)) (h : Rows H kvs bk) (ne : bk ≠ []) (ha : TurnsAt H a ts) : a ≠ b := fun e => by
  rw [TurnsAt, e, hb] at ha
  have ek : kvs = kT ts := by injection ha with z; injection z
  cases h with
  | nil => exact ne rfl
  | @cons x r kv2 bk2 h1 _ =>
    cases ts with
    | nil => cases ek
    | cons y ys =>
      have e1 : x = (Sum.inr y.1, V.str y.2) := (List.cons.inj ek).1
      obtain ⟨_, t, a', e2, _⟩ := h1
      rw [e1] at e2
      cases e2
theorem Rows.lock {H : Hp} {b : Addr} {kvs : List (Key × V)} {bk : Bk} {o : HO} (hb : H b = some (.dK kvs)) (h : Rows H kvs bk) (ne : bk ≠ []) : Rows (L2.upd H b o) kvs bk := by
  have key : ∀ (kv2 : List (Key × V)) (bk2 : Bk), Rows H kv2 bk2 → Rows (L2.upd H b o) kv2 bk2 := fun kv2 bk2 h2 => by
    unfold Rows at h2 ⊢
    induction h2 with
    | nil => exact .nil
    | cons h1 _ ih =>
      obtain ⟨e, t, a, ev, ht, ha⟩ := h1
      refine .cons ⟨e, t, a, ev, ?_, ?_⟩ ih
      · rw [upd_ne fun z => by rw [z, hb] at ht; cases ht]; exact ht
      · rw [TurnsAt, upd_ne (book_ne hb h ne ha)]; exact ha
  exact key kvs bk h
abbrev sIsBook : Stmt := top 20
structure BWf (bk : Bk) : Prop where
  ne : bk ≠ []
  nd : (bk.map (·.1)).Nodup
  len : bk.length ≤ 60
  rs : ∀ r ∈ bk, Wd r.1 ∧ RForm r.2.1 r.2.2 ∧ ∀ t ∈ r.2.2, t.2 ∈ bk.map (·.1)
  len2 : ∀ r ∈ bk, r.2.2.length ≤ 60
def spIsBook : Sp := fun vs H Q _ => ∃ (b : Addr) (bk : Bk), vs = [.ref b] ∧ BookAt H b bk ∧ BWf bk ∧ ∀ H', Same H H' → Q (.bl true) H'
theorem rowOf_self {bk : Bk} (nd : (bk.map (·.1)).Nodup) {r : RowD} (h : r ∈ bk) : rowOf bk r.1 = r.2 := by
  induction bk with
  | nil => cases h
  | cons x bk ih =>
    have nd' := List.nodup_cons.mp nd
    by_cases e : x.1 = r.1
    · rcases List.mem_cons.mp h with z | z
      · rw [rowOf, List.find?_cons, decide_eq_true e, z]; rfl
      · exact absurd (List.mem_map.mpr ⟨r, z, e.symm⟩) nd'.1
    · have hr : r ∈ bk := by
        rcases List.mem_cons.mp h with z | z
        · exact absurd (by rw [z]) e
        · exact z
      have er : rowOf (x :: bk) r.1 = rowOf bk r.1 := by rw [rowOf, List.find?_cons, decide_eq_false e]; rfl
      rw [er]; exact ih nd'.2 hr
section
variable {P : Program} {w : World} {K : PySem.W.Frag} {mg : Str → Option Value} {base : Heap}
theorem scIb : FnScope ["value", "state", "goal"] ["value"] (defScope sIsBook) := ⟨rfl, rfl, rfl, by decide +kernel, rfl, by decide +kernel, by decide +kernel⟩
theorem ok_isbook {f : Addr} {fd : FuncData} (F : Fun K "is_book" "is_book" sIsBook f fd) (T : Free3 mg) (CN : CIsName P w K mg base) (CR : CIsRow P w K mg base) : FnOk P w K mg base CX0 3 f fd ["value"] spIsBook := by
  refine F.ok scIb (fun vs H Q E h => ?_) (fun cdv A outer s H vs Q E hr h => ?_)
  · obtain ⟨a, bk, rfl, _⟩ := h; rfl
  · obtain ⟨b, bk, rfl, ⟨kvs, hb, hRw⟩, wf, k⟩ := h
    have hu := hu_of hr
    refine ⟨_, pss_cons (ps_if (PW.pt (pw_or (pt_not (pt_val (pe_callB call_isi (by rfl) T.isi (by decide +kernel) (pa_cons (pv 0) (pa_cons (pe_bltn (v := .ty "dict") rfl T.dict (by decide +kernel) rfl) pa_nil))))) (pw_or1 (pt_cmpR op_eq (pe_callB call_lenD (by rfl) T.len PySem.boot_len (pa_cons (pv 0) pa_nil)) pe_int (nomark _))))) (pss_one (ps_ret pe_bl)) pss_nil)
      (pss_cons (ps_if (pt_not (pt_val (pe_callB (cr_all rfl) (by rfl) T.all (by decide +kernel) (pa_cons (pe_lock (pe_lc (own := [("state", 1)]) (g := gName 1) (tt := tYes) (te := tAndV (tCall spIsName [] E0 (tCons (tVar 1) tNil)) (tCall spIsRow [] E0 (tCons (tDGet (tVar 0) (tVar 1)) tNil))) rfl scIb.nd (pi_keys (pv 0))
          (blkOk_by (N := ["value", "state", "goal"]) (sc := defScope sIsBook) (by decide +kernel)) (fun _ _ _ _ _ => pg_name (i := 1) scIb.nd rfl (Or.inl rfl)) (fun _ _ _ _ _ => pts_nil)
          (fun _ _ _ _ _ => pe_and (pe_cal CN (hr.mono (by decide)) rfl (pa_cons (pv 1) pa_nil)) (pe_one (pe_cal CR (hr.mono (by decide)) rfl (pa_cons (pe_dget hu (pv 0) (pv 1) (fun _ _ => rfl)) pa_nil)))))) pa_nil)))) (pss_one (ps_ret pe_bl)) pss_nil)
      (pss_one (ps_ret (pe_callB (cr_all rfl) (by rfl) T.all (by decide +kernel) (pa_cons (pe_lkAny (pe_lc2 (own := [("state", 1), ("goal", 2)]) (vs1 := [2]) (g := gName 1) (tt := tYes) (g1 := gName 2) (tt1 := tYes) (wi1 := iVals (tOp (rIxT K) (tDGet (tVar 0) (tVar 1)) (tC (.int 1)))) (te := tDIn (tVar 2) (tVar 0)) rfl scIb.nd (pi_keys (pv 0))
          (blkOk_by (N := ["value", "state", "goal"]) (sc := defScope sIsBook) (by decide +kernel)) (by decide) (fun _ _ _ _ _ => pg_name (i := 1) scIb.nd rfl (Or.inl rfl)) (fun _ _ _ _ _ => pts_nil)
          (fun _ _ _ _ _ => pi_values (pe_ix ix_tup (pe_dget hu (pv 0) (pv 1) (fun _ _ => rfl)) pe_int (fun _ _ => rfl))) (fun _ _ _ _ _ => pg_name (i := 2) scIb.nd rfl (Or.inl rfl)) (fun _ _ _ _ _ => pts_nil)
          (fun _ _ _ _ _ => pe_cmp (pc_din hu (pv 2) (pv 0)) rfl))) pa_nil))))), ?_⟩
    have lk0 : kvs.length = bk.length := hRw.len
    have lpos : 0 < bk.length := List.length_pos_iff.mpr wf.ne
    have at_row : ∀ {i : Nat} {kk : Key} {v : V}, kvs[i]? = some (kk, v) → ∃ s, kk = .inr s ∧ s ∈ bk.map (·.1) := fun {i kk v} e => by
      have e1 : (kvs.map (·.1))[i]? = some kk := by rw [List.getElem?_map, e]; rfl
      rw [hRw.keys] at e1
      obtain ⟨r, hr, e2⟩ := get_map e1
      exact ⟨r.1, e2, List.mem_map_of_mem (List.mem_of_getElem? hr)⟩
    refine ⟨_, rfl, _, .ty "dict", .type "dict", .type "dict", true, rfl, .ty _, .base (.dK hb), kit_ty (by decide +kernel), _, rfl, ?_⟩
    refine iteF ⟨_, rfl, b, kvs, rfl, hb, rfl, _, rfl, ?_⟩
    have nz : decide (V.int (kvs.length : Int) = V.int 0) = false := decide_eq_false fun e => by
      have : (kvs.length : Int) = 0 := by injection e
      omega
    rw [nz]
    refine iteF ⟨b, _, hb, trivial, fun od => ?_⟩
    have hR1 := hRw.lock (o := .frz od (.dK kvs)) hb wf.ne
    refine ⟨_, rfl, b, od, rfl, .inl ⟨kvs, upd_same, fun D hD => ?_⟩⟩
    have nD : b ≠ D := fun e => by rw [← e, upd_same] at hD; cases hD
    have hD0 := upd_none' hD
    refine lc_it (walk_keys (d := b) (o := od) (kvs := kvs)) (fun i H' => Same (L2.upd H b (.frz od (.dK kvs))) H' ∧ H' D = some (.lst ((List.replicate i true).map V.bl))) ⟨Same.new hD, upd_same⟩ (fun i H' _ z => z.1 _ _ upd_same) ?_ ?_
    · rintro i x H1 H2 hi ⟨sm, hl⟩ ⟨rfl, kk, v0, hkv, rfl⟩
      obtain ⟨s', rfl, hs⟩ := at_row hkv
      obtain ⟨v, e2, hrow, hm⟩ := (hR1.same sm).look hs
      have wr := wf.rs _ hm
      refine ⟨rfl, ?_⟩
      dsimp only [tYes]
      rw [if_pos rfl]
      refine ⟨_, rfl, s', rfl, wr.1, fun H3 s3 => ⟨true, rfl, iteT ⟨_, rfl, _, rfl, b, v, rfl, .inl ⟨kvs, .inr s', .inr ⟨od, s3 _ _ (sm _ _ upd_same)⟩, rfl, e2.symm⟩, v, _, _, rfl, hrow.same s3, wr.2.1, fun H4 s4 => ?_⟩⟩⟩
      refine ⟨_, s4 _ _ (s3 _ _ hl), by rw [List.length_map, List.length_replicate, sizeLine_eq]; have := wf.len; omega, ?_, ?_⟩
      · intro c u e
        rw [upd_ne (ne_of_none e hD)]; exact s4 _ _ (s3 _ _ (sm _ _ e))
      · rw [upd_same, repl_snoc]
    rintro H1 ⟨sm, hl⟩
    refine ⟨sm _ _ upd_same, D, _, rfl, SqL.of (by rw [upd_ne nD.symm]; exact hl), ?_⟩
    rw [all_true]
    refine ⟨_, rfl, ?_⟩
    have s5 : Same H (L2.upd H1 b (.dK kvs)) := Same.unlock hb sm
    have hb5 := s5 _ _ hb
    have hR5 := hRw.same s5
    generalize L2.upd H1 b (.dK kvs) = H5 at s5 hb5 hR5
    clear sm hl hD hD0 hR1
    refine iteF ?_
    obtain ⟨as, ha1, ha2⟩ := rows_addrs hR5 (bk.map (·.1)) fun s hs => hs
    obtain ⟨ds, nds, hds⟩ := dedup as
    have nb : b ∉ ds := fun z => by
      obtain ⟨ts, hts⟩ := ha1 b ((hds b).mp z)
      exact book_ne hb5 hR5 wf.ne hts rfl
    refine ⟨(b :: ds).length, lk_all _ _ (fun v H3 => ∃ D n, v = .ref D ∧ D ∉ b :: ds ∧ H3 D = some (.lst ((List.replicate n true).map V.bl))) (b :: ds) H5 _ (List.nodup_cons.mpr ⟨nb, nds⟩) (fun d hd => ?_) ?_ ?_⟩
    · rcases List.mem_cons.mp hd with e | e
      · rw [e]; exact ⟨_, hb5, trivial⟩
      · obtain ⟨ts, hts⟩ := ha1 d ((hds d).mp e)
        exact ⟨_, hts, trivial⟩
    · intro H2 Q2 lk k2
      obtain ⟨od, u, h1, hb2⟩ := lk.2 b List.mem_cons_self
      rw [hb5] at h1
      cases h1
      refine ⟨_, rfl, b, od, rfl, .inl ⟨kvs, hb2, fun D hD => ?_⟩⟩
      have nDd : D ∉ b :: ds := fun z => by
        obtain ⟨_, _, _, h3⟩ := lk.2 D z
        rw [h3] at hD; cases hD
      refine lp_it (walk_keys (d := b) (o := od) (kvs := kvs)) (fun i H' => Same H2 H' ∧ ∃ n, n ≤ 60 * i ∧ H' D = some (.lst ((List.replicate n true).map V.bl))) ⟨Same.new hD, 0, Nat.le_refl _, upd_same⟩ (fun i H' _ z => z.1 _ _ hb2) ?_ ?_
      · rintro i x H6 H7 hi ⟨sm, n, hn, hl⟩ ⟨rfl, kk, v0, hkv, rfl⟩
        obtain ⟨s', rfl, hs⟩ := at_row hkv
        obtain ⟨v, a, e2, haa, t, rfl, ht, hta⟩ := ha2 s' hs
        obtain ⟨_, _, _, hm⟩ := hR5.look hs
        have wr := wf.rs _ hm
        have l60 : (rowOf bk s').2.length ≤ 60 := wf.len2 _ hm
        have ht2 : H2 t = some (.tup [.str (rowOf bk s').1, .ref a]) := by
          rw [lk.1 t fun z => by
            rcases List.mem_cons.mp z with e | e
            · rw [e, hb5] at ht; cases ht
            · obtain ⟨ts, hts⟩ := ha1 t ((hds t).mp e)
              rw [hts] at ht; cases ht]
          exact ht
        obtain ⟨oa, ua, h3, ha3⟩ := lk.2 a (List.mem_cons_of_mem _ ((hds a).mpr haa))
        rw [hta] at h3
        cases h3
        refine ⟨rfl, ?_⟩
        dsimp only [tYes]
        rw [if_pos rfl]
        refine ⟨_, rfl, _, rfl, b, _, rfl, .inl ⟨kvs, .inr s', .inr ⟨od, sm _ _ hb2⟩, rfl, e2.symm⟩, t, _, _, _, rfl, rfl, SqT.of (sm _ _ ht2), atI_nat (j := 1) rfl, a, oa, kT (rowOf bk s').2, rfl, sm _ _ ha3, ?_⟩
        refine lp_it (walk_values (d := a) (o := oa) (kvs := kT (rowOf bk s').2)) (fun j H' => Same H2 H' ∧ ∃ n, n ≤ 60 * i + j ∧ H' D = some (.lst ((List.replicate n true).map V.bl))) ⟨sm, n, hn, hl⟩ (fun j H' _ z => z.1 _ _ ha3) ?_ ?_
        · rintro j x H8 H9 hj ⟨sm8, n8, hn8, hl8⟩ ⟨rfl, k9, hk9⟩
          rw [kT, List.getElem?_map] at hk9
          obtain ⟨tt, htt, e9⟩ := Option.map_eq_some_iff.mp hk9
          cases e9
          have hg := wr.2.2 tt (List.mem_of_getElem? htt)
          obtain ⟨vg, eg, _⟩ := hR5.look hg
          have lj : j < 60 := by rw [kT, List.length_map] at hj; omega
          have li : i < 60 := by have := wf.len; omega
          refine ⟨rfl, ?_⟩
          rw [if_pos rfl]
          refine ⟨_, rfl, _, rfl, b, _, rfl, .inl ⟨kvs, .inr tt.2, .inr ⟨od, sm8 _ _ hb2⟩, rfl, rfl⟩, _, hl8, by rw [List.length_map, List.length_replicate, sizeLine_eq]; omega, ?_, n8 + 1, by omega, ?_⟩
          · intro c u e
            rw [upd_ne (ne_of_none e hD)]; exact sm8 _ _ e
          · rw [upd_same, eg, ← repl_snoc]; rfl
        · rintro H8 ⟨sm8, n8, hn8, hl8⟩
          refine ⟨sm8, n8, ?_, hl8⟩
          rw [kT, List.length_map] at hn8
          have : (rowOf bk s').2.length ≤ 60 := l60
          omega
      · rintro H6 ⟨sm, n, hn, hl⟩
        exact k2 _ _ sm ⟨D, n, rfl, nDd, hl⟩
    · rintro v H3 ⟨D, n, rfl, nDd, hl⟩ H4 s4 e4
      refine ⟨D, _, rfl, SqL.of (by rw [e4 D nDd]; exact hl), ?_⟩
      rw [all_true]
      exact k H4 (Same.trans s5 s4)
end
end D1
end L2
/-! the class Desk: __init__, book, start; need_desk, graph_of -/
namespace L2
namespace D1
open PySem PySem.Spec PyProof.Rows
abbrev sDInit : Stmt := inClass (top 23) 0
abbrev sDEq : Stmt := inClass (top 23) 1
abbrev sDBook : Stmt := inClass (top 23) 2
abbrev sDStart : Stmt := inClass (top 23) 3
abbrev sNeed : Stmt := top 24
theorem kbs : ¬ (("_book" : Str) = "_start") := by decide +kernel
def dflds (b : Addr) (st : Str) : List (Str × V) := putF "_start" (.str st) (putF "_book" (.ref b) [])
theorem dflds_book (b : Addr) (st : Str) : (dflds b st).lookup ("_book" : Str) = some (.ref b) := by
  unfold dflds
  rw [lookup_putF, if_neg kbs, lookup_putF, if_pos rfl]
theorem dflds_start (b : Addr) (st : Str) : (dflds b st).lookup ("_start" : Str) = some (.str st) := by
  unfold dflds
  rw [lookup_putF, if_pos rfl]
theorem dflds_no (b : Addr) (st : Str) {m : Str} (h1 : ¬ m = "_start") (h2 : ¬ m = "_book") : (dflds b st).lookup m = none := by
  unfold dflds
  rw [lookup_putF, if_neg h1, lookup_putF, if_neg h2]
  all_goals rfl
/-- a desk -/
def DeskAt (C : Addr) (H : Hp) (q : Addr) (bk : Bk) (st : Str) : Prop := ∃ dx b, H q = some (.ins C dx (dflds b st)) ∧ BookR H b (ordB bk)
theorem DeskAt.same {C : Addr} {H H' : Hp} {q : Addr} {bk : Bk} {st : Str} (h : DeskAt C H q bk st) (s : Same H H') : DeskAt C H' q bk st := by
  obtain ⟨dx, b, e, r⟩ := h; exact ⟨dx, b, s _ _ e, r.same s⟩
/-- a book and a start that make a desk -/
structure DOk (bk : Bk) (st : Str) : Prop extends BWf bk where
  tk : ∀ r ∈ bk, (r.2.2.map (·.1)).Nodup
  st : st ∈ bk.map (·.1)
theorem DOk.bok {bk : Bk} {st : Str} (h : DOk bk st) : BOk bk := ⟨h.nd, by have := h.len; omega, fun r hr => ⟨h.tk r hr, by have := h.len2 r hr; omega⟩⟩
theorem WF.dok {bk : Bk} {st : Str} {ws : List Str} (h : WF bk st ws) (w : WsOk ws) : DOk bk st := by
  have hw : ∀ x ∈ bk.map (·.1), Wd x := fun x hx => by
    obtain ⟨r, hr, rfl⟩ := List.mem_map.mp hx
    exact (h.rs r hr).1
  have wl := w.hi
  refine { ne := ?_, nd := h.nd, len := ?_, rs := fun r hr => ?_, len2 := fun r hr => ?_, tk := fun r hr => ?_, st := h.st }
  · intro e
    have := h.st
    rw [e] at this; cases this
  · have := h.len; omega
  · obtain ⟨h1, h2⟩ := h.rs r hr
    rcases h2 with ⟨e1, e2⟩ | ⟨e1, e2, e3⟩
    · exact ⟨h1, .inl ⟨e1, e2⟩, by rw [e2]; simp⟩
    · exact ⟨h1, .inr ⟨e1, e2, by have := e3.len; omega, fun t ht => ⟨w.wd _ (e3.ks t ht), hw _ (e3.gs t ht)⟩⟩, fun t ht => e3.gs t ht⟩
  · obtain ⟨h1, h2⟩ := h.rs r hr
    rcases h2 with ⟨e1, e2⟩ | ⟨e1, e2, e3⟩
    · rw [e2]; exact Nat.zero_le _
    · have := e3.len; omega
  · obtain ⟨h1, h2⟩ := h.rs r hr
    rcases h2 with ⟨e1, e2⟩ | ⟨e1, e2, e3⟩
    · rw [e2]; exact List.nodup_nil
    · exact e3.nd
/-- what is asked of the class -/
structure DTxt (K : PySem.W.Frag) (mg : Str → Option Value) (C : Addr) : Prop where
  cl : Cls K C
  nB : NoAttr K C "_book"
  nS : NoAttr K C "_start"
  mgC : mg "Desk" = some (.ref C)
/-- a desk whose book is new -/
def DeskN (C : Addr) (H H' : Hp) (q : Addr) (bk : Bk) (st : Str) : Prop := ∃ dx b, H' q = some (.ins C dx (dflds b st)) ∧ BookR (newH H H') b (ordB bk)
def spDInit (C : Addr) : Sp := fun vs H Q _ => ∃ (q dx b : Addr) (bk : Bk) (st : Str), vs = [.ref q, .ref b, .str st] ∧ H q = some (.ins C dx []) ∧ BookAt H b bk ∧ DOk bk st ∧
  ∀ H', But q H H' → DeskAt C H' q bk st → DeskN C H H' q bk st → Q .non H'
def spDBook (C : Addr) : Sp := fun vs H Q _ => ∃ (q : Addr) (bk : Bk) (st : Str), vs = [.ref q] ∧ DeskAt C H q bk st ∧ DOk bk st ∧ ∀ H' R, Same H H' → H R = none → BookAt H' R (ordB bk) → BookAt (newH H H') R (ordB bk) → Q (.ref R) H'
def spDStart (C : Addr) : Sp := fun vs H Q _ => ∃ (q : Addr) (bk : Bk) (st : Str), vs = [.ref q] ∧ DeskAt C H q bk st ∧ Q (.str st) H
theorem ordB_names (bk : Bk) : (ordB bk).map (·.1) = srt (bk.map (·.1)) := by
  rw [ordB, List.map_map]
  exact List.map_id'' (fun _ => rfl) _
theorem mem_ordB {bk : Bk} (nd : (bk.map (·.1)).Nodup) {r : RowD} : r ∈ ordB bk → ∃ r0 ∈ bk, r.1 = r0.1 ∧ r.2.1 = r0.2.1 ∧ r.2.2 = ordT r0.2.2 := fun h => by
  obtain ⟨s, hs, rfl⟩ := List.mem_map.mp h
  obtain ⟨r0, hr0, e⟩ := List.mem_map.mp ((srt_perm _).mem_iff.mp hs)
  refine ⟨r0, hr0, e.symm, ?_, ?_⟩
  · show (rowOf bk s).1 = _
    rw [← e, rowOf_self nd hr0]
  · show ordT (rowOf bk s).2 = _
    rw [← e, rowOf_self nd hr0]
theorem ordT_nd {ts : List (Str × Str)} (h : (ts.map (·.1)).Nodup) : ((ordT ts).map (·.1)).Nodup := by
  rw [ordT_keys]; exact (srt_perm _).nodup_iff.mpr h
theorem ordT_len (ts : List (Str × Str)) : (ordT ts).length = ts.length := by
  rw [← List.length_map (·.1), ordT_keys, (srt_perm _).length_eq, List.length_map]
theorem ordB_len (bk : Bk) : (ordB bk).length = bk.length := by
  rw [← List.length_map (·.1), ordB_names, (srt_perm _).length_eq, List.length_map]
theorem DOk.obok {bk : Bk} {st : Str} (h : DOk bk st) : BOk (ordB bk) := by
  refine ⟨by rw [ordB_names]; exact (srt_perm _).nodup_iff.mpr h.nd, by rw [ordB_len]; have := h.len; omega, fun r hr => ?_⟩
  obtain ⟨r0, h0, _, _, e⟩ := mem_ordB h.nd hr
  rw [e]
  exact ⟨ordT_nd (h.tk r0 h0), by rw [ordT_len]; have := h.len2 r0 h0; omega⟩
theorem srt_srt (l : List Str) : srt (srt l) = srt l := srt_congr (srt_perm l)
theorem goalT_ordT {ts : List (Str × Str)} {k : Str} (h : k ∈ ts.map (·.1)) : goalT (ordT ts) k = goalT ts k := by
  have hk : k ∈ (ordT ts).map (·.1) := by rw [ordT_keys]; exact (srt_perm _).mem_iff.mpr h
  obtain ⟨t, e, e1, ht⟩ := find_some hk
  obtain ⟨k2, _, rfl⟩ := List.mem_map.mp ht
  have : k2 = k := e1
  subst this
  rw [goalT, e]; rfl
theorem ordT_ordT (ts : List (Str × Str)) : ordT (ordT ts) = ordT ts := by
  show (srt ((ordT ts).map (·.1))).map (fun k => (k, goalT (ordT ts) k)) = _
  rw [ordT_keys, srt_srt]
  refine List.map_congr_left fun k hk => ?_
  rw [goalT_ordT ((srt_perm _).mem_iff.mp hk)]
theorem ordB_ordB {bk : Bk} (nd : (bk.map (·.1)).Nodup) : ordB (ordB bk) = ordB bk := by
  have nd2 : ((ordB bk).map (·.1)).Nodup := by rw [ordB_names]; exact (srt_perm _).nodup_iff.mpr nd
  show (srt ((ordB bk).map (·.1))).map (fun s => (s, (rowOf (ordB bk) s).1, ordT (rowOf (ordB bk) s).2)) = _
  rw [ordB_names, srt_srt]
  refine List.map_congr_left fun s hs => ?_
  have hm : (s, (rowOf bk s).1, ordT (rowOf bk s).2) ∈ ordB bk := List.mem_map.mpr ⟨s, hs, rfl⟩
  have := rowOf_self nd2 hm
  rw [show rowOf (ordB bk) s = ((rowOf bk s).1, ordT (rowOf bk s).2) from this]
  show (s, (rowOf bk s).1, ordT (ordT (rowOf bk s).2)) = _
  rw [ordT_ordT]
theorem updd2 {H : Hp} {a : Addr} {o o' : HO} : L2.upd (L2.upd H a o) a o' = L2.upd H a o' := by
  funext b
  by_cases h : b = a
  · rw [h, upd_same, upd_same]
  · rw [upd_ne h, upd_ne h, upd_ne h]
theorem Rows.updI {H : Hp} {q C dx : Addr} {fs : List (Str × V)} {kvs : List (Key × V)} {bk : Bk} {o : HO} (h : Rows H kvs bk) (hq : H q = some (.ins C dx fs)) : Rows (L2.upd H q o) kvs bk := by
  unfold Rows at h ⊢
  induction h with
  | nil => exact .nil
  | cons h1 _ ih =>
    obtain ⟨e, t, a, ev, ht, ha⟩ := h1
    refine .cons ⟨e, t, a, ev, ?_, ?_⟩ ih
    · rw [upd_ne fun z => by rw [z, hq] at ht; cases ht]; exact ht
    · rw [TurnsAt, upd_ne fun z => by rw [TurnsAt, z, hq] at ha; cases ha]; exact ha
section
variable {P : Program} {w : World} {K : PySem.W.Frag} {mg : Str → Option Value} {base : Heap}
abbrev CIsBook (P : Program) (w : World) (K : PySem.W.Frag) (mg : Str → Option Value) (base : Heap) := Cal P w K mg base "is_book" 3 ["value"] spIsBook
abbrev CIsState (P : Program) (w : World) (K : PySem.W.Frag) (mg : Str → Option Value) (base : Heap) := Cal P w K mg base "is_state_of" 1 ["book", "value"] spIsState
abbrev COrdB (P : Program) (w : World) (K : PySem.W.Frag) (mg : Str → Option Value) (base : Heap) := Cal P w K mg base "ordered_book" 2 ["book"] spOrdB
theorem scDi : FnScope ["self", "book", "start"] ["self", "book", "start"] (defScope sDInit) := ⟨rfl, rfl, rfl, by decide +kernel, rfl, by decide +kernel, by decide +kernel⟩
theorem ok_dinit {f C : Addr} {fd : FuncData} (F : Fun K "__init__" "Desk.__init__" sDInit f fd) (D : DTxt K mg C) (CB : CIsBook P w K mg base) (CS : CIsState P w K mg base) (CO : COrdB P w K mg base) : FnOk P w K mg base CX0 4 f fd ["self", "book", "start"] (spDInit C) := by
  refine F.ok scDi (fun vs H Q E h => ?_) (fun cdv A outer s H vs Q E hr h => ?_)
  · obtain ⟨q, dx, b, bk, st, rfl, _⟩ := h; rfl
  · obtain ⟨q, dx, b, bk, st, rfl, hq, hb, ok, k⟩ := h
    refine ⟨_, pss_cons (ps_if (pt_not (pt_val (pe_cal CB (hr.mono (by decide)) rfl (pa_cons (pv 1) pa_nil)))) (pss_one ps_never) pss_nil)
      (pss_cons (ps_if (pt_not (pt_val (pe_cal CS (hr.mono (by decide)) rfl (pa_cons (pv 1) (pa_cons (pv 2) pa_nil))))) (pss_one ps_never) pss_nil)
      (pss_cons (ps_fld (pv 0) (pe_cal CO (hr.mono (by decide)) rfl (pa_cons (pv 1) pa_nil)) rfl)
      (pss_one (ps_fld (pv 0) (pv 2) rfl)))), ?_⟩
    refine ⟨_, rfl, b, bk, rfl, hb, ok.toBWf, fun H1 s1 => ⟨_, rfl, iteF ?_⟩⟩
    obtain ⟨kvs, hk1, hR1⟩ := hb.same s1
    obtain ⟨v, ev, _⟩ := hR1.look ok.st
    refine ⟨_, rfl, _, rfl, b, kvs, st, rfl, .inl hk1, by rw [ev]; rfl, ⟨_, rfl, iteF ?_⟩⟩
    refine ⟨_, rfl, b, bk, rfl, (hb.same s1).r, ok.bok, fun H2 R s2 hR hO => ?_⟩
    have s12 := Same.trans s1 s2
    have hq2 := s12 _ _ hq
    have nqR : q ≠ R := ne_of_none (s1 _ _ hq) hR
    refine ⟨_, rfl, q, C, dx, [], rfl, hq2, D.cl, D.nB, (by show 0 < 1000; decide), _, rfl, _, rfl, q, C, dx, _, rfl, upd_same, D.cl, D.nS, (by show 1 < 1000; decide), ?_⟩
    rw [updd2]
    have sN : ∀ o, Same (newH H1 H2) (newH H (L2.upd H2 q o)) := fun o c u e => by
      obtain ⟨n, e⟩ := new_some (new_mono s1 _ _ e)
      rw [new_out n, upd_ne fun z => by rw [z, hq] at n; cases n]; exact e
    refine k _ (fun c u nc e => ?_) ⟨dx, R, upd_same, (hO.same (sN _)).r.same new_le⟩ ⟨dx, R, upd_same, (hO.same (sN _)).r⟩
    rw [upd_ne nc]; exact s12 _ _ e
theorem scDb : FnScope ["self"] ["self"] (defScope sDBook) := ⟨rfl, rfl, rfl, by decide +kernel, rfl, by decide +kernel, by decide +kernel⟩
theorem ok_dbook {f C : Addr} {fd : FuncData} (F : Fun K "book" "Desk.book" sDBook f fd) (D : DTxt K mg C) (CO : COrdB P w K mg base) : FnOk P w K mg base CX0 3 f fd ["self"] (spDBook C) := by
  refine F.ok scDb (fun vs H Q E h => ?_) (fun cdv A outer s H vs Q E hr h => ?_)
  · obtain ⟨q, bk, st, rfl, _⟩ := h; rfl
  · obtain ⟨q, bk, st, rfl, ⟨dx, b, hq, hb⟩, ok, k⟩ := h
    refine ⟨_, pss_one (ps_ret (pe_cal CO (hr.mono (by decide)) rfl (pa_cons (pe_fld (pv 0) rfl) pa_nil))), ?_⟩
    refine ⟨_, rfl, q, C, dx, _, _, rfl, hq, D.cl, D.nB, dflds_book _ _, b, ordB bk, rfl, hb, ok.obok, fun H' R s' hR hO => ?_⟩
    rw [ordB_ordB ok.nd] at hO
    exact k H' R s' hR (hO.same new_le) hO
theorem scDs : FnScope ["self"] ["self"] (defScope sDStart) := ⟨rfl, rfl, rfl, by decide +kernel, rfl, by decide +kernel, by decide +kernel⟩
theorem ok_dstart {f C : Addr} {fd : FuncData} (F : Fun K "start" "Desk.start" sDStart f fd) (D : DTxt K mg C) : FnOk P w K mg base CX0 1 f fd ["self"] (spDStart C) := by
  refine F.ok scDs (fun vs H Q E h => ?_) (fun cdv A outer s H vs Q E hr h => ?_)
  · obtain ⟨q, bk, st, rfl, _⟩ := h; rfl
  · obtain ⟨q, bk, st, rfl, ⟨dx, b, hq, hb⟩, k⟩ := h
    refine ⟨_, pss_one (ps_ret (pe_fld (pv 0) rfl)), ?_⟩
    exact ⟨_, rfl, q, C, dx, _, _, rfl, hq, D.cl, D.nS, dflds_start _ _, k⟩
end
end D1
end L2
/-! need_desk, graph_of, node_behind, the talks' small defs -/
namespace L2
namespace D1
open PySem PySem.Spec PyProof.Rows
/-- a method that keeps a promise -/
structure CalM (P : Program) (w : World) (K : PySem.W.Frag) (mg : Str → Option Value) (base : Heap) (C : Addr) (m : Str) (k : Nat) (ps : List Str) (sp : Sp) : Prop where
  ex : ∃ f fd, Meth K C m f ∧ FnOk P w K mg base CX0 k f fd ps sp ∧ Binds K fd ps []
def spNeed (C : Addr) : Sp := fun vs H Q _ => ∃ (q dx : Addr) (fs : List (Str × V)), vs = [.ref q] ∧ H q = some (.ins C dx fs) ∧ Q .non H
/-- a graph's rows -/
def GRows (H : Hp) : List (Key × V) → Bk → Prop := Paired fun kv r => kv.1 = Sum.inr r.1 ∧ ∃ a, kv.2 = .ref a ∧ TurnsAt H a r.2.2
theorem GRows.same {H H' : Hp} {kvs : List (Key × V)} {bk : Bk} (h : GRows H kvs bk) (s : Same H H') : GRows H' kvs bk := by
  unfold GRows at h ⊢
  induction h with
  | nil => exact .nil
  | cons a b ih => obtain ⟨e, c, e2, h3⟩ := a; exact .cons ⟨e, c, e2, h3.same s⟩ ih
theorem GRows.app {H : Hp} {kvs : List (Key × V)} {bk : Bk} {s k : Str} {a : Addr} {ts : List (Str × Str)} (h : GRows H kvs bk) (r : TurnsAt H a ts) : GRows H (kvs ++ [(.inr s, .ref a)]) (bk ++ [(s, k, ts)]) := by
  unfold GRows at h ⊢
  induction h with
  | nil => exact .cons ⟨rfl, a, rfl, r⟩ .nil
  | cons a b ih => exact .cons a ih
theorem GRows.keys {H : Hp} {kvs : List (Key × V)} {bk : Bk} (h : GRows H kvs bk) : kvs.map (·.1) = bk.map fun r => Sum.inr r.1 := by
  unfold GRows at h
  induction h with
  | nil => rfl
  | cons a b ih => rw [List.map_cons, List.map_cons, ih, a.1]
theorem GRows.look {H : Hp} {kvs : List (Key × V)} {bk : Bk} {s : Str} (h : GRows H kvs bk) (m : s ∈ bk.map (·.1)) : ∃ a, valV kvs (.inr s) = some (.ref a) ∧ TurnsAt H a (rowOf bk s).2 := by
  unfold GRows at h
  induction h with
  | nil => cases m
  | @cons x r kvs bk h1 _ ih =>
    obtain ⟨e1, a, e2, h3⟩ := h1
    by_cases e : r.1 = s
    · refine ⟨a, (valV_pos (by rw [e1, e])).trans (congrArg some e2), ?_⟩
      rw [rowOf, List.find?_cons, decide_eq_true e]; exact h3
    · have m' : s ∈ bk.map (·.1) := by
        rcases List.mem_cons.mp m with z | z
        · exact absurd z.symm e
        · exact z
      obtain ⟨a', h4, h5⟩ := ih m'
      have er : rowOf (r :: bk) s = rowOf bk s := by rw [rowOf, List.find?_cons, decide_eq_false e]; rfl
      exact ⟨a', by rw [valV_neg (by rw [e1]; exact fun z => e (Sum.inr.inj z))]; exact h4, by rw [er]; exact h5⟩
def GraphAt (H : Hp) (g : Addr) (bk : Bk) : Prop := ∃ kvs, H g = some (.dK kvs) ∧ GRows H kvs bk
theorem GraphAt.same {H H' : Hp} {g : Addr} {bk : Bk} (h : GraphAt H g bk) (s : Same H H') : GraphAt H' g bk := by
  obtain ⟨kvs, e, r⟩ := h; exact ⟨kvs, s _ _ e, r.same s⟩
def spGraph (C : Addr) : Sp := fun vs H Q _ => ∃ (q : Addr) (bk : Bk) (st : Str), vs = [.ref q] ∧ DeskAt C H q bk st ∧ DOk bk st ∧ ∀ H' R, Same H H' → GraphAt H' R (ordB bk) → Q (.ref R) H'
/-- where a word leads -/
def nextT (ts : List (Str × Str)) (x : Str) : Option Str := (ts.find? fun t => decide (t.1 = x)).map (·.2)
def walkB (bk : Bk) : Str → List Str → Option Str
  | s, [] => some s
  | s, x :: r => match nextT (rowOf bk s).2 x with
    | none => none
    | some g => walkB bk g r
def optV : Option Str → V
  | none => .non
  | some s => .str s
theorem nextT_none {ts : List (Str × Str)} {x : Str} : nextT ts x = none ↔ x ∉ ts.map (·.1) := by
  constructor
  · intro h m
    obtain ⟨t, e, _⟩ := find_some m
    rw [nextT, e] at h; cases h
  · intro h
    cases e : nextT ts x with
    | none => rfl
    | some g =>
      obtain ⟨t, e1, _⟩ := Option.map_eq_some_iff.mp e
      have e2 := List.find?_some e1
      exact absurd (List.mem_map.mpr ⟨t, List.mem_of_find?_eq_some e1, of_decide_eq_true e2⟩) h
theorem nextT_ord (ts : List (Str × Str)) (x : Str) : nextT (ordT ts) x = nextT ts x := by
  by_cases h : x ∈ ts.map (·.1)
  · have h' : x ∈ (ordT ts).map (·.1) := by rw [ordT_keys]; exact (srt_perm _).mem_iff.mpr h
    have g := goalT_ordT h
    obtain ⟨t, e, _⟩ := find_some h
    obtain ⟨t', e', _⟩ := find_some h'
    rw [goalT, goalT, e, e'] at g
    rw [nextT, nextT, e, e']
    exact congrArg some g
  · have h' : x ∉ (ordT ts).map (·.1) := by rw [ordT_keys]; exact fun z => h ((srt_perm _).mem_iff.mp z)
    rw [nextT_none.mpr h, nextT_none.mpr h']
theorem nextT_mem {ts : List (Str × Str)} {x g : Str} (h : nextT ts x = some g) : ∃ t ∈ ts, t.1 = x ∧ t.2 = g := by
  obtain ⟨t, e1, e2⟩ := Option.map_eq_some_iff.mp h
  have e3 := List.find?_some e1
  exact ⟨t, List.mem_of_find?_eq_some e1, of_decide_eq_true e3, e2⟩
theorem valV_next (ts : List (Str × Str)) (x : Str) : valV (kT ts) (.inr x) = (nextT ts x).map V.str := by
  rw [valV_kT, nextT, Option.map_map]; rfl
theorem rowOf_ord {bk : Bk} (nd : (bk.map (·.1)).Nodup) {s : Str} (h : s ∈ bk.map (·.1)) : rowOf (ordB bk) s = ((rowOf bk s).1, ordT (rowOf bk s).2) := by
  have nd2 : ((ordB bk).map (·.1)).Nodup := by rw [ordB_names]; exact (srt_perm _).nodup_iff.mpr nd
  have hm : (s, (rowOf bk s).1, ordT (rowOf bk s).2) ∈ ordB bk := List.mem_map.mpr ⟨s, (srt_perm _).mem_iff.mpr h, rfl⟩
  exact rowOf_self nd2 hm
theorem row_mem {bk : Bk} {s : Str} (h : s ∈ bk.map (·.1)) : (s, rowOf bk s) ∈ bk := by
  obtain ⟨r, hr, e⟩ := List.mem_map.mp h
  cases z : bk.find? fun r => decide (r.1 = s) with
  | none => exact absurd (decide_eq_true e) (List.find?_eq_none.mp z r hr)
  | some u =>
    have e1 : u.1 = s := of_decide_eq_true (by have := List.find?_some z; exact this)
    have : rowOf bk s = u.2 := by rw [rowOf, z]; rfl
    rw [this, ← e1]
    exact List.mem_of_find?_eq_some z
def spNode : Sp := fun vs H Q _ => ∃ (g L : Addr) (bk : Bk) (st : Str) (way : List Str), vs = [.ref g, .str st, .ref L] ∧ GraphAt H g (ordB bk) ∧ DOk bk st ∧ SL H L way ∧ Q (optV (walkB bk st way)) H
def spIsTalk : Sp := spIsNames
def spNeedT : Sp := fun vs H Q _ => ∃ (L : Addr) (ss : List Str), vs = [.ref L] ∧ SL H L ss ∧ ss.length ≤ 1000 ∧ (∀ x ∈ ss, Wd x) ∧ ∀ H', Same H H' → Q .non H'
def spSB (C : Addr) : Sp := fun vs H Q _ => ∃ (q L : Addr) (bk : Bk) (st : Str) (way : List Str), vs = [.ref q, .ref L] ∧ DeskAt C H q bk st ∧ DOk bk st ∧ SL H L way ∧ way.length ≤ 1000 ∧ (∀ x ∈ way, Wd x) ∧ ∀ H', Same H H' → Q (optV (walkB bk st way)) H'
section
variable {P : Program} {w : World} {K : PySem.W.Frag} {mg : Str → Option Value} {base : Heap}
theorem scNd : FnScope ["desk"] ["desk"] (defScope sNeed) := ⟨rfl, rfl, rfl, by decide +kernel, rfl, by decide +kernel, by decide +kernel⟩
theorem ok_need {f C : Addr} {fd : FuncData} (F : Fun K "need_desk" "need_desk" sNeed f fd) (T : Free3 mg) (D : DTxt K mg C) (c : C8.InsC K C) : FnOk P w K mg base CX0 1 f fd ["desk"] (spNeed C) := by
  refine F.ok scNd (fun vs H Q E h => ?_) (fun cdv A outer s H vs Q E hr h => ?_)
  · obtain ⟨q, dx, fs, rfl, _⟩ := h; rfl
  · obtain ⟨q, dx, fs, rfl, hq, k⟩ := h
    refine ⟨_, pss_one (ps_if (pt_not (pt_val (pe_callB (C8.call_isC c) (by rfl) T.isi (by decide +kernel) (pa_cons (pv 0) (pa_cons (pe_glob (v := .ref C) rfl D.mgC rfl) pa_nil))))) (pss_one ps_never) pss_nil), ?_⟩
    exact ⟨_, rfl, q, dx, fs, rfl, hq, _, rfl, iteF k⟩
abbrev CNode (P : Program) (w : World) (K : PySem.W.Frag) (mg : Str → Option Value) (base : Heap) := Cal P w K mg base "node_behind" 1 ["graph", "start", "way"] spNode
end
end D1
end L2
/-! graph_of, is_talk, need_talk, done_states, state_behind, is_whole -/
namespace L2
namespace D1
open PySem PySem.Spec PyProof.Rows
theorem Rows.at {H : Hp} {kvs : List (Key × V)} {bk : Bk} (h : Rows H kvs bk) : ∀ {i : Nat} {k : Key} {v : V}, kvs[i]? = some (k, v) → ∃ r, bk[i]? = some r ∧ k = Sum.inr r.1 ∧ RowAt H v r.2.1 r.2.2 := by
  unfold Rows at h
  induction h with
  | nil => intro i k v e; simp at e
  | @cons x r kvs bk h1 _ ih =>
    intro i k v e
    cases i with
    | zero => cases e; exact ⟨r, rfl, h1.1, h1.2⟩
    | succ i => exact ih e
def isDone (r : RowD) : Bool := decide (r.2.1 = "done")
def spDone (C : Addr) : Sp := fun vs H Q _ => ∃ (q : Addr) (bk : Bk) (st : Str), vs = [.ref q] ∧ DeskAt C H q bk st ∧ DOk bk st ∧ ∀ H' R, Same H H' → SL H' R (((ordB bk).filter isDone).map (·.1)) → Q (.ref R) H'
/-- whether a talk leads to an end -/
def wholeB (bk : Bk) (st : Str) (way : List Str) : Bool := match walkB bk st way with
  | none => false
  | some s => decide ((rowOf bk s).1 = "done")
def spWhole (C : Addr) : Sp := fun vs H Q _ => ∃ (q L : Addr) (bk : Bk) (st : Str) (way : List Str), vs = [.ref q, .ref L] ∧ DeskAt C H q bk st ∧ DOk bk st ∧ SL H L way ∧ way.length ≤ 1000 ∧ (∀ x ∈ way, Wd x) ∧ ∀ H', Same H H' → Q (.bl (wholeB bk st way)) H'
theorem DOk.ond {bk : Bk} {st : Str} (h : DOk bk st) : ((ordB bk).map (·.1)).Nodup := by rw [ordB_names]; exact (srt_perm _).nodup_iff.mpr h.nd
theorem ordB_ne {bk : Bk} (h : bk ≠ []) : ordB bk ≠ [] := fun e => by
  have := ordB_len bk
  rw [e] at this
  exact h (List.length_eq_zero_iff.mp this.symm)
theorem walk_mem {bk : Bk} {st0 : Str} (ok : DOk bk st0) : ∀ {way : List Str} {st s : Str}, st ∈ bk.map (·.1) → walkB bk st way = some s → s ∈ bk.map (·.1)
  | [], st, s, h, e => by cases e; exact h
  | x :: r, st, s, h, e => by
    rw [walkB] at e
    cases en : nextT (rowOf bk st).2 x with
    | none => rw [en] at e; cases e
    | some g =>
      rw [en] at e
      obtain ⟨t, ht, _, e3⟩ := nextT_mem en
      exact walk_mem ok (by rw [← e3]; exact (ok.rs _ (row_mem h)).2.2 t ht) e
section
variable {P : Program} {w : World} {K : PySem.W.Frag} {mg : Str → Option Value} {base : Heap} {C : Addr}
abbrev CMBook (P : Program) (w : World) (K : PySem.W.Frag) (mg : Str → Option Value) (base : Heap) (C : Addr) := CalM P w K mg base C "book" 3 ["self"] (spDBook C)
abbrev CMStart (P : Program) (w : World) (K : PySem.W.Frag) (mg : Str → Option Value) (base : Heap) (C : Addr) := CalM P w K mg base C "start" 1 ["self"] (spDStart C)
abbrev CNeed (P : Program) (w : World) (K : PySem.W.Frag) (mg : Str → Option Value) (base : Heap) (C : Addr) := Cal P w K mg base "need_desk" 1 ["desk"] (spNeed C)
abbrev CGraph (P : Program) (w : World) (K : PySem.W.Frag) (mg : Str → Option Value) (base : Heap) (C : Addr) := Cal P w K mg base "graph_of" 4 ["desk"] (spGraph C)
abbrev CIsTalk (P : Program) (w : World) (K : PySem.W.Frag) (mg : Str → Option Value) (base : Heap) := Cal P w K mg base "is_talk" 3 ["value"] spIsTalk
abbrev CNeedT (P : Program) (w : World) (K : PySem.W.Frag) (mg : Str → Option Value) (base : Heap) := Cal P w K mg base "need_talk" 4 ["talk"] spNeedT
abbrev CIsNames (P : Program) (w : World) (K : PySem.W.Frag) (mg : Str → Option Value) (base : Heap) := Cal P w K mg base "is_names" 2 ["value"] spIsNames
end
end D1
end L2
/-! exact -/
namespace L2
namespace D1
open PySem PySem.Spec PyProof.Rows
inductive Leaf : V → Prop
  | non : Leaf .non
  | bl (b : Bool) : Leaf (.bl b)
  | str (x : Str) : Leaf (.str x)
/-- alike data, at most n deep -/
def EqX : Nat → Hp → V → V → Prop
  | 0, _, x, y => Leaf x ∧ y = x
  | n + 1, H, x, y => EqX n H x y ∨ (∃ a b xs ys, x = .ref a ∧ y = .ref b ∧ H a = some (.lst xs) ∧ H b = some (.lst ys) ∧ xs.length ≤ 10000 ∧ Paired (EqX n H) xs ys) ∨
      (∃ a b xs ys, x = .ref a ∧ y = .ref b ∧ H a = some (.tup xs) ∧ H b = some (.tup ys) ∧ xs.length ≤ 10000 ∧ Paired (EqX n H) xs ys) ∨
      (1 ≤ n ∧ ∃ (a b : Addr) (ks ls : List (Key × V)) (ss : List Str), x = .ref a ∧ y = .ref b ∧ H a = some (.dK ks) ∧ H b = some (.dK ls) ∧ ks.map (·.1) = ss.map Sum.inr ∧ ls.map (·.1) = ss.map Sum.inr ∧ ss.Nodup ∧ ss.length ≤ 10000 ∧ Paired (fun p q => EqX n (cut [a] H) p.2 q.2) ks ls)
theorem paired_imp {α β : Type} {R R' : α → β → Prop} (h : ∀ a b, R a b → R' a b) : ∀ {xs : List α} {ys : List β}, Paired R xs ys → Paired R' xs ys
  | _, _, .nil => .nil
  | _, _, .cons a b => .cons (h _ _ a) (paired_imp h b)
theorem paired_at {α β : Type} {R : α → β → Prop} : ∀ {xs : List α} {ys : List β} {i : Nat} {x : α} {y : β}, Paired R xs ys → xs[i]? = some x → ys[i]? = some y → R x y
  | _, _, i, x, y, .nil, h, _ => by simp at h
  | _, _, 0, x, y, .cons a _, h1, h2 => by cases h1; cases h2; exact a
  | _, _, i + 1, x, y, .cons _ b, h1, h2 => paired_at (i := i) b h1 h2
theorem paired_len {α β : Type} {R : α → β → Prop} : ∀ {xs : List α} {ys : List β}, Paired R xs ys → xs.length = ys.length
  | _, _, .nil => rfl
  | _, _, .cons _ b => by rw [List.length_cons, List.length_cons, paired_len b]
theorem EqX.same : ∀ (n : Nat) {H H' : Hp} {x y : V}, Same H H' → EqX n H x y → EqX n H' x y
  | 0, _, _, _, _, _, h => h
  | n + 1, H, H', x, y, s, h => by
    rcases h with h | ⟨a, b, xs, ys, h1, h2, h3, h4, h5, h6⟩ | ⟨a, b, xs, ys, h1, h2, h3, h4, h5, h6⟩ | ⟨h0, a, b, ks, ls, ss, h1, h2, h3, h4, h5, h6, h7, h8, h9⟩
    · exact .inl (EqX.same n s h)
    · exact .inr (.inl ⟨a, b, xs, ys, h1, h2, s _ _ h3, s _ _ h4, h5, paired_imp (fun _ _ => EqX.same n s) h6⟩)
    · exact .inr (.inr (.inl ⟨a, b, xs, ys, h1, h2, s _ _ h3, s _ _ h4, h5, paired_imp (fun _ _ => EqX.same n s) h6⟩))
    · exact .inr (.inr (.inr ⟨h0, a, b, ks, ls, ss, h1, h2, s _ _ h3, s _ _ h4, h5, h6, h7, h8, paired_imp (fun _ _ => EqX.same n (cut_same s)) h9⟩))
theorem EqX.up {H : Hp} {m n : Nat} {x y : V} (h : EqX m H x y) (l : m ≤ n) : EqX n H x y := by
  induction l with
  | refl => exact h
  | step _ ih => exact .inl ih
theorem eqx_str {H : Hp} {n : Nat} (x : Str) : EqX n H (.str x) (.str x) := EqX.up (m := 0) ⟨.str x, rfl⟩ (Nat.zero_le _)
theorem eqx_strs {H : Hp} {n : Nat} : ∀ ss : List Str, Paired (EqX n H) (ss.map V.str) (ss.map V.str)
  | [] => .nil
  | x :: r => .cons (eqx_str x) (eqx_strs r)
abbrev sExact : Stmt := top 43
def spExact (n : Nat) : Sp := fun vs H Q _ => ∃ x y, vs = [x, y] ∧ EqX n H x y ∧ ∀ H', Same H H' → Q (.bl true) H'
def spDeep (n : Nat) : Sp := fun vs H Q _ => ∃ x y, vs = [x, y] ∧ ((∃ a b xs ys, x = .ref a ∧ y = .ref b ∧ H a = some (.lst xs) ∧ H b = some (.lst ys) ∧ xs.length ≤ 10000 ∧ Paired (EqX n H) xs ys) ∨
      (∃ a b xs ys, x = .ref a ∧ y = .ref b ∧ H a = some (.tup xs) ∧ H b = some (.tup ys) ∧ xs.length ≤ 10000 ∧ Paired (EqX n H) xs ys) ∨
      (1 ≤ n ∧ ∃ (a b : Addr) (ks ls : List (Key × V)) (ss : List Str), x = .ref a ∧ y = .ref b ∧ H a = some (.dK ks) ∧ H b = some (.dK ls) ∧ ks.map (·.1) = ss.map Sum.inr ∧ ls.map (·.1) = ss.map Sum.inr ∧ ss.Nodup ∧ ss.length ≤ 10000 ∧ Paired (fun p q => EqX n (cut [a] H) p.2 q.2) ks ls)) ∧ ∀ H', Same H H' → Q (.bl true) H'
theorem fnok_or {P : Program} {w : World} {K : PySem.W.Frag} {mg : Str → Option Value} {base : Heap} {k : Nat} {f : Addr} {fd : FuncData} {ps : List Str} {sp sp1 sp2 : Sp} (h1 : FnOk P w K mg base CX0 k f fd ps sp1) (h2 : FnOk P w K mg base CX0 k f fd ps sp2)
    (h : ∀ vs H Q E, sp vs H Q E → sp1 vs H Q E ∨ sp2 vs H Q E) : FnOk P w K mg base CX0 k f fd ps sp :=
  ⟨fun vs H Q E q => (h vs H Q E q).elim (h1.len vs H Q E) (h2.len vs H Q E), fun A outer s H args us vs Q E hr he hb hv hs => (h _ _ _ _ hs).elim (fun q => h1.run A outer s H args us vs Q E hr he hb hv q) fun q => h2.run A outer s H args us vs Q E hr he hb hv q⟩
theorem val_at {kvs : List (Key × V)} (nd : (kvs.map (·.1)).Nodup) : ∀ {i : Nat} {k : Key} {v : V}, kvs[i]? = some (k, v) → valV kvs k = some v := by
  induction kvs with
  | nil => intro i k v e; simp at e
  | cons p r ih =>
    intro i k v e
    have nd' := List.nodup_cons.mp nd
    cases i with
    | zero => cases e; exact valV_pos (p := (k, v)) rfl
    | succ i =>
      rw [valV_neg fun z => nd'.1 (List.mem_map.mpr ⟨(k, v), List.mem_of_getElem? e, z.symm⟩)]
      exact ih nd'.2 e
theorem inr_nd' {l : List Str} (h : l.Nodup) : (l.map (Sum.inr : Str → Key)).Nodup := by
  induction l with
  | nil => exact List.nodup_nil
  | cons a r ih =>
    have h' := List.nodup_cons.mp h
    refine List.nodup_cons.mpr ⟨fun z => ?_, ih h'.2⟩
    obtain ⟨b, hb, e⟩ := List.mem_map.mp z
    exact h'.1 (by rw [← Sum.inr.inj e]; exact hb)
theorem walk_zipT {K : PySem.W.Frag} {a b : Addr} {xs ys : List V} {n : Nat} (hn : n = min xs.length ys.length) : Walk (RZ.ItzT K a b) n (fun H => SqT K H a xs ∧ SqT K H b ys) (YPair (fun i => xs[i]?) (fun i => ys[i]?)) := by
  subst hn
  refine ⟨fun i H hi q => ?_, fun H q => ⟨xs, ys, q.1, q.2, by omega⟩, fun i H v H' hi q y => ?_⟩
  · have h1 : i < xs.length := by omega
    have h2 : i < ys.length := by omega
    exact ⟨xs, ys, xs[i], ys[i], q.1, q.2, by simp [h1], by simp [h2]⟩
  · obtain ⟨T, x, z, h1, h2, h3, h4, h5⟩ := y
    exact ⟨T, x, z, h1, h2, h3, h4 xs q.1, h5 ys q.2⟩
theorem kitTwo {K : PySem.W.Frag} {t : String} {b1 b2 : Bool} (h1 : kitB t "list" = some b1) (h2 : kitB t "tuple" = some b2) : PySem.W.kitAny K (.type t) [.type "list", .type "tuple"] = some (b1 || b2) := by
  refine kitAny_cons (kit_ty h1) (fun e => ?_) (fun e => by rw [e]; rfl)
  rw [e]
  exact kitAny_cons (kit_ty h2) (fun e2 => by rw [e2]; exact kitAny_nil) (fun e2 => by rw [e2]; rfl)
theorem leaf_ty {x : V} (lx : Leaf x) : ∃ (t : String) (b : Bool), (∀ (K : PySem.W.Frag) (H : Hp), TyX K H x (.type t)) ∧ kitB t "list" = some false ∧ kitB t "tuple" = some false ∧ kitB t "dict" = some false ∧ kitB t "bool" = some b := by
  cases lx with
  | non => exact ⟨"NoneType", _, fun _ _ => .base .non, by decide +kernel, by decide +kernel, by decide +kernel, (by decide +kernel : kitB "NoneType" "bool" = some false)⟩
  | bl v => exact ⟨"bool", _, fun _ _ => .base (.bl v), by decide +kernel, by decide +kernel, by decide +kernel, (by decide +kernel : kitB "bool" "bool" = some true)⟩
  | str v => exact ⟨"str", _, fun _ _ => .base (.str v), by decide +kernel, by decide +kernel, by decide +kernel, (by decide +kernel : kitB "str" "bool" = some false)⟩
section
variable {P : Program} {w : World} {K : PySem.W.Frag} {mg : Str → Option Value} {base : Heap}
theorem scEx : FnScope ["_law_mine", "_law_theirs", "_law_alike", "_law_a", "_law_b", "_law_key"] ["_law_mine", "_law_theirs"] (defScope sExact) := ⟨rfl, rfl, rfl, by decide +kernel, rfl, by decide +kernel, by decide +kernel⟩
theorem ok_exact {f : Addr} {fd : FuncData} (F : Fun K "_law_exact" "_law_exact" sExact f fd) (T : Free3 mg) (gE : mg "_law_exact" = some (.ref f)) (bE : Binds K fd ["_law_mine", "_law_theirs"] []) : ∀ n : Nat, FnOk P w K mg base CX0 (n + 1) f fd ["_law_mine", "_law_theirs"] (spExact n) := by
  intro n
  induction n with
  | zero =>
    refine F.ok scEx (fun vs H Q E h => ?_) (fun cdv A outer s H vs Q E hr h => ?_)
    · obtain ⟨x, y, rfl, _⟩ := h; rfl
    · obtain ⟨x, y, rfl, ⟨lx, e⟩, k⟩ := h
      have e := e.symm
      subst e
      have hu := hu_of hr
      refine ⟨_, pss_cons (ps_if (pt_val (pe_callB call_isiT (by rfl) T.isi (by decide +kernel) (pa_cons (pv 0) (pa_cons (pe_tup (pa_cons (pe_bltn (v := .ty "list") rfl T.list (by decide +kernel) rfl) (pa_cons (pe_bltn (v := .ty "tuple") rfl T.tuple (by decide +kernel) rfl) pa_nil))) pa_nil)))) pss_never pss_nil)
        (pss_cons (ps_if (pt_val (pe_callB call_isi (by rfl) T.isi (by decide +kernel) (pa_cons (pv 0) (pa_cons (pe_bltn (v := .ty "dict") rfl T.dict (by decide +kernel) rfl) pa_nil)))) pss_never pss_nil)
        (pss_one (ps_ret (pe_and (pe_cmpR op_eq (pe_callB call_isi (by rfl) T.isi (by decide +kernel) (pa_cons (pv 0) (pa_cons (pe_bltn (v := .ty "bool") rfl T.bool (by decide +kernel) rfl) pa_nil))) (pe_callB call_isi (by rfl) T.isi (by decide +kernel) (pa_cons (pv 1) (pa_cons (pe_bltn (v := .ty "bool") rfl T.bool (by decide +kernel) rfl) pa_nil))) (nomark _)) (pe_one (pe_cmpR op_eq (pv 0) (pv 1) (nomark _))))))), ?_⟩
      obtain ⟨t, b, ty, e1, e2, e3, e4⟩ := leaf_ty lx
      refine ⟨_, rfl, by show 2 ≤ sizeLine; decide, fun T1 hT1 => ?_⟩
      refine ⟨x, T1, [.ty "list", .ty "tuple"], .type t, [.type "list", .type "tuple"], false, rfl, upd_same, .cons (.ty _) (.cons (.ty _) .nil), ty _ _, kitTwo e1 e2, _, rfl, iteF ?_⟩
      refine ⟨_, rfl, _, .ty "dict", .type t, .type "dict", false, rfl, .ty _, ty _ _, kit_ty e3, _, rfl, iteF ?_⟩
      refine ⟨_, rfl, _, .ty "bool", .type t, .type "bool", b, rfl, .ty _, ty _ _, kit_ty e4, _, rfl, _, .ty "bool", .type t, .type "bool", b, rfl, .ty _, ty _ _, kit_ty e4, rfl, _, rfl, ?_⟩
      rw [decide_eq_true rfl]
      refine iteT ⟨_, rfl, _, rfl, by cases lx <;> rfl, ?_⟩
      rw [decide_eq_true rfl]
      exact k _ (Same.new hT1)
  | succ n ih =>
    have CE : Cal P w K mg base "_law_exact" (n + 1) ["_law_mine", "_law_theirs"] (spExact n) := Cal.of gE F.kp ih bE
    have deep : FnOk P w K mg base CX0 (n + 2) f fd ["_law_mine", "_law_theirs"] (spDeep n) := by
     refine F.ok scEx (fun vs H Q E h => ?_) (fun cdv A outer s H vs Q E hr h => ?_)
     · obtain ⟨x, y, rfl, _⟩ := h; rfl
     · obtain ⟨x, y, rfl, hx, k⟩ := h
       have hu := hu_of hr
       refine ⟨_, pss_cons (ps_if (pt_val (pe_callB call_isiT (by rfl) T.isi (by decide +kernel) (pa_cons (pv 0) (pa_cons (pe_tup (pa_cons (pe_bltn (v := .ty "list") rfl T.list (by decide +kernel) rfl) (pa_cons (pe_bltn (v := .ty "tuple") rfl T.tuple (by decide +kernel) rfl) pa_nil))) pa_nil)))) (pss_cons (ps_set (i := 2) scEx.nd rfl (Or.inl rfl) (pe_and (pe_cmpR op_eq (pe_callB call_isi (by rfl) T.isi (by decide +kernel) (pa_cons (pv 1) (pa_cons (pe_bltn (v := .ty "list") rfl T.list (by decide +kernel) rfl) pa_nil))) (pe_callB call_isi (by rfl) T.isi (by decide +kernel) (pa_cons (pv 0) (pa_cons (pe_bltn (v := .ty "list") rfl T.list (by decide +kernel) rfl) pa_nil))) (nomark _)) (pe_one (pe_cmpR op_eq (pe_callB call_isi (by rfl) T.isi (by decide +kernel) (pa_cons (pv 1) (pa_cons (pe_bltn (v := .ty "tuple") rfl T.tuple (by decide +kernel) rfl) pa_nil))) (pe_callB call_isi (by rfl) T.isi (by decide +kernel) (pa_cons (pv 0) (pa_cons (pe_bltn (v := .ty "tuple") rfl T.tuple (by decide +kernel) rfl) pa_nil))) (nomark _)))))
           (pss_one (ps_ret (pe_and (pv 2) (pe_and (pe_cmpR op_eq (pe_callB call_len_seq (by rfl) T.len PySem.boot_len (pa_cons (pv 0) pa_nil)) (pe_callB call_len_seq (by rfl) T.len PySem.boot_len (pa_cons (pv 1) pa_nil)) (nomark _)) (pe_one (pe_callB (cr_all rfl) (by rfl) T.all (by decide +kernel) (pa_cons (pe_lc (own := [("_law_a", 3), ("_law_b", 4)]) (g := gTup K 2 (gCons (gName 3) (gCons (gName 4) gNil))) (tt := tYes) (te := tCall (spExact n) [] E0 (tCons (tVar 3) (tCons (tVar 4) tNil))) rfl scEx.nd (RZ.pi_zipA (by rfl) T.zip (pa_cons (pv 0) (pa_cons (pv 1) pa_nil)))
             (blkOk_by (N := ["_law_mine", "_law_theirs", "_law_alike", "_law_a", "_law_b", "_law_key"]) (sc := defScope sExact) (by decide +kernel)) (fun _ _ _ _ _ => pg_tup rfl (pgs_cons (pg_name (i := 3) scEx.nd rfl (Or.inl rfl)) (pgs_cons (pg_name (i := 4) scEx.nd rfl (Or.inl rfl)) pgs_nil))) (fun _ _ _ _ _ => pts_nil)
             (fun _ _ _ _ _ => pe_cal CE (hr.mono (by omega)) rfl (pa_cons (pv 3) (pa_cons (pv 4) pa_nil)))) pa_nil)))))))) pss_nil)
         (pss_cons (ps_if (pt_val (pe_callB call_isi (by rfl) T.isi (by decide +kernel) (pa_cons (pv 0) (pa_cons (pe_bltn (v := .ty "dict") rfl T.dict (by decide +kernel) rfl) pa_nil)))) (pss_cons (ps_set (i := 2) scEx.nd rfl (Or.inl rfl) (pe_and (pe_callB call_isi (by rfl) T.isi (by decide +kernel) (pa_cons (pv 1) (pa_cons (pe_bltn (v := .ty "dict") rfl T.dict (by decide +kernel) rfl) pa_nil))) (pe_one (pe_cal CE (hr.mono (by omega)) rfl (pa_cons (pe_callTy (call_listD rfl) (by rfl) T.list (by decide +kernel) (pa_cons (pv 0) pa_nil)) (pa_cons (pe_callTy (call_listD rfl) (by rfl) T.list (by decide +kernel) (pa_cons (pv 1) pa_nil)) pa_nil))))))
           (pss_one (ps_ret (pe_and (pv 2) (pe_one (pe_callB (cr_all rfl) (by rfl) T.all (by decide +kernel) (pa_cons (pe_lock (pe_lc (own := [("_law_key", 5)]) (g := gName 5) (tt := tYes) (te := tCall (spExact n) [] E0 (tCons (tDGet (tVar 0) (tVar 5)) (tCons (tDGet (tVar 1) (tVar 5)) tNil))) rfl scEx.nd (pi_keys (pv 0))
             (blkOk_by (N := ["_law_mine", "_law_theirs", "_law_alike", "_law_a", "_law_b", "_law_key"]) (sc := defScope sExact) (by decide +kernel)) (fun _ _ _ _ _ => pg_name (i := 5) scEx.nd rfl (Or.inl rfl)) (fun _ _ _ _ _ => pts_nil)
             (fun _ _ _ _ _ => pe_cal CE (hr.mono (by omega)) rfl (pa_cons (pe_dget hu (pv 0) (pv 5) (fun _ _ => rfl)) (pa_cons (pe_dget hu (pv 1) (pv 5) (fun _ _ => rfl)) pa_nil))))) pa_nil))))))) pss_nil)
         pss_never), ?_⟩
       rcases hx with ⟨a, b, xs, ys, rfl, rfl, ha, hb, l0, hp⟩ | ⟨a, b, xs, ys, rfl, rfl, ha, hb, l0, hp⟩ | ⟨h1n, a, b, ks, ls, ss, rfl, rfl, ha, hb, e1, e2, nd, l0, hp⟩
       · refine ⟨_, rfl, by show 2 ≤ sizeLine; decide, fun T1 hT1 => ?_⟩
         have ha1 := Same.new (o := .tup [.ty "list", .ty "tuple"]) hT1 _ _ ha
         have hb1 := Same.new (o := .tup [.ty "list", .ty "tuple"]) hT1 _ _ hb
         have hp1 := paired_imp (fun _ _ => EqX.same n (Same.new (o := .tup [.ty "list", .ty "tuple"]) hT1)) hp
         have s1 := Same.new (o := .tup [.ty "list", .ty "tuple"]) hT1
         refine ⟨.ref a, T1, [.ty "list", .ty "tuple"], .type "list", [.type "list", .type "tuple"], true, rfl, upd_same, .cons (.ty _) (.cons (.ty _) .nil), .base (.lst (by assumption)), kitTwo (b1 := true) (b2 := false) (by decide +kernel) (by decide +kernel), _, rfl, iteT ?_⟩
         generalize L2.upd H T1 (.tup [.ty "list", .ty "tuple"]) = H1 at ha1 hb1 hp1 s1
         refine ⟨_, rfl, _, .ty "list", .type "list", .type "list", true, rfl, .ty _, .base (.lst (by assumption)), kit_ty (by decide +kernel), _, rfl, _, .ty "list", .type "list", .type "list", true, rfl, .ty _, .base (.lst (by assumption)), kit_ty (by decide +kernel), rfl, _, rfl, ?_⟩
         refine iteT ⟨_, rfl, _, .ty "tuple", .type "list", .type "tuple", false, rfl, .ty _, .base (.lst (by assumption)), kit_ty (by decide +kernel), _, rfl, _, .ty "tuple", .type "list", .type "tuple", false, rfl, .ty _, .base (.lst (by assumption)), kit_ty (by decide +kernel), rfl, ?_⟩
         refine ⟨_, rfl, _, rfl, iteT ⟨_, rfl, a, xs, rfl, .inl (SqL.of ha1), _, rfl, b, ys, rfl, .inl (SqL.of hb1), rfl, _, rfl, ?_⟩⟩
         have le := paired_len hp
         rw [le, decide_eq_true rfl]
         refine iteT ⟨_, rfl, _, rfl, a, b, xs, ys, rfl, .inl ⟨SqL.of ha1, SqL.of hb1, fun D hD => ?_⟩⟩
         refine lc_it (walk_zip (K := K) (a := a) (b := b) (xs := xs) (ys := ys) (n := xs.length) (by omega)) (fun i H' => Same H1 H' ∧ H' D = some (.lst ((List.replicate i true).map V.bl))) ⟨Same.new hD, upd_same⟩ (fun i H' _ z => ⟨SqL.of (z.1 _ _ ha1), SqL.of (z.1 _ _ hb1)⟩) ?_ ?_
         · rintro i v H2 H3 hi ⟨sm, hl⟩ ⟨T2, x, y, rfl, hT2, rfl, ex, ey⟩
           have exy := paired_at hp1 ex ey
           have nDT : D ≠ T2 := ne_of_none hl hT2
           refine ⟨T2, _, rfl, SqT.of upd_same, rfl, _, _, rfl, _, _, rfl, rfl, rfl, ?_⟩
           dsimp only [tYes]
           rw [if_pos rfl]
           refine ⟨_, rfl, _, rfl, x, y, rfl, EqX.same n (fun c u e => Same.new hT2 _ _ (sm _ _ e)) exy, fun H4 s4 => ?_⟩
           refine ⟨_, s4 _ _ (by rw [upd_ne nDT]; exact hl), by rw [List.length_map, List.length_replicate, sizeLine_eq]; omega, fun c u e => ?_, by rw [upd_same, repl_snoc]⟩
           rw [upd_ne (ne_of_none e hD)]; exact s4 _ _ (Same.new hT2 _ _ (sm _ _ e))
         · rintro H2 ⟨sm, hl⟩
           refine ⟨D, _, rfl, SqL.of hl, ?_⟩
           rw [all_true]
           exact k H2 (Same.trans s1 sm)
       · refine ⟨_, rfl, by show 2 ≤ sizeLine; decide, fun T1 hT1 => ?_⟩
         have ha1 := Same.new (o := .tup [.ty "list", .ty "tuple"]) hT1 _ _ ha
         have hb1 := Same.new (o := .tup [.ty "list", .ty "tuple"]) hT1 _ _ hb
         have hp1 := paired_imp (fun _ _ => EqX.same n (Same.new (o := .tup [.ty "list", .ty "tuple"]) hT1)) hp
         have s1 := Same.new (o := .tup [.ty "list", .ty "tuple"]) hT1
         refine ⟨.ref a, T1, [.ty "list", .ty "tuple"], .type "tuple", [.type "list", .type "tuple"], true, rfl, upd_same, .cons (.ty _) (.cons (.ty _) .nil), .base (.tup (by assumption)), kitTwo (b1 := false) (b2 := true) (by decide +kernel) (by decide +kernel), _, rfl, iteT ?_⟩
         generalize L2.upd H T1 (.tup [.ty "list", .ty "tuple"]) = H1 at ha1 hb1 hp1 s1
         refine ⟨_, rfl, _, .ty "list", .type "tuple", .type "list", false, rfl, .ty _, .base (.tup (by assumption)), kit_ty (by decide +kernel), _, rfl, _, .ty "list", .type "tuple", .type "list", false, rfl, .ty _, .base (.tup (by assumption)), kit_ty (by decide +kernel), rfl, _, rfl, ?_⟩
         refine iteT ⟨_, rfl, _, .ty "tuple", .type "tuple", .type "tuple", true, rfl, .ty _, .base (.tup (by assumption)), kit_ty (by decide +kernel), _, rfl, _, .ty "tuple", .type "tuple", .type "tuple", true, rfl, .ty _, .base (.tup (by assumption)), kit_ty (by decide +kernel), rfl, ?_⟩
         refine ⟨_, rfl, _, rfl, iteT ⟨_, rfl, a, xs, rfl, .inr (SqT.of ha1), _, rfl, b, ys, rfl, .inr (SqT.of hb1), rfl, _, rfl, ?_⟩⟩
         have le := paired_len hp
         rw [le, decide_eq_true rfl]
         refine iteT ⟨_, rfl, _, rfl, a, b, xs, ys, rfl, .inr ⟨SqT.of ha1, SqT.of hb1, fun D hD => ?_⟩⟩
         refine lc_it (walk_zipT (K := K) (a := a) (b := b) (xs := xs) (ys := ys) (n := xs.length) (by omega)) (fun i H' => Same H1 H' ∧ H' D = some (.lst ((List.replicate i true).map V.bl))) ⟨Same.new hD, upd_same⟩ (fun i H' _ z => ⟨SqT.of (z.1 _ _ ha1), SqT.of (z.1 _ _ hb1)⟩) ?_ ?_
         · rintro i v H2 H3 hi ⟨sm, hl⟩ ⟨T2, x, y, rfl, hT2, rfl, ex, ey⟩
           have exy := paired_at hp1 ex ey
           have nDT : D ≠ T2 := ne_of_none hl hT2
           refine ⟨T2, _, rfl, SqT.of upd_same, rfl, _, _, rfl, _, _, rfl, rfl, rfl, ?_⟩
           dsimp only [tYes]
           rw [if_pos rfl]
           refine ⟨_, rfl, _, rfl, x, y, rfl, EqX.same n (fun c u e => Same.new hT2 _ _ (sm _ _ e)) exy, fun H4 s4 => ?_⟩
           refine ⟨_, s4 _ _ (by rw [upd_ne nDT]; exact hl), by rw [List.length_map, List.length_replicate, sizeLine_eq]; omega, fun c u e => ?_, by rw [upd_same, repl_snoc]⟩
           rw [upd_ne (ne_of_none e hD)]; exact s4 _ _ (Same.new hT2 _ _ (sm _ _ e))
         · rintro H2 ⟨sm, hl⟩
           refine ⟨D, _, rfl, SqL.of hl, ?_⟩
           rw [all_true]
           exact k H2 (Same.trans s1 sm)
       · refine ⟨_, rfl, by show 2 ≤ sizeLine; decide, fun T1 hT1 => ?_⟩
         have s1 := Same.new (o := .tup [.ty "list", .ty "tuple"]) hT1
         have ha1 := s1 _ _ ha
         have hb1 := s1 _ _ hb
         have hp1 := paired_imp (fun _ _ => EqX.same n (cut_same s1)) hp
         refine ⟨.ref a, T1, [.ty "list", .ty "tuple"], .type "dict", [.type "list", .type "tuple"], false, rfl, upd_same, .cons (.ty _) (.cons (.ty _) .nil), .base (.dK ha1), kitTwo (b1 := false) (b2 := false) (by decide +kernel) (by decide +kernel), _, rfl, iteF ?_⟩
         generalize L2.upd H T1 (.tup [.ty "list", .ty "tuple"]) = H1 at ha1 hb1 hp1 s1
         refine ⟨_, rfl, _, .ty "dict", .type "dict", .type "dict", true, rfl, .ty _, .base (.dK ha1), kit_ty (by decide +kernel), _, rfl, iteT ?_⟩
         refine ⟨_, rfl, _, .ty "dict", .type "dict", .type "dict", true, rfl, .ty _, .base (.dK hb1), kit_ty (by decide +kernel), _, rfl, iteT ?_⟩
         have eks : ks.map (fun kv => kV kv.1) = ss.map V.str := by
           have : ks.map (fun kv => kV kv.1) = (ks.map (·.1)).map kV := by rw [List.map_map]; rfl
           rw [this, e1, List.map_map]; rfl
         have els : ls.map (fun kv => kV kv.1) = ss.map V.str := by
           have : ls.map (fun kv => kV kv.1) = (ls.map (·.1)).map kV := by rw [List.map_map]; rfl
           rw [this, e2, List.map_map]; rfl
         refine ⟨_, rfl, a, ks, rfl, .inl ha1, fun M1 hM1 => ⟨_, rfl, b, ls, rfl, .inl (Same.new hM1 _ _ hb1), fun M2 hM2 => ?_⟩⟩
         rw [eks, els] at *
         have nM : M1 ≠ M2 := fun e => by rw [← e, upd_same] at hM2; cases hM2
         refine ⟨_, _, rfl, ?_, fun H2 s2 => ?_⟩
         · refine EqX.up (m := 1) (.inr (.inl ⟨M1, M2, ss.map V.str, ss.map V.str, rfl, rfl, by rw [upd_ne nM, upd_same], by rw [upd_same], by rw [List.length_map]; exact l0, ?_⟩)) h1n
           exact paired_imp (fun _ _ z => z) (eqx_strs (n := 0) ss)
         have s12 : Same H1 H2 := fun c u e => s2 _ _ (Same.new hM2 _ _ (Same.new hM1 _ _ e))
         have ha2 := s12 _ _ ha1
         have hb2 := s12 _ _ hb1
         have hp2 := paired_imp (fun _ _ => EqX.same n (cut_same s12)) hp1
         refine ⟨_, rfl, _, rfl, iteT ⟨a, _, ha2, trivial, fun od => ?_⟩⟩
         refine ⟨_, rfl, a, od, rfl, .inl ⟨ks, upd_same, fun D hD => ?_⟩⟩
         have nD : a ≠ D := fun e => by rw [← e, upd_same] at hD; cases hD
         have sL : Same (cut [a] H2) (L2.upd H2 a (.frz od (.dK ks))) := fun c u e => by
           obtain ⟨nc, e⟩ := cut_some e
           rw [upd_ne (by simpa using nc)]; exact e
         have le := paired_len hp
         have lks : ks.length = ss.length := by rw [← List.length_map (·.1), e1, List.length_map]
         refine lc_it (walk_keys (d := a) (o := od) (kvs := ks)) (fun i H' => Same (L2.upd H2 a (.frz od (.dK ks))) H' ∧ H' D = some (.lst ((List.replicate i true).map V.bl))) ⟨Same.new hD, upd_same⟩ (fun i H' _ z => z.1 _ _ upd_same) ?_ ?_
         · rintro i v H3 H4 hi ⟨sm, hl⟩ ⟨rfl, kk, v0, hkv, rfl⟩
           have hli : i < ls.length := by omega
           have hlv := List.getElem?_eq_getElem hli
           have exy := paired_at hp2 hkv hlv
           have ek : (ks.map (·.1))[i]? = some kk := by rw [List.getElem?_map, hkv]; rfl
           have el : (ls.map (·.1))[i]? = some (ls[i].1) := by rw [List.getElem?_map, hlv]; rfl
           rw [e1] at ek
           rw [e2, ek] at el
           have el : kk = ls[i].1 := Option.some.inj el
           have v1 : valV ks kk = some v0 := val_at (by rw [e1]; exact inr_nd' nd) hkv
           have v2 : valV ls kk = some ls[i].2 := val_at (by rw [e2]; exact inr_nd' nd) (by rw [hlv, el])
           have rb : Rd H4 b (.dK ls) := by
             by_cases c : b = a
             · subst c
               rw [ha2] at hb2
               have : ks = ls := by injection hb2 with z; injection z
               rw [← this]
               exact .inr ⟨od, sm _ _ upd_same⟩
             · exact .inl (sm _ _ (by rw [upd_ne c]; exact hb2))
           refine ⟨rfl, ?_⟩
           dsimp only [tYes]
           rw [if_pos rfl]
           refine ⟨_, rfl, _, rfl, a, v0, rfl, .inl ⟨ks, kk, .inr ⟨od, sm _ _ upd_same⟩, rfl, v1.symm⟩, _, rfl, _, rfl, b, _, rfl, .inl ⟨ls, kk, rb, rfl, v2.symm⟩, _, _, rfl, EqX.same n (fun c u e => sm _ _ (sL _ _ e)) exy, fun H5 s5 => ?_⟩
           refine ⟨_, s5 _ _ hl, by rw [List.length_map, List.length_replicate, sizeLine_eq]; omega, fun c u e => ?_, by rw [upd_same, repl_snoc]⟩
           rw [upd_ne (ne_of_none e hD)]; exact s5 _ _ (sm _ _ e)
         · rintro H3 ⟨sm, hl⟩
           refine ⟨sm _ _ upd_same, D, _, rfl, SqL.of (by rw [upd_ne nD.symm]; exact hl), ?_⟩
           rw [all_true]
           exact k _ (Same.trans (Same.trans s1 s12) (Same.unlock ha2 sm))
    exact fnok_or (ih.mono (by omega)) deep fun vs H Q E ⟨x, y, e, h, k⟩ => by
      rcases h with h | h
      · exact .inl ⟨x, y, e, h, k⟩
      · exact .inr ⟨x, y, e, h, k⟩
end
end D1
end L2
/-! == of alike dicts; == of desks; a desk of a world -/
namespace L2
namespace D1
open PySem PySem.Spec PyProof.Rows
theorem tree_up {prog : Program} {w : World} {s : Shared} {n : Nat} {v y : Value} {b : Bool} (t : PySem.W.EqTree prog w s n v y b) : PySem.W.EqTree prog w s (n + 1) v y b := by
  induction t with
  | leaf h => exact .leaf fun A hu => h A (by omega)
  | same => exact .same
  | lists h1 h2 h3 h4 _ ih => exact .lists h1 h2 h3 h4 ih
  | listsLen h1 h2 h3 h4 => exact .listsLen h1 h2 h3 h4
  | tuples h1 h2 h3 _ ih => exact .tuples h1 h2 h3 ih
  | dicts h1 h2 h3 h4 h5 _ ih => exact .dicts h1 h2 h3 h4 h5 ih
/-- the values of two dicts with the same keys, by their keys -/
theorem kv_tree {X : Cx} {s : Shared} {n : Nat} {R : V → V → Prop} {ks ls : List (Key × V)} {va vb : List (Key × Value)} (ra : KV ks va) (rb : KV ls vb) (nd : (ls.map (·.1)).Nodup) (e : ks.map (·.1) = ls.map (·.1))
    (h : Paired (fun p q => R p.2 q.2) ks ls) (f : ∀ x y u v, R x y → RelV x u → RelV y v → PySem.W.EqTree X.prog X.w s n u v true) : ∀ k v y, (k, v) ∈ va → valueAt vb k = some y → PySem.W.EqTree X.prog X.w s n v y true := by
  intro k v y hm hv
  obtain ⟨i, hi, e1⟩ := List.getElem_of_mem hm
  have hva : va[i]? = some (k, v) := by rw [List.getElem?_eq_getElem hi, e1]
  have lk : ks.length = va.length := paired_len ra
  have ll : ks.length = ls.length := paired_len h
  have h1 := List.getElem?_eq_getElem (l := ks) (i := i) (by omega)
  have h2 := List.getElem?_eq_getElem (l := ls) (i := i) (by omega)
  have a1 := paired_at (show Paired _ ks va from ra) h1 hva
  have a2 := paired_at h h1 h2
  have ek : (ks.map (·.1))[i]? = some ks[i].1 := by rw [List.getElem?_map, h1]; rfl
  rw [e, List.getElem?_map, h2] at ek
  have ek : ls[i].1 = ks[i].1 := Option.some.inj ek
  have ek2 : ls[i].1 = k := by rw [ek]; exact a1.1
  have v2 : valV ls k = some ls[i].2 := val_at nd (by rw [h2, ← ek2])
  have r := rb.val k
  rw [v2] at r
  obtain ⟨w', ew, rw'⟩ := RelO.some_of r
  rw [hv] at ew
  cases ew
  exact f _ _ _ _ a2 a1.2 rw'
theorem all_some {ls : List (Key × V)} {va vb : List (Key × Value)} (rb : KV ls vb) (h : ∀ p ∈ va, p.1 ∈ ls.map (·.1)) : (va.all fun p => (valueAt vb p.1).isSome && true) = true := by
  refine List.all_eq_true.mpr fun p hp => ?_
  rw [Bool.and_true, ← RelO.isSome_eq (rb.val p.1), ← valV_any]
  obtain ⟨q, hq, e⟩ := List.mem_map.mp (h p hp)
  exact List.any_eq_true.mpr ⟨q, hq, decide_eq_true e⟩
theorem eqx_tree {X : Cx} {pins : List (Addr × Obj)} {σ : L2.St} {s : Shared} : ∀ (n : Nat) {H : Hp} {x y : V} {u v : Value}, Inv X pins σ H s → EqX n H x y → RelV x u → RelV y v → PySem.W.EqTree X.prog X.w s n u v true
  | 0, H, x, y, u, v, I, h, ru, rv => by
    obtain ⟨lx, e⟩ := h
    subst e
    exact .leaf fun A _ => eqAt_same ru rv (by cases lx <;> rfl)
  | n + 1, H, x, y, u, v, I, h, ru, rv => by
    rcases h with h | ⟨a, b, xs, ys, rfl, rfl, h3, h4, h5, h6⟩ | ⟨a, b, xs, ys, rfl, rfl, h3, h4, h5, h6⟩ | ⟨h0, a, b, ks, ls, ss, rfl, rfl, h3, h4, h5, h6, h7, h8, h9⟩
    · exact tree_up (eqx_tree n I h ru rv)
    · cases ru; cases rv
      by_cases hab : a = b
      · subst hab; exact .same
      obtain ⟨its, r, pl, _⟩ := I.list (SqL.of h3)
      obtain ⟨its2, r2, pl2, _⟩ := I.list (SqL.of h4)
      have l1 := r.length
      have l2 := r2.length
      have l3 := paired_len h6
      have t := PySem.W.EqTree.lists (prog := X.prog) (w := X.w) (n := n) (e := fun _ => true) hab pl.isList pl2.isList (by simp only [List.size_toArray]; omega) fun j h1 h2 => by
        simp only [List.size_toArray] at h1 h2
        have e1 : xs[j]? = some xs[j] := List.getElem?_eq_getElem (by omega)
        have e2 : ys[j]? = some ys[j] := List.getElem?_eq_getElem (by omega)
        obtain ⟨u1, q1, p1⟩ := r.get e1
        obtain ⟨u2, q2, p2⟩ := r2.get e2
        have q1 : its.toArray[j] = u1 := by
          have : its[j]? = some its[j] := List.getElem?_eq_getElem h1
          rw [this] at q1; simpa using Option.some.inj q1
        have q2 : its2.toArray[j] = u2 := by
          have : its2[j]? = some its2[j] := List.getElem?_eq_getElem h2
          rw [this] at q2; simpa using Option.some.inj q2
        rw [q1, q2]
        exact eqx_tree n I (paired_at h6 e1 e2) p1 p2
      have e : (List.range its.toArray.size).all (fun _ => true) = true := by simp
      rwa [e] at t
    · cases ru; cases rv
      by_cases hab : a = b
      · subst hab; exact .same
      obtain ⟨its, r, pl, _⟩ := I.tuple (SqT.of h3)
      obtain ⟨its2, r2, pl2, _⟩ := I.tuple (SqT.of h4)
      have l1 := r.length
      have l2 := r2.length
      have l3 := paired_len h6
      have t := PySem.W.EqTree.tuples (prog := X.prog) (w := X.w) (n := n) (e := fun _ => true) hab pl pl2 fun j h1 h2 => by
        simp only [List.size_toArray] at h1 h2
        have e1 : xs[j]? = some xs[j] := List.getElem?_eq_getElem (by omega)
        have e2 : ys[j]? = some ys[j] := List.getElem?_eq_getElem (by omega)
        obtain ⟨u1, q1, p1⟩ := r.get e1
        obtain ⟨u2, q2, p2⟩ := r2.get e2
        have q1 : its.toArray[j] = u1 := by
          have : its[j]? = some its[j] := List.getElem?_eq_getElem h1
          rw [this] at q1; simpa using Option.some.inj q1
        have q2 : its2.toArray[j] = u2 := by
          have : its2[j]? = some its2[j] := List.getElem?_eq_getElem h2
          rw [this] at q2; simpa using Option.some.inj q2
        rw [q1, q2]
        exact eqx_tree n I (paired_at h6 e1 e2) p1 p2
      have e : ((List.range (min its.toArray.size its2.toArray.size)).all (fun _ => true) && its.toArray.size == its2.toArray.size) = true := by
        simp only [List.size_toArray]
        simp; omega
      rwa [e] at t
    · cases ru; cases rv
      by_cases hab : a = b
      · subst hab; exact .same
      obtain ⟨_, ya, va, ra, da⟩ := (show ObjOk X.prog X.w H s.heap a (.dK ks) from I.hok a _ h3)
      obtain ⟨_, yb, vb, rb, db⟩ := (show ObjOk X.prog X.w H s.heap b (.dK ls) from I.hok b _ h4)
      have ndl : (ls.map (·.1)).Nodup := by rw [h6]; exact inr_nd' h7
      have ekl : ks.map (·.1) = ls.map (·.1) := h5.trans h6.symm
      have t := PySem.W.EqTree.dicts (knd := mixKind X.prog X.w) (n := n) (e := fun _ => true) hab ya yb da db (kv_tree ra rb ndl ekl h9 fun x y u v z r1 r2 => eqx_tree n I (EqX.same n cut_le z) r1 r2)
      have l1 : va.length = vb.length := by rw [← paired_len ra, ← paired_len rb]; exact paired_len h9
      have e : (va.length == vb.length && va.all fun p => (valueAt vb p.1).isSome && true) = true := by
        rw [all_some rb, l1]
        · simp
        · intro p hp
          rw [← ekl, KV.keys ra]
          exact List.mem_map_of_mem hp
      rwa [e] at t
/-- == of two alike dicts -/
theorem op_eqDX {X : Cx} (n : Nat) (hu : X.A.units + (n + 1) < cLine) : OpR X (compareOp .Eq) (fun x y H Q => ∃ (a b : Addr) (ks ls : List (Key × V)) (ss : List Str), x = .ref a ∧ y = .ref b ∧ Rd H a (.dK ks) ∧ Rd H b (.dK ls) ∧ ks.map (·.1) = ss.map Sum.inr ∧ ls.map (·.1) = ss.map Sum.inr ∧ ss.Nodup ∧ Paired (fun p q => EqX n H p.2 q.2) ks ls ∧ Q (.bl true) H) := by
  intro pins s σ H x y v u Q I rx ry h
  obtain ⟨a, b, ks, ls, ss, rfl, rfl, h3, h4, h5, h6, h7, h9, q⟩ := h
  obtain rfl : v = Value.ref a := rx
  obtain rfl : u = Value.ref b := ry
  obtain ⟨_, ya, va, ra, da⟩ := dk_rd I.hok h3
  obtain ⟨_, yb, vb, rb, db⟩ := dk_rd I.hok h4
  have ndl : (ls.map (·.1)).Nodup := by rw [h6]; exact inr_nd' h7
  have ekl : ks.map (·.1) = ls.map (·.1) := h5.trans h6.symm
  have l1 : va.length = vb.length := by rw [← paired_len ra, ← paired_len rb]; exact paired_len h9
  have e : (va.length == vb.length && va.all fun p => (valueAt vb p.1).isSome && true) = true := by
    rw [all_some rb, l1]
    · simp
    · intro p hp
      rw [← ekl, KV.keys ra]
      exact List.mem_map_of_mem hp
  exact PySem.W.eq_dictsT (knd := mixKind X.prog X.w) (n := n) (e := fun _ => true) ya yb da db (kv_tree ra rb ndl ekl h9 fun x y u v z r1 r2 => eqx_tree n I z r1 r2) hu (fin_bl I q e.symm)
abbrev CExact (P : Program) (w : World) (K : PySem.W.Frag) (mg : Str → Option Value) (base : Heap) (n : Nat) := Cal P w K mg base "_law_exact" (n + 1) ["_law_mine", "_law_theirs"] (spExact n)
theorem eqx_rows {H : Hp} : ∀ {ks ls : List (Key × V)} {bk : Bk}, Rows H ks bk → Rows H ls bk → (∀ r ∈ bk, (r.2.2.map (·.1)).Nodup ∧ r.2.2.length ≤ 10000) → Paired (fun p q => EqX 3 H p.2 q.2) ks ls
  | _, _, _, .nil, .nil, _ => .nil
  | _, _, _, .cons (b := r) h1 t1, .cons h2 t2, hb => by
    refine .cons ?_ (eqx_rows t1 t2 fun r hr => hb r (List.mem_cons_of_mem _ hr))
    obtain ⟨_, t, a, e1, g1, g2⟩ := h1
    obtain ⟨_, t', a', e1', g1', g2'⟩ := h2
    rw [e1, e1']
    obtain ⟨nd, ll⟩ := hb r List.mem_cons_self
    refine .inr (.inr (.inl ⟨t, t', _, _, rfl, rfl, g1, g1', by show 2 ≤ 10000; decide, .cons (eqx_str _) (.cons ?_ .nil)⟩))
    have ek : (kT r.2.2).map (·.1) = (r.2.2.map (·.1)).map Sum.inr := by rw [kT, List.map_map, List.map_map]; rfl
    refine .inr (.inr (.inr ⟨Nat.le_refl _, a, a', kT r.2.2, kT r.2.2, r.2.2.map (·.1), rfl, rfl, g2, g2', ek, ek, nd, by rw [List.length_map]; exact ll, ?_⟩))
    have : ∀ l : List (Str × Str), Paired (fun (p q : Key × V) => EqX 1 (cut [a] H) p.2 q.2) (kT l) (kT l) := fun l => by
      induction l with
      | nil => exact .nil
      | cons p l ih => exact .cons (eqx_str p.2) ih
    exact this _
theorem rows_cut {H : Hp} {a : Addr} {ks : List (Key × V)} {bk : Bk} (h1 : H a = some (.dK ks)) (r1 : Rows H ks bk) (ne : bk ≠ []) : ∀ {kv2 : List (Key × V)} {bk2 : Bk}, Rows H kv2 bk2 → Rows (cut [a] H) kv2 bk2 := fun {kv2 bk2} h2 => by
  unfold Rows at h2 ⊢
  induction h2 with
  | nil => exact .nil
  | cons g _ ih =>
    obtain ⟨e, t, a', ev, ht, ha⟩ := g
    have n1 : t ≠ a := fun z => by rw [z, h1] at ht; cases ht
    have n2 : a' ≠ a := book_ne h1 r1 ne ha
    exact .cons ⟨e, t, a', ev, by rw [cut_out (by simpa using n1)]; exact ht, by rw [TurnsAt, cut_out (by simpa using n2)]; exact ha⟩ ih
/-- two books that read alike -/
theorem eqx_book {H : Hp} {a b : Addr} {bk : Bk} (ha : BookAt H a bk) (hb : BookAt H b bk) (ok : BOk bk) (ne : bk ≠ []) : EqX 4 H (.ref a) (.ref b) := by
  obtain ⟨ks, h1, r1⟩ := ha
  obtain ⟨ls, h2, r2⟩ := hb
  have e1 : ks.map (·.1) = (bk.map (·.1)).map Sum.inr := by rw [r1.keys, List.map_map]; rfl
  have e2 : ls.map (·.1) = (bk.map (·.1)).map Sum.inr := by rw [r2.keys, List.map_map]; rfl
  have hrs : ∀ r ∈ bk, (r.2.2.map (·.1)).Nodup ∧ r.2.2.length ≤ 10000 := fun r hr => ⟨(ok.rs r hr).1, by have := (ok.rs r hr).2; omega⟩
  refine .inr (.inr (.inr ⟨by decide, a, b, ks, ls, bk.map (·.1), rfl, rfl, h1, h2, e1, e2, ok.nd, by rw [List.length_map]; have := ok.len; omega, ?_⟩))
  exact eqx_rows (rows_cut h1 r1 ne r1) (rows_cut h1 r1 ne r2) hrs
section
variable {P : Program} {w : World} {K : PySem.W.Frag} {mg : Str → Option Value} {base : Heap} {C : Addr}
/-- two desks that read alike -/
def REq (C : Addr) : Addr → Addr → Hp → Prop := fun q r H => ∃ bk st, DeskAt C H q bk st ∧ DeskAt C H r bk st ∧ DOk bk st
theorem scDe : FnScope ["self", "other"] ["self", "other"] (defScope sDEq) := ⟨rfl, rfl, rfl, by decide +kernel, rfl, by decide +kernel, by decide +kernel⟩
theorem pair_app {α β : Type} {R : α → β → Prop} {xs : List α} {ys : List β} {x : α} {y : β} (h : Paired R xs ys) (e : R x y) : Paired R (xs ++ [x]) (ys ++ [y]) := by
  induction h with
  | nil => exact .cons e .nil
  | cons a _ ih => exact .cons a ih
theorem unl_at {H : Hp} {b p : Addr} {u o : HO} {od : Obj} {xs : List V} (h : H b = some (.frz od u)) (e : H p = some (.tup xs)) : (L2.upd H b o) p = some (.tup xs) := by
  rw [upd_ne fun z => by rw [z, h] at e; cases e]; exact e
theorem merge_id2 {kvs : List (Key × V)} (nd : (kvs.map (·.1)).Nodup) : mergeK [] kvs = kvs := by
  have h : ∀ (more acc : List (Key × V)), (∀ p ∈ more, p.1 ∉ acc.map (·.1)) → (more.map (·.1)).Nodup → mergeK acc more = acc ++ more := by
    intro more
    induction more with
    | nil => intro acc _ _; exact (List.append_nil _).symm
    | cons p r ih =>
      intro acc h nd
      have nd' := List.nodup_cons.mp nd
      show mergeK (putK acc p.1 p.2) r = _
      rw [D1.putK_new (h p List.mem_cons_self), ih _ ?_ nd'.2, List.append_assoc]
      · rfl
      · intro q hq z
        rw [List.map_append] at z
        rcases List.mem_append.mp z with z | z
        · exact h q (List.mem_cons_of_mem _ hq) z
        · have : q.1 = p.1 := List.mem_singleton.mp z
          exact nd'.1 (by show p.1 ∈ _; rw [← this]; exact List.mem_map_of_mem hq)
  rw [h kvs [] (by simp) nd]; rfl
theorem rows_unl {H : Hp} {b : Addr} {u o : HO} {od : Obj} {kvs : List (Key × V)} {bk : Bk} (hb : H b = some (.frz od u)) (h : Rows H kvs bk) : Rows (L2.upd H b o) kvs bk := by
  unfold Rows at h ⊢
  induction h with
  | nil => exact .nil
  | cons h1 _ ih =>
    obtain ⟨e, t, a, ev, ht, ha⟩ := h1
    refine .cons ⟨e, t, a, ev, ?_, ?_⟩ ih
    · rw [upd_ne fun z => by rw [z, hb] at ht; cases ht]; exact ht
    · rw [TurnsAt, upd_ne fun z => by rw [TurnsAt, z, hb] at ha; cases ha]; exact ha
/-- the law's desk of a world -/
abbrev sLDesk : Stmt := top 50
def spLDesk (C : Addr) : Sp := fun vs H Q _ => ∃ (W : Addr) (bk : Bk) (st : Str), vs = [.ref W] ∧ WorldAt H W bk st ∧ DOk bk st ∧ ∀ H' q, Same H H' → H q = none → DeskAt C H' q bk st → Q (.ref q) H'
abbrev CMInit (P : Program) (w : World) (K : PySem.W.Frag) (mg : Str → Option Value) (base : Heap) (C : Addr) : Prop := ∃ f fd, Mk K C f ∧ FnOk P w K mg base CX0 4 f fd ["self", "book", "start"] (spDInit C) ∧ Binds K fd ["self", "book", "start"] []
theorem scLd : FnScope ["_law_world_here", "_law_state"] ["_law_world_here"] (defScope sLDesk) := ⟨rfl, rfl, rfl, by decide +kernel, rfl, by decide +kernel, by decide +kernel⟩
theorem ok_ldesk {f : Addr} {fd : FuncData} (F : Fun K "_law_desk" "_law_desk" sLDesk f fd) (T : Free3 mg) (D : DTxt K mg C) (MI : CMInit P w K mg base C) : FnOk P w K mg base CX0 6 f fd ["_law_world_here"] (spLDesk C) := by
  obtain ⟨fI, fdI, mI, FI, bI⟩ := MI
  refine F.ok scLd (fun vs H Q E h => ?_) (fun cdv A outer s H vs Q E hr h => ?_)
  · obtain ⟨W, bk, st, rfl, _⟩ := h; rfl
  · obtain ⟨W, bk, st, rfl, ⟨b, hW, ⟨kvs, hb, hR⟩⟩, ok, k⟩ := h
    have hu := hu_of hr
    refine ⟨_, pss_one (ps_ret (pe_make mI FI (hr.mono (by decide)) rfl D.mgC bI .nil pass0 (pa_cons (pe_callTy (call_dictP rfl) (by rfl) T.dict (by decide +kernel) (pa_cons (pe_lock (pe_lc (own := [("_law_state", 1)]) (g := gName 1) (tt := tYes)
        (te := tTup (tCons (tVar 1) (tCons (tTup (tCons (tOp (rIxT K) (tDGet (tOp (rIxL K) (tVar 0) (tC (.int 0))) (tVar 1)) (tC (.int 0))) (tCons (tCB (fun xs H Q => ∃ (a : Addr) (kvs : List (Key × V)), xs = [.ref a] ∧ Rd H a (.dK kvs) ∧ ∀ p, H p = none → Q (.ref p) (L2.upd H p (.dK kvs))) (tCons (tOp (rIxT K) (tDGet (tOp (rIxL K) (tVar 0) (tC (.int 0))) (tVar 1)) (tC (.int 1))) tNil)) tNil))) tNil)))
        rfl scLd.nd (pi_keys (pe_ix ix_list (pv 0) pe_int (fun _ _ => rfl)))
        (blkOk_by (N := ["_law_world_here", "_law_state"]) (sc := defScope sLDesk) (by decide +kernel)) (fun _ _ _ _ _ => pg_name (i := 1) scLd.nd rfl (Or.inl rfl)) (fun _ _ _ _ _ => pts_nil)
        (fun _ _ _ _ _ => pe_tup (pa_cons (pv 1) (pa_cons (pe_tup (pa_cons (pe_ix ix_tup (pe_dget hu (pe_ix ix_list (pv 0) pe_int (fun _ _ => rfl)) (pv 1) (fun _ _ => rfl)) pe_int (fun _ _ => rfl)) (pa_cons (pe_callTy call_dictD (by rfl) T.dict (by decide +kernel) (pa_cons (pe_ix ix_tup (pe_dget hu (pe_ix ix_list (pv 0) pe_int (fun _ _ => rfl)) (pv 1) (fun _ _ => rfl)) pe_int (fun _ _ => rfl)) pa_nil)) pa_nil))) pa_nil))))) pa_nil))
        (pa_cons (pe_ix ix_list (pv 0) pe_int (fun _ _ => rfl)) pa_nil)))), ?_⟩
    have a0 : ∀ {H' : Hp}, Same H H' → ∃ xs, xs = ([.ref b, .str st] : List V) ∧ H' W = some (.lst xs) := fun s => ⟨_, rfl, s _ _ hW⟩
    refine ⟨b, _, hb, trivial, fun od => ?_⟩
    have nWb : W ≠ b := fun e => by rw [e, hb] at hW; cases hW
    have hWL : (L2.upd H b (.frz od (.dK kvs))) W = some (.lst [.ref b, .str st]) := by rw [upd_ne nWb]; exact hW
    have hRL := hR.lock (o := .frz od (.dK kvs)) hb ok.ne
    refine ⟨_, rfl, W, _, _, _, rfl, rfl, SqL.of hWL, atI_nat (j := 0) rfl, b, od, rfl, .inl ⟨kvs, upd_same, fun M hM => ?_⟩⟩
    have nM : b ≠ M := fun e => by rw [← e, upd_same] at hM; cases hM
    have lb := ok.len
    refine lc_it (walk_keys (d := b) (o := od) (kvs := kvs)) (fun i H' => Same (L2.upd H b (.frz od (.dK kvs))) H' ∧ ∃ (ps : List Addr) (kv2 : List (Key × V)), H' M = some (.lst (ps.map V.ref)) ∧ Paired (fun p (kv : Key × V) => (cut [M] H') p = some (.tup [kV kv.1, kv.2])) ps kv2 ∧ Rows (cut [M] H') kv2 (bk.take i)) ⟨Same.new hM, [], [], upd_same, .nil, .nil⟩ (fun i H' _ z => z.1 _ _ upd_same) ?_ ?_
    · rintro i x H2 H3 hi ⟨sm, ps, kv2, hM2, hp, hR2⟩ ⟨rfl, kk, v0, hkv, rfl⟩
      obtain ⟨r, hr', rfl, _⟩ := hR.at hkv
      have hrm : r ∈ bk := List.mem_of_getElem? hr'
      have hs : r.1 ∈ bk.map (·.1) := List.mem_map_of_mem hrm
      obtain ⟨v, ev, ⟨t, a, rfl, ht, ha⟩, _⟩ := (hRL.same sm).look hs
      rw [rowOf_self ok.nd hrm] at ht ha
      have hW3 := SqL.of (K := K) (sm _ _ hWL)
      have hil : i < bk.length := (List.getElem?_eq_some_iff.mp hr').1
      have dg : ∀ {H4 : Hp}, Same H3 H4 → DGet H4 b (V.str r.1) (some (.ref t)) := fun s => .inl ⟨kvs, .inr r.1, .inr ⟨od, s _ _ (sm _ _ upd_same)⟩, rfl, ev.symm⟩
      refine ⟨rfl, ?_⟩
      dsimp only [tYes]
      rw [if_pos rfl]
      refine ⟨_, rfl, _, rfl, W, _, _, _, rfl, rfl, hW3, atI_nat (j := 0) rfl, _, rfl, b, _, rfl, dg (Same.refl _), t, _, _, _, rfl, rfl, SqT.of ht, atI_nat (j := 0) rfl, ?_⟩
      refine ⟨_, rfl, W, _, _, _, rfl, rfl, hW3, atI_nat (j := 0) rfl, _, rfl, b, _, rfl, dg (Same.refl _), t, _, _, _, rfl, rfl, SqT.of ht, atI_nat (j := 1) rfl, a, kT r.2.2, rfl, .inl ha, fun E1 hE1 => ?_⟩
      refine ⟨by show 2 ≤ sizeLine; decide, fun T1 hT1 => ⟨by show 2 ≤ sizeLine; decide, fun T2 hT2 => ?_⟩⟩
      have g1 := Same.new (o := .dK (kT r.2.2)) hE1
      have g2 := Same.new (o := .tup [.str r.2.1, .ref E1]) hT1
      have g3 := Same.new (o := .tup [.str r.1, .ref T1]) hT2
      have g := Same.trans (Same.trans g1 g2) g3
      have nE : E1 ≠ M := fun e => by rw [e, hM2] at hE1; cases hE1
      have nT : T1 ≠ M := fun e => by rw [e, g1 _ _ hM2] at hT1; cases hT1
      have nT2 : T2 ≠ M := fun e => by rw [e, g2 _ _ (g1 _ _ hM2)] at hT2; cases hT2
      have lps : ps.length = kv2.length := paired_len hp
      have lkv : kv2.length = i := by rw [hR2.len, List.length_take]; omega
      refine ⟨_, g _ _ hM2, by rw [List.length_map, lps, lkv, sizeLine_eq]; omega, fun c u e => ?_, ps ++ [T2], kv2 ++ [(.inr r.1, .ref T1)], by rw [upd_same, List.map_append]; rfl, ?_, ?_⟩
      · rw [upd_ne (ne_of_none e hM)]; exact g _ _ (sm _ _ e)
      · rw [cut_upd (by simp)]
        have hp' := paired_imp (R' := fun p (kv : Key × V) => (cut [M] (L2.upd (L2.upd (L2.upd H3 E1 (.dK (kT r.2.2))) T1 (.tup [.str r.2.1, .ref E1])) T2 (.tup [.str r.1, .ref T1]))) p = some (.tup [kV kv.1, kv.2])) (fun p kv e => cut_same g _ _ e) hp
        exact pair_app hp' (by rw [cut_out (by simpa using nT2)]; exact upd_same)
      · rw [cut_upd (by simp), take_succ_get hr']
        refine (hR2.same (cut_same g)).app ⟨T1, E1, rfl, ?_, ?_⟩
        · rw [cut_out (by simpa using nT)]; exact g3 _ _ upd_same
        · rw [TurnsAt, cut_out (by simpa using nE)]; exact g3 _ _ (g2 _ _ upd_same)
    · rintro H2 ⟨sm, ps, kv2, hM2, hp, hR2⟩
      have hl : kvs.length = bk.length := hR.len
      rw [hl, List.take_length] at hR2
      have su := Same.unlock hb sm
      have hp3 : Paired (fun p (kv : Key × V) => SqT K (L2.upd H2 b (.dK kvs)) p [kV kv.1, kv.2]) ps kv2 := paired_imp (fun p kv e => SqT.of (unl_at (sm _ _ upd_same) (cut_le _ _ e))) hp
      refine ⟨sm _ _ upd_same, M, ps, kv2, rfl, SqL.of (by rw [upd_ne nM.symm]; exact hM2), hp3, fun B hB => ?_⟩
      have e1 : kv2.map (·.1) = (bk.map (·.1)).map Sum.inr := by rw [hR2.keys, List.map_map]; rfl
      rw [merge_id2 (by rw [e1]; exact inr_nd' ok.nd)]
      have hR3 : Rows (L2.upd H2 b (.dK kvs)) kv2 bk := rows_unl (sm _ _ upd_same) (hR2.same cut_le)
      have s3 := Same.new (o := .dK kv2) hB
      refine ⟨_, rfl, W, _, _, _, rfl, rfl, SqL.of (s3 _ _ (su _ _ hW)), atI_nat (j := 1) rfl, fun q dx hq hdx ndx => ?_⟩
      have s4 : Same H (L2.upd (L2.upd (L2.upd (L2.upd H2 b (.dK kvs)) B (.dK kv2)) dx (.own q)) q (.ins C dx [])) := fun c u e => by
        have e3 := s3 _ _ (su _ _ e)
        rw [upd_ne (ne_of_none e3 hq), upd_ne (ne_of_none e3 hdx)]; exact e3
      have hq0 : H q = none := (Same.trans su s3).free hq
      refine ⟨q, dx, B, bk, st, rfl, upd_same, ⟨kv2, ?_, ?_⟩, ok, fun H5 b5 hd _ => ⟨rfl, k H5 q (fun c u e => ?_) hq0 hd⟩⟩
      · have z := upd_same (H := L2.upd H2 b (.dK kvs)) (a := B) (o := .dK kv2)
        rw [upd_ne (ne_of_none z hq), upd_ne (ne_of_none z hdx)]; exact z
      · refine (hR3.same s3).same fun c u e => ?_
        rw [upd_ne (ne_of_none e hq), upd_ne (ne_of_none e hdx)]; exact e
      · exact b5 _ _ (ne_of_none e hq0) (s4 _ _ e)
end
end D1
end L2
/-! == and != of desks, also of such as start elsewhere -/
namespace L2
namespace D2
open PySem PySem.Spec PyProof.Rows D1
/-- an own == that tells r -/
def spEqB (R : Addr → Addr → Bool → Hp → Prop) : Sp := fun vs H Q _ => ∃ a b r, vs = [.ref a, .ref b] ∧ R a b r H ∧ Q (.bl r) H
/-- every object of the class has this ==, and no own != -/
structure NeF (K : PySem.W.Frag) (C f : Addr) : Prop where
  ne : ∀ (h : Heap) (x : Addr) (o : Obj), K.In h → h.get? x = some o → o.cls = .ref C → h.OwnEqNoNe x C f "object" [.type "object"]
def rEqB (C : Addr) (R : Addr → Addr → Bool → Hp → Prop) (w : Bool → Bool) : R2 := fun x y H Q => ∃ a b dx dy fs gs r, x = .ref a ∧ y = .ref b ∧ H a = some (.ins C dx fs) ∧ H b = some (.ins C dy gs) ∧ R a b r H ∧ Q (.bl (w r)) H
section
variable {X : Cx} {n : Nat}
theorem call_eqB {CX : CXT} {f : Addr} {fd : FuncData} {ps : List PySem.Str} {R : Addr → Addr → Bool → Hp → Prop} {E : XK} (F : FnOk X.prog X.w X.K X.mg X.base CX n f fd ps (spEqB R)) (hb : Binds X.K fd ps []) (hx : Passes CX X E)
    {A : Around} (rm : Room n A) (fr : A.frames = X.A.frames) {pins : List (Addr × Obj)} {σ : L2.St} {H : Hp} {s : Shared} (I : Inv X pins σ H s) {a b : Addr} {r : Bool} (hr : R a b r H) :
    wpAny (model X.prog X.w) A (call (.ref f) [.ref a, .ref b]) (fun v s' => v = .bool r ∧ Inv X pins σ H s') X.xe s := by
  have hsp : spEqB R [.ref a, .ref b] H (fun v H' => v = .bl r ∧ H' = H) E := ⟨a, b, r, rfl, hr, rfl, rfl⟩
  have e0 : Env0 X.prog X.w X.K X.mg X.base A X.stack s H := by
    have e := I.env0
    exact ⟨by rw [fr]; exact e.frames, e.mod, e.bs, e.bsz, e.funs, e.frf, e.hok, e.bare⟩
  have hl := F.len _ _ _ _ hsp
  have bn := hb s [.ref a, .ref b] I.kIn (by simpa using hl)
  refine wpAny_call (codeAny_mono (F.run A X.stack s H ⟨[.ref a, .ref b], []⟩ [.ref a, .ref b] [.ref a, .ref b] _ E rm e0 (by simpa using bn) (.cons rfl (.cons rfl .nil)) hsp) fun r' s' hq => ?_)
  match r' with
  | .error e => exact hx pins σ H s e s' I hq
  | .ok (.ret w) =>
    obtain ⟨z, H', I', rz, ez, ex⟩ := I.after hq
    subst ez ex
    cases rz
    exact ⟨rfl, I'⟩
  | .ok .next => exact False.elim hq
  | .ok .brk => exact False.elim hq
  | .ok .cont => exact False.elim hq
theorem op_eqB {CX : CXT} {C f : Addr} {fd : FuncData} {ps : List PySem.Str} {R : Addr → Addr → Bool → Hp → Prop} {E : XK} (F : FnOk X.prog X.w X.K X.mg X.base CX n f fd ps (spEqB R)) (hb : Binds X.K fd ps []) (hx : Passes CX X E)
    (hs : PySem.W.findIn X.K (.ref C) "__eq__" = some (some (.ref f))) (hf : PySem.W.isFn X.K (.ref f) = true) (rm : Room n X.A) : OpR X (compareOp .Eq) (rEqB C R id) := by
  intro pins s σ H x y v u Q I rx ry hq
  obtain ⟨a, b, dx, dy, fs, gs, r, rfl, rfl, ha, hb', hr, q⟩ := hq
  obtain rfl : v = Value.ref a := rx
  obtain rfl : u = Value.ref b := ry
  obtain ⟨mA, J, _⟩ := ins_get I.hok ha
  obtain ⟨mB, J', _⟩ := ins_get I.hok hb'
  obtain ⟨od, J, _⟩ := J.look
  obtain ⟨od', J', _⟩ := J'.look
  obtain ⟨m, hF⟩ := I.fr
  show wpAny (model X.prog X.w) X.A (richCompare .Eq (.ref a) (.ref b)) (EP X pins σ Q) X.xe s
  refine PySem.W.cmp_K (op := .Eq) (tb := .ref C) rm.units0 hF I.ok.mod.kin J J'.type (by simp [PySem.W.notFirst]) hs hf (wpAny_mono (call_eqB F hb hx rm rfl I hr) (fun v' s' hv => ?_) fun _ _ z => z)
  obtain ⟨rfl, I'⟩ := hv
  exact ⟨.bl r, H, I', rfl, q⟩
theorem op_neB {CX : CXT} {C f : Addr} {fd : FuncData} {ps : List PySem.Str} {R : Addr → Addr → Bool → Hp → Prop} {E : XK} (F : FnOk X.prog X.w X.K X.mg X.base CX n f fd ps (spEqB R)) (hb : Binds X.K fd ps []) (hx : Passes CX X E)
    (N : NeF X.K C f) (rm : Room (n + 1) X.A) : OpR X (compareOp .NotEq) (rEqB C R not) := by
  intro pins s σ H x y v u Q I rx ry hq
  obtain ⟨a, b, dx, dy, fs, gs, r, rfl, rfl, ha, hb', hr, q⟩ := hq
  obtain rfl : v = Value.ref a := rx
  obtain rfl : u = Value.ref b := ry
  obtain ⟨_, _, _, e1, _⟩ := (show ObjOk X.prog X.w H s.heap a (.ins C dx fs) from I.hok a _ ha)
  obtain ⟨_, _, _, e2, _⟩ := (show ObjOk X.prog X.w H s.heap b (.ins C dy gs) from I.hok b _ hb')
  have own := N.ne s.heap a _ I.kIn e1 rfl
  refine compareOp_ne_ownEq PySem.F.cmp_object own e2 rfl ?_ (wpAny_mono (call_eqB (s := s) F hb hx rm.in1 rfl I hr) (fun v' s' hv => ?_) fun _ _ z => z)
  · exact Nat.lt_of_le_of_lt (Nat.add_le_add_left (by decide : 1 ≤ 64) _) rm.units
  · obtain ⟨rfl, I'⟩ := hv
    exact ⟨r, rfl, .bl (!r), H, I', rfl, q⟩
end
end D2
end L2
/-! Desk.__eq__ of desks with the same book -/
namespace L2
namespace D2
open PySem PySem.Spec PyProof.Rows D1
/-- two desks of one book; r: whether they start alike -/
def RD (C : Addr) : Addr → Addr → Bool → Hp → Prop := fun q p r H => ∃ bk bk' st st', DeskAt C H q bk st ∧ DeskAt C H p bk' st' ∧ ordB bk = ordB bk' ∧ DOk bk st ∧ r = decide (st = st')
theorem RD.same {C q p : Addr} {r : Bool} {H H' : Hp} (h : RD C q p r H) (s : Same H H') : RD C q p r H' := by
  obtain ⟨bk, bk', st, st', h1, h2, h3, h4, h5⟩ := h
  exact ⟨bk, bk', st, st', h1.same s, h2.same s, h3, h4, h5⟩
section
variable {P : Program} {w : World} {K : PySem.W.Frag} {mg : Str → Option Value} {base : Heap} {C : Addr}
theorem ok_deqB {f : Addr} {fd : FuncData} (F : Fun K "__eq__" "Desk.__eq__" sDEq f fd) (T : Free3 mg) (D : DTxt K mg C) (c : C8.InsC K C) : FnOk P w K mg base CX0 1 f fd ["self", "other"] (spEqB (RD C)) := by
  refine F.ok scDe (fun vs H Q E h => ?_) (fun cdv A outer s H vs Q E hr h => ?_)
  · obtain ⟨a, b, r, rfl, _⟩ := h; rfl
  · obtain ⟨q, p, r0, rfl, ⟨bk, bk', st, st', ⟨dx, b, hq, hb⟩, ⟨dy, b', hr2, hb'⟩, eo, ok, rfl⟩, k⟩ := h
    rw [← eo] at hb'
    refine ⟨_, pss_one (ps_ret (pe_and (pe_callB (C8.call_isC c) (by rfl) T.isi (by decide +kernel) (pa_cons (pv 1) (pa_cons (pe_glob (v := .ref C) rfl D.mgC rfl) pa_nil))) (pe_and (pe_cmpR (op_eqDX 3 (Nat.lt_of_le_of_lt (Nat.add_le_add_left (by decide : 4 ≤ 64) _) hr.units)) (pe_fld (pv 0) rfl) (pe_fld (pv 1) rfl) (nomark _)) (pe_one (pe_cmpR op_eq (pe_fld (pv 0) rfl) (pe_fld (pv 1) rfl) (nomark _)))))), ?_⟩
    have ob := ok.obok
    obtain ⟨ks, h1, r1⟩ := hb
    obtain ⟨ls, h2, r2⟩ := hb'
    have e1 : ks.map (·.1) = ((ordB bk).map (·.1)).map Sum.inr := by rw [r1.keys, List.map_map]; rfl
    have e2 : ls.map (·.1) = ((ordB bk).map (·.1)).map Sum.inr := by rw [r2.keys, List.map_map]; rfl
    have hrs : ∀ r ∈ ordB bk, (r.2.2.map (·.1)).Nodup ∧ r.2.2.length ≤ 10000 := fun r hr => ⟨(ob.rs r hr).1, by have := (ob.rs r hr).2; omega⟩
    refine ⟨_, rfl, p, dy, _, rfl, hr2, true, rfl, iteT ?_⟩
    refine ⟨_, rfl, q, C, dx, _, _, rfl, hq, D.cl, D.nB, dflds_book _ _, _, rfl, p, C, dy, _, _, rfl, hr2, D.cl, D.nB, dflds_book _ _, ?_⟩
    refine ⟨b, b', ks, ls, _, rfl, rfl, h1, h2, e1, e2, ob.nd, eqx_rows r1 r2 hrs, true, rfl, iteT ?_⟩
    refine ⟨_, rfl, q, C, dx, _, _, rfl, hq, D.cl, D.nS, dflds_start _ _, _, rfl, p, C, dy, _, _, rfl, hr2, D.cl, D.nS, dflds_start _ _, rfl, ?_⟩
    have ed : decide (V.str st = V.str st') = decide (st = st') := by
      by_cases h : st = st'
      · rw [h, decide_eq_true rfl, decide_eq_true rfl]
      · rw [decide_eq_false h, decide_eq_false fun z => h (V.str.inj z)]
    rw [ed]
    exact k
/-- the desk's ==, wherever it is used -/
structure EqD (P : Program) (w : World) (K : PySem.W.Frag) (mg : Str → Option Value) (base : Heap) (C : Addr) : Prop where
  ex : ∃ f fd ps, FnOk P w K mg base CX0 1 f fd ps (spEqB (RD C)) ∧ Binds K fd ps [] ∧ PySem.W.findIn K (.ref C) "__eq__" = some (some (.ref f)) ∧ PySem.W.isFn K (.ref f) = true ∧ NeF K C f
end
section
variable {X : Cx} {C : Addr}
theorem eqD (e : EqD X.prog X.w X.K X.mg X.base C) (rm : Room 1 X.A) : OpR X (compareOp .Eq) (rEqB C (RD C) id) := by
  obtain ⟨f, fd, ps, F, b, hs, hf, _⟩ := e.ex
  exact op_eqB F b pass0 hs hf rm
theorem neD (e : EqD X.prog X.w X.K X.mg X.base C) (rm : Room 2 X.A) : OpR X (compareOp .NotEq) (rEqB C (RD C) not) := by
  obtain ⟨f, fd, ps, F, b, _, _, N⟩ := e.ex
  exact op_neB F b pass0 N rm
/-- the fields of two desks -/
theorem rEqB_of {C q p : Addr} {r : Bool} {H : Hp} {w : Bool → Bool} {Q : VK} (h : RD C q p r H) (k : Q (.bl (w r)) H) : rEqB C (RD C) w (.ref q) (.ref p) H Q := by
  obtain ⟨bk, bk', st, st', ⟨dx, b, h1, _⟩, ⟨dy, b', h2, _⟩, _⟩ := id h
  exact ⟨q, p, dx, dy, _, _, r, rfl, rfl, h1, h2, h, k⟩
end
end D2
end L2
/-! small facts -/
namespace L2
namespace D1
open PySem PySem.Spec PyProof.Rows D2
theorem goalT_at {ts : List (Str × Str)} (nd : (ts.map (·.1)).Nodup) {t : Str × Str} (h : t ∈ ts) : goalT ts t.1 = t.2 := by
  obtain ⟨u, e, e1, hu⟩ := find_some (List.mem_map_of_mem (f := (·.1)) h)
  rw [goalT, e]
  show u.2 = t.2
  obtain ⟨i, hi, ei⟩ := List.getElem_of_mem hu
  obtain ⟨j, hj, ej⟩ := List.getElem_of_mem h
  have a1 : (ts.map (·.1))[i]? = some t.1 := by rw [List.getElem?_map, List.getElem?_eq_getElem hi, ei, ← e1]; rfl
  have a2 : (ts.map (·.1))[j]? = some t.1 := by rw [List.getElem?_map, List.getElem?_eq_getElem hj, ej]; rfl
  have := (List.getElem?_inj (by rw [List.length_map]; omega) nd).mp (a1.trans a2.symm)
  subst this
  rw [← ei, ej]
theorem mem_ordT {ts : List (Str × Str)} (nd : (ts.map (·.1)).Nodup) {t : Str × Str} : t ∈ ordT ts ↔ t ∈ ts := by
  constructor
  · intro h
    obtain ⟨k, hk, rfl⟩ := List.mem_map.mp h
    obtain ⟨u, hu, e⟩ := List.mem_map.mp ((srt_perm _).mem_iff.mp hk)
    rw [← e, goalT_at nd hu]; exact hu
  · intro h
    refine List.mem_map.mpr ⟨t.1, (srt_perm _).mem_iff.mpr (List.mem_map_of_mem h), ?_⟩
    rw [goalT_at nd h]
theorem nd_take {ys : List Str} (nd : ys.Nodup) {i : Nat} {z : Str} (h : ys[i]? = some z) : z ∉ ys.take i := fun hm => by
  obtain ⟨m, hm1, hm2⟩ := List.mem_take_iff_getElem.mp hm
  have h1 : ys[m]? = some z := by rw [List.getElem?_eq_getElem (by omega), hm2]
  have := (List.getElem?_inj (by omega) nd).mp (h1.trans h.symm)
  omega
theorem kT_app (a b : List (Str × Str)) : kT (a ++ b) = kT a ++ kT b := List.map_append
/-- Desk(book, start) -/
theorem make_ok {C : Addr} {H2 : Hp} {B : Addr} {bk : Bk} {st : Str} {Q : VK} {E : XK} (hB : BookAt H2 B bk) (ok : DOk bk st) (k : ∀ H' q, Same H2 H' → H2 q = none → DeskAt C H' q bk st → DeskN C H2 H' q bk st → Q (.ref q) H') (q dx : Addr) (hq : H2 q = none) (hdx : H2 dx = none) :
    spDInit C [.ref q, .ref B, .str st] (L2.upd (L2.upd H2 dx (.own q)) q (.ins C dx [])) (fun v H' => v = .non ∧ Q (.ref q) H') E := by
  have s4 : Same H2 (L2.upd (L2.upd H2 dx (.own q)) q (.ins C dx [])) := fun c u e => by
    rw [upd_ne (ne_of_none e hq), upd_ne (ne_of_none e hdx)]; exact e
  refine ⟨q, dx, B, bk, st, rfl, upd_same, hB.same s4, ok, fun H5 b5 hd ⟨dy, c, e1, h1⟩ => ⟨rfl, k H5 q (fun c u e => ?_) hq hd ⟨dy, c, e1, h1.same (new_mono s4)⟩⟩⟩
  exact b5 _ _ (ne_of_none e hq) (s4 _ _ e)
end D1
end L2
/-! small facts -/
namespace L2
namespace D1
open PySem PySem.Spec PyProof.Rows D2
theorem kT_keys (ts : List (Str × Str)) : (kT ts).map (·.1) = (ts.map (·.1)).map Sum.inr := by rw [kT, List.map_map, List.map_map]; rfl
theorem kT_keys2 (ts : List (Str × Str)) : (kT ts).map (·.1) = (ts.map (·.1)).map Sum.inr := kT_keys ts
end D1
end L2
/-! dict comprehensions whose keys are tuples -/
namespace L2
namespace X5
open PySem PySem.Spec PyProof.Rows
section
variable {X : Cx}
/-- d[(..)] = v within a display or a comprehension -/
theorem put_tup {pins : List (Addr × Obj)} {σ : L2.St} {H : Hp} {s : Shared} {E : Value → Shared → Prop} {D b : Addr} {kvs : List (List Key × V)} {k : List Key} {v : V} {r : Value} {Q : Unit → Shared → Prop} (hu : X.A.units < cLine) (I : Inv X pins σ H s) (hD : H D = some (.dT kvs)) (hz : kvs.length < sizeLine)
    (hb : H b = some (.tup (k.map kV))) (rv : RelV v r) (h : ∀ s', Inv X pins σ (upd H D (.dT (putK kvs k v))) s' → Q () s') : wpAny (model X.prog X.w) X.A (dictSet D (.ref b) r) Q E s := by
  obtain ⟨z, lo, xs, rel, dd⟩ := dt_of I.hok hD
  have l1 : (putK kvs k v).length ≤ sizeLine := Nat.le_trans (length_putK kvs k v) hz
  refine wpAny_dictSet_heap (hsz := by rw [← Paired.length rel]; exact z) (knd := tupleKind (mixKind X.prog X.w)) hu (key_of I.hok hb) dd fun h' dd' sb => h _ ?_
  obtain ⟨q, es, ep, e1, e2, e3, e4, _, e5⟩ := dd'
  refine d_write I (by rw [hD]; exact True.intro) sb ⟨q, e1⟩ ⟨l1, lo, _, (rel.put k hb rv).keeps fun c ys ec => ?_, q, es, ep, e1, e2, e3, e4, e5⟩
  rw [upd_ne (ne_of ec hD fun z => nomatch z)]; exact ec
/-- {(..): v for target in iter if ..}: D the new dict -/
def tDcT (wi : TI) (g : TG) (tt : TT) (tk tv : TE) (vs : List Nat) : TE := fun σ H Q => wi σ H fun J H1 => ∀ D, H1 D = none → ∃ W : Nat → Nat → Hp → Prop, (∃ m, W 0 m (upd H1 D (.dT []))) ∧ ∀ i m H, W i m H →
  (J.stop i H ∧ Q (.ref D) H) ∨ (J.go i H ∧ ∃ Nx : Hp → Prop, (∀ H', Nx H' → ∃ m', m' < m ∧ W (i + 1) m' H') ∧ ∀ x H', J.yld i H x H' → g x (wipe σ vs) H' fun σ2 H2 => wipe σ2 vs = wipe σ vs ∧ tt σ2 H2 fun b H3 =>
    if b = true then tk σ2 H3 fun y H4 => tv σ2 H4 fun z H5 => ∃ kvs k b, y = .ref b ∧ H5 b = some (.tup (k.map kV)) ∧ H5 D = some (.dT kvs) ∧ kvs.length < sizeLine ∧ Nx (upd H5 D (.dT (putK kvs k z))) else Nx H3)
abbrev BlkT (X : Cx) (sc : Scope) (q : Cx → Prop) : Prop := ∀ (s : Shared) (H : Hp) (C : Addr) (cl : List (PySem.Str × Addr)) (fp : List Addr), q (X.blk s H sc (compEnvC sc cl C X.env) fp)
theorem coreT {pins : List (Addr × Obj)} {s : Shared} {σ : L2.St} {H : Hp} {Q : VK} {kx vx tg iter : Expr} {ifs : List Expr} {sc : Scope} {own : List (PySem.Str × Nat)} {ps ps' : Pos} {wi : TI} {g : TG} {tt : TT} {tk tv : TE} {use : Option (Value → Sem Unit)} {Qf : Value → Shared → Prop}
    (hu : X.A.units < cLine) (hc : X.calm = true) (hN : X.N.Nodup) (I : Inv X pins σ H s) (hA : PI X tg iter wi) (ok : BlkOk X.N X.env.scope sc own)
    (hg : BlkT X sc fun X => PG X tg g) (ht : BlkT X sc fun X => PTs X ifs tt) (hk : BlkT X sc fun X => PE X kx tk) (he : BlkT X sc fun X => PE X vx tv)
    (hsA : ∀ x, foldedSetIterable iter X.env x = pure x) (h : tDcT wi g tt tk tv (own.map (·.2)) σ H Q)
    (out : ∀ D C s' m H', Inv X pins σ H' s' → Q (.ref D) H' → s'.heap.Ns C m → FpOk X pins H' C → compPost (model X.prog X.w) X.A X.xe use Qf (.ref D) C (.ok .next) s') :
    wpAny (model X.prog X.w) X.A (comprehension (.DictComp kx vx [⟨tg, iter, ifs, 0⟩] sc ps) sc X.env ps' newDict false (eval iter X.env) use) Qf X.xe s := by
  have fr : ∀ y ∈ sc.names, y.2 = .free → ∃ c, X.env.cells.lookup y.1 = some c := fun y hy e => (ok.free y hy e).elim (fun k => I.ok.has _ (.inl k)) (fun k => I.ok.has _ (.inr k))
  refine wpAny_comprehension_free (use := use) rfl hsA (closure_ok fr) ok.kind (fun y hy e => by rw [ok.uniq y hy, e]) (thn (hA.run pins s σ H _ I h) fun xv s1 hx => thn hx fun itv s2 h2 => ?_)
  obtain ⟨it, fp, tn, J, H2, ev, I2, T, st2, f2, q⟩ := h2
  subst ev
  refine wpAny_newObj_type (newEnv_comp ?_)
  generalize hD : s2.heap.objs.size = D
  obtain ⟨W, ⟨m0, w0⟩, turn⟩ := q D (I2.hok.fresh (Nat.le_of_eq hD))
  generalize hs3 : ({ s2 with heap := s2.heap.push { cls := .type "dict", data := .dict #[] } } : Shared) = s3
  have I3 : Inv X pins σ (upd H2 D (.dT [])) s3 := by
    rw [← hs3]; refine I2.laid (t' := s2.toks) (fun b o e => Heap.get?_push_of_some _ e) (Nat.le_of_eq hD) ?_
    rw [← hD]; exact dt_empty s2.heap I2.big
  have h3 : s3.heap = s2.heap.push { cls := .type "dict", data := .dict #[] } := by rw [← hs3]
  have sz : ∀ b ∈ fp, b < s2.heap.objs.size := fun b hb => let ⟨_, e, _⟩ := T.obj _ _ st2 b hb; Heap.lt_size e
  have f3 : ∀ b ∈ fp, FpOk X pins (upd H2 D (.dT [])) b ∧ b < s3.heap.objs.size := fun b hb =>
    ⟨⟨by rw [upd_ne (by rw [← hD]; exact Nat.ne_of_lt (sz b hb))]; exact (f2 b hb).1, (f2 b hb).2⟩, by rw [h3, Heap.size_push]; exact Nat.lt_succ_of_lt (sz b hb)⟩
  have st3 : tn 0 s3.heap := T.keep _ _ _ st2 fun b _ o e => by rw [h3]; exact Heap.get?_push_of_some _ e
  have I4 := block_start I3 ok hN f3
  generalize hH3 : upd H2 D (.dT []) = H3 at I3 I4 w0 f3
  have pg := hg s3 H3 s3.heap.objs.size (cellsFrom (s3.heap.objs.size + 1) sc.names (cloFrom X.env.cells sc.names [])) fp
  have pt := ht s3 H3 s3.heap.objs.size (cellsFrom (s3.heap.objs.size + 1) sc.names (cloFrom X.env.cells sc.names [])) fp
  have pk := hk s3 H3 s3.heap.objs.size (cellsFrom (s3.heap.objs.size + 1) sc.names (cloFrom X.env.cells sc.names [])) fp
  have pe := he s3 H3 s3.heap.objs.size (cellsFrom (s3.heap.objs.size + 1) sc.names (cloFrom X.env.cells sc.names [])) fp
  show codeAny _ _ (.compStart (.DictComp kx vx [⟨tg, iter, ifs, 0⟩] sc ps) 0 (.ref it) (.ref D) (compEnvC sc (cellsFrom (s3.heap.objs.size + 1) sc.names (cloFrom X.env.cells sc.names [])) s3.heap.objs.size X.env)) (compPost (model X.prog X.w) X.A X.xe use Qf (.ref D) s3.heap.objs.size) { s3 with heap := pushCells (s3.heap.push { cls := .type "dict", data := .dict #[] }) sc.names }
  generalize hce : compEnvC sc (cellsFrom (s3.heap.objs.size + 1) sc.names (cloFrom X.env.cells sc.names [])) s3.heap.objs.size X.env = ce at I4 pg pt pk pe ⊢
  have cL : ce.locals = s3.heap.objs.size := by rw [← hce]; rfl
  generalize hs4 : ({ s3 with heap := pushCells (s3.heap.push { cls := .type "dict", data := .dict #[] }) sc.names } : Shared) = s4 at I4 ⊢
  have st4 : tn 0 s4.heap := T.keep _ _ _ st3 fun b _ o e => by rw [← hs4]; exact pushCells_keeps _ _ _ _ (Heap.get?_push_of_some _ e)
  have stat : ∀ {σ' : L2.St} {H' : Hp} {s' : Shared}, Inv (X.blk s3 H3 sc ce fp) [] σ' H' s' → (∀ b ∈ fp, H' b = none) → ∀ b ∈ fp, FpOk (X.blk s3 H3 sc ce fp) [] H' b := fun I' hn b hb =>
    ⟨hn b hb, (I'.ok.exf b hb).1, I'.ok.exfs b hb, .inl hb, fun x c e => (I'.ok.exf b hb).2 x c e, fun p hp => absurd (show p ∈ ([] : List (Addr × Obj)) ++ [] from hp) (by simp)⟩
  have loop : codeAny (model X.prog X.w) X.A (.compLoop (.DictComp kx vx [⟨tg, iter, ifs, 0⟩] sc ps) 0 (.ref it) (.ref D) ce) (compPost (model X.prog X.w) X.A X.xe use Qf (.ref D) s3.heap.objs.size) s4 := by
    refine compLoop_anyD (fun n s' => ∃ i H', Inv (X.blk s3 H3 sc ce fp) [] (wipe σ (own.map (·.2))) H' s' ∧ tn i s'.heap ∧ (∀ b ∈ fp, H' b = none) ∧ W i n H') ?_ m0 ⟨0, H3, I4, st4, fun b hb => (f3 b hb).1.1, w0⟩
    rintro n s5 ⟨i, H5, I5, st5, n5, w5⟩
    rcases turn i n H5 w5 with ⟨stop, qq⟩ | ⟨go, Nx, hNx, step⟩
    · refine thnF (T.done (X.blk s3 H3 sc ce fp) rfl rfl rfl hc i [] s5 _ H5 (fun _ _ => False) I5 (stat I5 n5) st5 stop) fun r s6 ⟨hr, I6⟩ => ?_
      subst hr
      have I7 : Inv X pins σ H5 s6 := I3.call' (ch := fp) I6.os I6.base I6.hok I6.bare fun b hb => ⟨(f3 b hb).1.2.2.2.1, (f3 b hb).1.2.1, (f3 b hb).1.2.2.2.2.1, (f3 b hb).1.2.2.2.2.2⟩
      have nC : H5 s3.heap.objs.size = none := by have z : H5 ce.locals = none := I6.free; rw [cL] at z; exact z
      obtain ⟨m, hn, _⟩ := I6.loc
      have hn : s6.heap.Ns ce.locals m := hn
      rw [cL] at hn
      exact out D s3.heap.objs.size s6 m H5 I7 qq hn (I3.fpOk (Nat.le_refl _) nC)
    · refine thnF (T.item (X.blk s3 H3 sc ce fp) rfl rfl rfl hc i [] s5 _ H5 (fun _ _ => False) I5 (stat I5 n5) st5 go) fun r s6 ⟨u, hr, h6⟩ => ?_
      subst hr
      refine thnF h6 fun _ s7 ⟨x, H7, I7, r7, y7, st7, n7⟩ => ?_
      refine thnF (pg.run _ s7 _ H7 x u _ (I7.pinned (stat I7 n7) (T.obj _ _ st7)) r7 (step x H7 y7)) fun _ s8 ⟨σ8, H8, I8, hw8, q8⟩ => ?_
      have l8 : (wipe σ (own.map (·.2))).length = σ8.length := by rw [← hw8, wipe_length]
      have fin : ∀ {s' : Shared} {H' : Hp}, Inv (X.blk s3 H3 sc ce fp) ([] ++ pinsAt fp s7.heap) σ8 H' s' → Nx H' → ∃ m, m < n ∧ ∃ i H', Inv (X.blk s3 H3 sc ce fp) [] (wipe σ (own.map (·.2))) H' s' ∧ tn i s'.heap ∧ (∀ b ∈ fp, H' b = none) ∧ W i m H' := fun {s' H'} I' nx => by
        obtain ⟨m', hm, w'⟩ := hNx H' nx
        have pin : ∀ b ∈ fp, ∀ o, s7.heap.get? b = some o → s'.heap.get? b = some o ∧ H' b = none := fun b hb o e => let z := I'.pin (b, o) (List.mem_append_right _ (List.mem_append_right _ (mem_pinsAt hb e))); ⟨z.1, z.2.1⟩
        exact ⟨m', hm, i + 1, H', (I'.unpinned (pins := [])).weak l8 (fun j v e => by rw [← hw8] at e; exact (wipe_some e).1), T.keep _ _ _ st7 fun b hb o e => (pin b hb o e).1, fun b hb => let ⟨o, e, _⟩ := T.obj _ _ st7 b hb; (pin b hb o e).2, w'⟩
      refine thnF (pt.run _ s8 σ8 H8 _ I8 q8) fun b s9 ⟨H9, I9, q9⟩ => ?_
      cases b with
      | false =>
        simp only [Bool.false_eq_true, if_false] at q9 ⊢
        exact fin I9 q9
      | true =>
        simp only [if_true] at q9 ⊢
        refine thnF (pk.run _ s9 σ8 H9 _ I9 q9) fun z s10 ⟨yk, H10, I10, r10, q10⟩ => ?_
        refine thnF (pe.run _ s10 σ8 H10 _ I10 q10) fun z2 s11 ⟨yv, H11, I11, r11, kvs, k, c, ek, hc11, hD11, hz11, nx⟩ => ?_
        subst ek
        cases r10
        exact put_tup (X := X.blk s3 H3 sc ce fp) hu I11 hD11 hz11 hc11 r11 fun s12 I12 => fin I12 nx
  exact codeAny_compStart_dict loop (T.self X.A 0 _ _ _ st4 loop)
theorem pe_dcT {kx vx tg iter : Expr} {ifs : List Expr} {sc : Scope} {own : List (PySem.Str × Nat)} {ps : Pos} {wi : TI} {g : TG} {tt : TT} {tk tv : TE} (hu : X.A.units < cLine) (hc : X.calm = true) (hN : X.N.Nodup) (hA : PI X tg iter wi) (ok : BlkOk X.N X.env.scope sc own)
    (hg : BlkT X sc fun X => PG X tg g) (ht : BlkT X sc fun X => PTs X ifs tt) (hk : BlkT X sc fun X => PE X kx tk) (he : BlkT X sc fun X => PE X vx tv) (hsA : ∀ x, foldedSetIterable iter X.env x = pure x := by intro _; rfl) :
    PE X (.DictComp kx vx [⟨tg, iter, ifs, 0⟩] sc ps) (tDcT wi g tt tk tv (own.map (·.2))) := by
  refine ⟨fun pins s σ H Q I h => ?_⟩
  rw [arm_eval_DictComp]
  refine coreT hu hc hN I hA ok hg ht hk he hsA h fun D C s' m H' I' q hn f => ⟨m, hn, fun h'' sb => ?_⟩
  obtain ⟨f0, f1, f2, f3, f4, f5⟩ := f
  exact ⟨.ref D, H', I'.turned (t' := s'.toks) (fun b o hb e => (sb.2 b hb).trans e) f0 f1 f3 f4 f5, rfl, q⟩
theorem dct_it {J : It} {n : Nat} {G : Hp → Prop} {Y : Nat → Hp → V → Hp → Prop} (w : Walk J n G Y) {g : TG} {tt : TT} {tk tv : TE} {vs : List Nat} {σ : L2.St} {H1 : Hp} {D : Addr} {Qd : Hp → Prop} (Pv : Nat → Hp → Prop) (h0 : Pv 0 (L2.upd H1 D (.dT []))) (hG : ∀ i H, i ≤ n → Pv i H → G H)
    (hs : ∀ i x H H', i < n → Pv i H → Y i H x H' → g x (wipe σ vs) H' fun σ2 H2 => wipe σ2 vs = wipe σ vs ∧ tt σ2 H2 fun b H3 =>
      if b = true then tk σ2 H3 fun y H4 => tv σ2 H4 fun z H5 => ∃ kvs k b, y = .ref b ∧ H5 b = some (.tup (k.map kV)) ∧ H5 D = some (.dT kvs) ∧ kvs.length < sizeLine ∧ Pv (i + 1) (L2.upd H5 D (.dT (putK kvs k z))) else Pv (i + 1) H3) (hd : ∀ H, Pv n H → Qd H) :
    ∃ W : Nat → Nat → Hp → Prop, (∃ m, W 0 m (L2.upd H1 D (.dT []))) ∧ ∀ i m H, W i m H →
      (J.stop i H ∧ Qd H) ∨ (J.go i H ∧ ∃ Nx : Hp → Prop, (∀ H', Nx H' → ∃ m', m' < m ∧ W (i + 1) m' H') ∧ ∀ x H', J.yld i H x H' → g x (wipe σ vs) H' fun σ2 H2 => wipe σ2 vs = wipe σ vs ∧ tt σ2 H2 fun b H3 =>
        if b = true then tk σ2 H3 fun y H4 => tv σ2 H4 fun z H5 => ∃ kvs k b, y = .ref b ∧ H5 b = some (.tup (k.map kV)) ∧ H5 D = some (.dT kvs) ∧ kvs.length < sizeLine ∧ Nx (L2.upd H5 D (.dT (putK kvs k z))) else Nx H3) := by
  refine ⟨fun i m H => m = n - i ∧ i ≤ n ∧ Pv i H, ⟨n, by simp, Nat.zero_le _, h0⟩, ?_⟩
  rintro i m H ⟨rfl, hi, p⟩
  have q := hG i H hi p
  by_cases hlt : i < n
  · exact .inr ⟨w.goes i H hlt q, Pv (i + 1), fun H' p' => ⟨n - (i + 1), by omega, rfl, hlt, p'⟩, fun x H' y => hs i x H H' hlt p (w.yields i H x H' hlt q y)⟩
  · obtain rfl : i = n := by omega
    exact .inl ⟨w.stops H q, hd H p⟩
end
end X5
end L2
/-! name = {(..): v for ..} on one line, the name a local -/
namespace L2
namespace X5
open PySem PySem.Spec PyProof.Rows
section
variable {X : Cx}
theorem ps_setDcT {i : Nat} {y : PySem.Str} {py : Pos} {kx vx tg iter : Expr} {ifs : List Expr} {sc : Scope} {own : List (PySem.Str × Nat)} {ps spos : Pos} {wi : TI} {g : TG} {tt : TT} {tk tv : TE} (hu : X.A.units < cLine) (hc : X.calm = true) (hN : X.N.Nodup) (hy : X.N[i]? = some y) (hyl : X.env.scope.names.lookup y = some .local)
    (hsw : swapsWith (.DictComp kx vx [⟨tg, iter, ifs, 0⟩] sc ps) (some (.Name y py)) spos.line X.env = pure true) (hA : PI X tg iter wi) (ok : BlkOk X.N X.env.scope sc own)
    (hg : BlkT X sc fun X => PG X tg g) (ht : BlkT X sc fun X => PTs X ifs tt) (hk : BlkT X sc fun X => PE X kx tk) (he : BlkT X sc fun X => PE X vx tv) (hsA : ∀ x, foldedSetIterable iter X.env x = pure x := by intro _; rfl) :
    PS X (.Assign [.Name y py] (.DictComp kx vx [⟨tg, iter, ifs, 0⟩] sc ps) spos) (tAsg (tDcT wi g tt tk tv (own.map (·.2))) (gName i)) := by
  refine ⟨fun pins s σ H D I h => ?_⟩
  rw [exec_Assign_Name_used _ _ _ _ hsw]
  refine wpAny_bind (wpAny_standAt (wpAny_bind ?_))
  show wpAny _ X.A (do let _ ← comprehension (.DictComp kx vx [⟨tg, iter, ifs, 0⟩] sc ps) sc X.env (firstIterPos [⟨tg, iter, ifs, 0⟩] ps) newDict false (eval iter X.env) (some (assign (.Name y py) X.env))) _ _ s
  have h : tDcT wi g tt tk tv (own.map (·.2)) σ H (fun x H1 => gName i x σ H1 D.nx) := h
  refine wpAny_bind (thn (coreT (Qf := fun _ s' => SP X pins D .next s') hu hc hN I hA ok hg ht hk he hsA h fun L C s' m H' I' q hn f => ?_) fun _ s' hq => wpAny_pure (wpAny_pure hq))
  show wpAny _ _ (assign (.Name y py) X.env (.ref L)) _ _ _
  refine wpAny_assign_Name (store_ok2 (v := V.ref L) I' hN hy (.inl hyl) rfl (fun s2 I2 ⟨a, sb, ha⟩ => ?_) (.inr hyl))
  obtain ⟨f0, f1, f2, f3, f4, f5⟩ := f
  have haC : C ≠ a := by
    rcases ha with z | z
    · rw [z]; exact f1
    · exact fun e => f4 y a z e.symm
  refine ⟨m, hn.sameBut sb haC, fun h3 sb3 => ?_⟩
  exact ⟨_, H', I2.turned (t' := s2.toks) (fun b o hb e => (sb3.2 b hb).trans e) f0 f1 f3 f4 f5, q⟩
theorem sw_trueD {kx vx : Expr} {gs : List Comprehension} {scope : Scope} {pos py : Pos} {y : PySem.Str} {l : Nat} {env : Env} (hk : env.scope.kind = .function) (hy : env.scope.names.lookup y = some .local) (hl : (py.line == pos.line) = true)
    (ha : (scope.names.any fun (n, k) => n == y && (k == .local || k == .cell)) = false) : swapsWith (.DictComp kx vx gs scope pos) (some (.Name y py)) l env = pure true := by
  have ky : env.kindOf y = some .local := hy
  have hb : env.blockKind = .function := by unfold Env.blockKind; rw [hk]; rfl
  unfold swapsWith
  simp only [hb, ky, ha, Expr.pos, hl]
  rfl
end
end X5
end L2
/-! come_to, trimmed, begun; when two books are kept alike -/
namespace L2
namespace D1
open PySem PySem.Spec PyProof.Rows D2
theorem ordB_eq {bk bk' : Bk} (h1 : (bk.map (·.1)).Perm (bk'.map (·.1))) (h2 : ∀ s ∈ bk.map (·.1), (rowOf bk s).1 = (rowOf bk' s).1 ∧ ordT (rowOf bk s).2 = ordT (rowOf bk' s).2) : ordB bk = ordB bk' := by
  unfold ordB
  rw [← srt_congr h1]
  refine List.map_congr_left fun s hs => ?_
  obtain ⟨a, b⟩ := h2 s ((srt_perm _).mem_iff.mp hs)
  rw [a, b]
theorem DeskAt.congr {C : Addr} {H : Hp} {q : Addr} {bk bk' : Bk} {st : Str} (h : DeskAt C H q bk st) (e : ordB bk = ordB bk') : DeskAt C H q bk' st := by
  obtain ⟨dx, b, h1, h2⟩ := h
  exact ⟨dx, b, h1, e ▸ h2⟩
theorem RForm.ord {k : Str} {ts : List (Str × Str)} (nd : (ts.map (·.1)).Nodup) (h : RForm k ts) : RForm k (ordT ts) := by
  rcases h with ⟨a, b⟩ | ⟨a, b, c, d⟩
  · exact .inl ⟨a, by rw [b]; rfl⟩
  · refine .inr ⟨a, fun e => b ?_, by rw [ordT_len]; exact c, fun t ht => d t ((mem_ordT nd).mp ht)⟩
    have := ordT_len ts
    rw [e] at this
    exact List.length_eq_zero_iff.mp this.symm
theorem DOk.ord {bk : Bk} {st : Str} (h : DOk bk st) : DOk (ordB bk) st := by
  refine ⟨⟨ordB_ne h.ne, h.ond, by rw [ordB_len]; exact h.len, fun r hr => ?_, fun r hr => ?_⟩, fun r hr => ?_, by rw [ordB_names]; exact (srt_perm _).mem_iff.mpr h.st⟩
  · obtain ⟨r0, h0, e1, e2, e3⟩ := mem_ordB h.nd hr
    obtain ⟨a, b, c⟩ := h.rs r0 h0
    rw [e1, e2, e3]
    refine ⟨a, b.ord (h.tk r0 h0), fun t ht => ?_⟩
    rw [ordB_names]
    exact (srt_perm _).mem_iff.mpr (c t ((mem_ordT (h.tk r0 h0)).mp ht))
  · obtain ⟨r0, h0, _, _, e3⟩ := mem_ordB h.nd hr
    rw [e3, ordT_len]; exact h.len2 r0 h0
  · obtain ⟨r0, h0, _, _, e3⟩ := mem_ordB h.nd hr
    rw [e3]; exact ordT_nd (h.tk r0 h0)
end D1
end L2
/-! small facts, more -/
namespace L2
namespace D1
open PySem PySem.Spec PyProof.Rows D2
theorem rd_lock {H : Hp} {a N : Addr} {o u : HO} {od : Obj} (h : Rd H N o) (ha : H a = some u) (hm : ∀ x y, u ≠ .frz x y) : Rd (L2.upd H a (.frz od u)) N o := by
  by_cases e : N = a
  · subst e
    rcases h with h | ⟨od', h⟩
    · rw [ha] at h; cases h
      exact .inr ⟨od, upd_same⟩
    · rw [ha] at h; exact absurd (Option.some.inj h) (hm _ _)
  · rcases h with h | ⟨od', h⟩
    · exact .inl (by rw [upd_ne e]; exact h)
    · exact .inr ⟨od', by rw [upd_ne e]; exact h⟩
theorem eqx_list {H : Hp} {a b : Addr} {ss : List Str} (ha : SL H a ss) (hb : SL H b ss) (l : ss.length ≤ 10000) : EqX 1 H (.ref a) (.ref b) :=
  .inr (.inl ⟨a, b, ss.map V.str, ss.map V.str, rfl, rfl, ha, hb, by rw [List.length_map]; exact l, paired_imp (fun _ _ z => z) (eqx_strs (n := 0) ss)⟩)
theorem eqx_world {H : Hp} {R S : Addr} {bk : Bk} {st : Str} (h : WorldAt H R bk st) (g : WorldAt H S bk st) (ok : BOk bk) (ne : bk ≠ []) : EqX 5 H (.ref R) (.ref S) := by
  obtain ⟨b, e1, h1⟩ := h
  obtain ⟨c, e2, g1⟩ := g
  exact .inr (.inl ⟨R, S, _, _, rfl, rfl, e1, e2, by show 2 ≤ 10000; decide, .cons (eqx_book h1 g1 ok ne) (.cons (eqx_str _) .nil)⟩)
theorem DeskAt.lock {C : Addr} {H : Hp} {q b : Addr} {bk bk' : Bk} {st : Str} {kvs : List (Key × V)} {od : Obj} (h : DeskAt C H q bk st) (hb : H b = some (.dK kvs)) (hR : Rows H kvs bk') (ne : bk' ≠ []) : DeskAt C (L2.upd H b (.frz od (.dK kvs))) q bk st := by
  obtain ⟨dx, c, e, ⟨kv2, e2, r2⟩⟩ := h
  refine ⟨dx, c, by rw [upd_ne fun z => by rw [z, hb] at e; cases e]; exact e, kv2, rd_lock e2 hb (fun _ _ e => by cases e), ?_⟩
  unfold Rows at r2 ⊢
  clear e2 e
  generalize ordB bk = bb at r2
  induction r2 with
  | nil => exact .nil
  | cons h1 _ ih =>
    obtain ⟨e1, t, a, ev, ht, ha⟩ := h1
    refine .cons ⟨e1, t, a, ev, by rw [upd_ne fun z => by rw [z, hb] at ht; cases ht]; exact ht, ?_⟩ ih
    rw [TurnsAt, upd_ne (book_ne hb hR ne ha)]; exact ha
theorem eqx_turns1 {H : Hp} {a b : Addr} {ts : List (Str × Str)} (ha : TurnsAt H a ts) (hb : TurnsAt H b ts) (nd : (ts.map (·.1)).Nodup) (l : ts.length ≤ 10000) : EqX 2 H (.ref a) (.ref b) := by
  have ek : (kT ts).map (·.1) = (ts.map (·.1)).map Sum.inr := by rw [kT, List.map_map, List.map_map]; rfl
  refine .inr (.inr (.inr ⟨Nat.le_refl _, a, b, kT ts, kT ts, ts.map (·.1), rfl, rfl, ha, hb, ek, ek, nd, by rw [List.length_map]; exact l, ?_⟩))
  have : ∀ l : List (Str × Str), Paired (fun (p q : Key × V) => EqX 1 (cut [a] H) p.2 q.2) (kT l) (kT l) := fun l => by
    induction l with
    | nil => exact .nil
    | cons t r ih => exact .cons (eqx_str _) ih
  exact this ts
/-- a list of lists: a kind and turns -/
def Told (H : Hp) (A : Addr) (xs : Bk) : Prop := ∃ as : List Addr, H A = some (.lst (as.map V.ref)) ∧ Paired (fun l (r : RowD) => ∃ a, H l = some (.lst [.str r.2.1, .ref a]) ∧ TurnsAt H a r.2.2) as xs
theorem eqx_told {H : Hp} {A B : Addr} {xs : Bk} (h : Told H A xs) (g : Told H B xs) (l : xs.length ≤ 10000) (tk : ∀ r ∈ xs, (r.2.2.map (·.1)).Nodup ∧ r.2.2.length ≤ 10000) : EqX 4 H (.ref A) (.ref B) := by
  obtain ⟨as, ea, pa⟩ := h
  obtain ⟨bs, eb, pb⟩ := g
  refine .inr (.inl ⟨A, B, _, _, rfl, rfl, ea, eb, by rw [List.length_map, paired_len pa]; exact l, ?_⟩)
  clear ea eb l
  induction pa generalizing bs with
  | nil => cases pb; exact .nil
  | @cons x r as xs h1 _ ih =>
    cases pb with
    | cons g1 pb =>
      refine .cons ?_ (ih (fun r hr => tk r (List.mem_cons_of_mem _ hr)) _ pb)
      obtain ⟨a, e1, e2⟩ := h1
      obtain ⟨a', f1, f2⟩ := g1
      obtain ⟨n1, n2⟩ := tk r List.mem_cons_self
      exact .inr (.inl ⟨_, _, _, _, rfl, rfl, e1, f1, by show 2 ≤ 10000; decide, .cons (eqx_str _) (.cons (eqx_turns1 e2 f2 n1 n2) .nil)⟩)
end D1
end L2
/-! turned -/
namespace L2
namespace D1
open PySem PySem.Spec PyProof.Rows D2
def rKd (K : PySem.W.Frag) (d : Addr) : R2 := fun x y H Q => ∃ (z : Str) (u0 : Value) (v0 : V), x = .ref d ∧ y = .str z ∧ PySem.W.nsIn K d z = some (some u0) ∧ RelV v0 u0 ∧ Q v0 H
/-- D[key], D a dict of the module -/
theorem ix_kd {X : Cx} {d : Addr} {es : Array DictEntry} {n : Nat} (D : KDict X.K X.w d es n) : IxR X (rKd X.K d) := by
  intro e1 e2 pins s σ H x y v u Q I rx ry h hs
  obtain ⟨z, u0, v0, rfl, rfl, e, r, q⟩ := h
  obtain rfl : v = Value.ref d := rx
  obtain ⟨t, rfl⟩ := ry
  exact tail_any (kd_type D I) PySem.F.slot_dict_getitem.lookup (wpAny_getItem_of (PySem.strKind_is X.prog X.w z t) (PySem.W.mapOf_K (prog := X.prog) I.kIn D.at_ D.lit) (PySem.W.find_K D.at_ e) ⟨v0, H, I.tok _, r, q⟩) hs
def flipK (k : Str) : Str := if k = "says" then "hears" else if k = "hears" then "says" else "done"
/-- the module's table of kinds -/
structure TuT (K : PySem.W.Frag) (w : World) (mg : Str → Option Value) : Prop where
  ex : ∃ (d : Addr) (es : Array DictEntry) (n : Nat) (t1 t2 t3 : Tok), mg "TURNED" = some (.ref d) ∧ KDict K w d es n ∧ PySem.W.nsIn K d "says" = some (some (.str "hears" t1)) ∧ PySem.W.nsIn K d "hears" = some (some (.str "says" t2)) ∧ PySem.W.nsIn K d "done" = some (some (.str "done" t3))
def turnB (bk : Bk) : Bk := bk.map fun r => (r.1, flipK r.2.1, r.2.2)
theorem turnB_names (bk : Bk) : (turnB bk).map (·.1) = bk.map (·.1) := by rw [turnB, List.map_map]; rfl
theorem turnB_row {bk : Bk} (nd : (bk.map (·.1)).Nodup) {s : Str} (h : s ∈ bk.map (·.1)) : rowOf (turnB bk) s = (flipK (rowOf bk s).1, (rowOf bk s).2) := by
  have := rowOf_self (bk := turnB bk) (by rw [turnB_names]; exact nd) (r := (s, flipK (rowOf bk s).1, (rowOf bk s).2)) (List.mem_map.mpr ⟨_, row_mem h, rfl⟩)
  exact this
theorem flip_kind {k : Str} {ts : List (Str × Str)} (h : RForm k ts) : k = "says" ∨ k = "hears" ∨ k = "done" := by
  rcases h with ⟨a, _⟩ | ⟨a, _⟩
  · exact .inr (.inr a)
  · exact a.elim .inl fun z => .inr (.inl z)
theorem flip_form {k : Str} {ts : List (Str × Str)} (h : RForm k ts) : RForm (flipK k) ts := by
  rcases h with ⟨a, b⟩ | ⟨a, b⟩
  · subst a; exact .inl ⟨by decide +kernel, b⟩
  · rcases a with a | a
    · subst a; exact .inr ⟨.inr (by decide +kernel), b⟩
    · subst a; exact .inr ⟨.inl (by decide +kernel), b⟩
theorem flip_flip {k : Str} {ts : List (Str × Str)} (h : RForm k ts) : flipK (flipK k) = k := by
  rcases flip_kind h with a | a | a <;> subst a <;> decide +kernel
theorem DOk.turn {bk : Bk} {st : Str} (ok : DOk bk st) : DOk (turnB bk) st := by
  have hr : ∀ r ∈ turnB bk, ∃ r0 ∈ bk, r = (r0.1, flipK r0.2.1, r0.2.2) := fun r h => let ⟨r0, a, b⟩ := List.mem_map.mp h; ⟨r0, a, b.symm⟩
  refine ⟨⟨fun e => ok.ne (List.map_eq_nil_iff.mp e), by rw [turnB_names]; exact ok.nd, by rw [turnB, List.length_map]; exact ok.len, fun r h => ?_, fun r h => ?_⟩, fun r h => ?_, by rw [turnB_names]; exact ok.st⟩
  · obtain ⟨r0, h0, rfl⟩ := hr r h
    obtain ⟨a, b, c⟩ := ok.rs r0 h0
    exact ⟨a, flip_form b, by rw [turnB_names]; exact c⟩
  · obtain ⟨r0, h0, rfl⟩ := hr r h; exact ok.len2 r0 h0
  · obtain ⟨r0, h0, rfl⟩ := hr r h; exact ok.tk r0 h0
theorem ordB_turn {bk : Bk} {st : Str} (ok : DOk bk st) : ordB (turnB (ordB bk)) = ordB (turnB bk) := by
  refine ordB_eq (by rw [turnB_names, turnB_names, ordB_names]; exact srt_perm _) fun s hs => ?_
  rw [turnB_names, ordB_names] at hs
  have hs := (srt_perm _).mem_iff.mp hs
  rw [turnB_row ok.ond (by rw [ordB_names]; exact (srt_perm _).mem_iff.mpr hs), turnB_row ok.nd hs, rowOf_ord ok.nd hs]
  exact ⟨rfl, ordT_ordT _⟩
theorem ordB_turn2 {bk : Bk} {st : Str} (ok : DOk bk st) : ordB (turnB (turnB bk)) = ordB bk := by
  refine ordB_eq (by rw [turnB_names, turnB_names]) fun s hs => ?_
  rw [turnB_names, turnB_names] at hs
  rw [turnB_row (by rw [turnB_names]; exact ok.nd) (by rw [turnB_names]; exact hs), turnB_row ok.nd hs]
  exact ⟨flip_flip (ok.rs _ (row_mem hs)).2.1, rfl⟩
theorem turn_eq {bk bk' : Bk} {st st' : Str} (ok : DOk bk st) (ok' : DOk bk' st') (e : ordB bk = ordB bk') : ordB (turnB bk) = ordB (turnB bk') := by
  rw [← ordB_turn ok, ← ordB_turn ok', e]
def spTurned (C : Addr) : Sp := fun vs H Q _ => ∃ (q : Addr) (bk : Bk) (st : Str), vs = [.ref q] ∧ DeskAt C H q bk st ∧ DOk bk st ∧ ∀ H' R, Same H H' → H R = none → DeskAt C H' R (turnB bk) st → DeskN C H H' R (turnB bk) st → Q (.ref R) H'
section
variable {P : Program} {w : World} {K : PySem.W.Frag} {mg : Str → Option Value} {base : Heap} {C : Addr}
end
end D1
end L2
/-! the law's turned -/
namespace L2
namespace D1
open PySem PySem.Spec PyProof.Rows D2
theorem op_neNil {X : Cx} (hu : X.A.units < cLine) : OpR X (compareOp .NotEq) (fun x y H Q => ∃ (a b : Addr) (ks : List (Key × V)), x = .ref a ∧ y = .ref b ∧ H a = some (.dK ks) ∧ H b = some (.dK []) ∧ Q (.bl (!ks.isEmpty)) H) := by
  intro pins s σ H x y v u Q I rx ry h
  obtain ⟨a, b, ks, rfl, rfl, ea, eb, q⟩ := h
  obtain rfl : v = Value.ref a := rx
  obtain rfl : u = Value.ref b := ry
  obtain ⟨_, ya, va, ra, da⟩ := (show ObjOk X.prog X.w H s.heap a (.dK ks) from I.hok a _ ea)
  obtain ⟨_, yb, vb, rb, db⟩ := (show ObjOk X.prog X.w H s.heap b (.dK []) from I.hok b _ eb)
  cases rb
  refine PySem.W.keq_ne (knd := mixKind X.prog X.w) (r := true) ya yb da db hu (fun e => ?_) (fin_bl I q ?_)
  · obtain rfl := List.length_eq_zero_iff.mp e
    exact .nil
  · cases ra <;> simp
abbrev sLTurned : Stmt := top 51
def spLTurned : Sp := fun vs H Q _ => ∃ (W : Addr) (bk : Bk) (st : Str), vs = [.ref W] ∧ WorldAt H W bk st ∧ DOk bk st ∧ ∀ H' R, Same H H' → H R = none → WorldAt H' R (turnB bk) st → Q (.ref R) H'
def thT : List (Str × Str) := [("says", "hears"), ("hears", "says"), ("done", "done")]
theorem thT_nd : (thT.map (·.1)).Nodup := by decide +kernel
theorem thT_goal {k : Str} {ts : List (Str × Str)} (h : RForm k ts) : valV (kT thT) (.inr k) = some (.str (flipK k)) := by
  rcases flip_kind h with rfl | rfl | rfl
  · rw [valV_goal (by decide +kernel)]; decide +kernel
  · rw [valV_goal (by decide +kernel)]; decide +kernel
  · rw [valV_goal (by decide +kernel)]; decide +kernel
section
variable {P : Program} {w : World} {K : PySem.W.Frag} {mg : Str → Option Value} {base : Heap}
abbrev ltN : List Str := ["_law_world_here", "_law_theirs", "_law_state"]
theorem scLt : FnScope ltN ["_law_world_here"] (defScope sLTurned) := ⟨rfl, rfl, rfl, by decide +kernel, rfl, by decide +kernel, by decide +kernel⟩
theorem ok_lturned {f : Addr} {fd : FuncData} (F : Fun K "_law_turned" "_law_turned" sLTurned f fd) (T : Free3 mg) : FnOk P w K mg base CX0 1 f fd ["_law_world_here"] spLTurned := by
  refine F.ok scLt (fun vs H Q E h => ?_) (fun cdv A outer s H vs Q E hr h => ?_)
  · obtain ⟨W, bk, st, rfl, _⟩ := h; rfl
  · obtain ⟨W, bk, st, rfl, ⟨b, hW, ⟨kvs, hb, hR⟩⟩, ok, k⟩ := h
    have hu := hu_of hr
    refine ⟨_, pss_cons (ps_set (i := 1) scLt.nd rfl (Or.inr rfl) (pe_disp (pps_cons pe_str pe_str (pps_cons pe_str pe_str (pps_cons pe_str pe_str pps_nil))) (by rfl) (by rfl) (fun z => by cases z) (by show 3 ≤ 15; decide)))
      (pss_one (ps_ret (pe_lst (pa_cons (pe_callTy (call_dictP rfl) (by rfl) T.dict (by decide +kernel) (pa_cons (pe_lock (pe_lc (own := [("_law_state", 2)]) (g := gName 2) (tt := tYes)
        (te := tTup (tCons (tVar 2) (tCons (tTup (tCons (tDGet (tVar 1) (tOp (rIxT K) (tDGet (tOp (rIxL K) (tVar 0) (tC (.int 0))) (tVar 2)) (tC (.int 0)))) (tCons (tOp (rIxT K) (tDGet (tOp (rIxL K) (tVar 0) (tC (.int 0))) (tVar 2)) (tC (.int 1))) tNil))) tNil)))
        rfl scLt.nd (pi_keys (pe_ix ix_list (pv 0) pe_int (fun _ _ => rfl)))
        (blkOk_by (N := ltN) (sc := defScope sLTurned) (by decide +kernel)) (fun _ _ _ _ _ => pg_name (i := 2) scLt.nd rfl (Or.inl rfl)) (fun _ _ _ _ _ => pts_nil)
        (fun _ _ _ _ _ => pe_tup (pa_cons (pv 2) (pa_cons (pe_tup (pa_cons (pe_dget hu (pv 1) (pe_ix ix_tup (pe_dget hu (pe_ix ix_list (pv 0) pe_int (fun _ _ => rfl)) (pv 2) (fun _ _ => rfl)) pe_int (fun _ _ => rfl)) (fun _ _ => rfl)) (pa_cons (pe_ix ix_tup (pe_dget hu (pe_ix ix_list (pv 0) pe_int (fun _ _ => rfl)) (pv 2) (fun _ _ => rfl)) pe_int (fun _ _ => rfl)) pa_nil))) pa_nil))))) pa_nil))
        (pa_cons (pe_ix ix_list (pv 0) pe_int (fun _ _ => rfl)) pa_nil))))), ?_⟩
    intro Td hTd
    refine ⟨upd_same, kT thT, rfl, by show 3 ≤ 15; decide, ?_⟩
    rw [merge_id2 (by rw [kT_keys]; exact inr_nd' thT_nd), updd2]
    have g0 := Same.new (o := .dK (kT thT)) hTd
    have eT0 : TurnsAt (L2.upd H Td (.dK (kT thT))) Td thT := upd_same
    have nTb : Td ≠ b := (ne_of_none hb hTd).symm
    generalize L2.upd H Td (.dK (kT thT)) = H0 at g0 eT0
    have hW0 := g0 _ _ hW
    have hb0 := g0 _ _ hb
    have hR0 := hR.same g0
    refine ⟨b, _, hb0, trivial, fun od => ?_⟩
    have nWb : W ≠ b := fun e => by rw [e, hb] at hW; cases hW
    have hWL : (L2.upd H0 b (.frz od (.dK kvs))) W = some (.lst [.ref b, .str st]) := by rw [upd_ne nWb]; exact hW0
    have hTL : TurnsAt (L2.upd H0 b (.frz od (.dK kvs))) Td thT := by rw [TurnsAt, upd_ne nTb]; exact eT0
    have hRL := hR0.lock (o := .frz od (.dK kvs)) hb0 ok.ne
    refine ⟨_, rfl, W, _, _, _, rfl, rfl, SqL.of hWL, atI_nat (j := 0) rfl, b, od, rfl, .inl ⟨kvs, upd_same, fun M hM => ?_⟩⟩
    have nM : b ≠ M := fun e => by rw [← e, upd_same] at hM; cases hM
    have lb := ok.len
    refine lc_it (walk_keys (d := b) (o := od) (kvs := kvs)) (fun i H' => Same (L2.upd H0 b (.frz od (.dK kvs))) H' ∧ ∃ (ps : List Addr) (kv2 : List (Key × V)), H' M = some (.lst (ps.map V.ref)) ∧ Paired (fun p (kv : Key × V) => (cut [M] H') p = some (.tup [kV kv.1, kv.2])) ps kv2 ∧ Rows (cut [M] H') kv2 (turnB (bk.take i))) ⟨Same.new hM, [], [], upd_same, .nil, .nil⟩ (fun i H' _ z => z.1 _ _ upd_same) ?_ ?_
    · rintro i x H2 H3 hi ⟨sm, ps, kv2, hM2, hp, hR2⟩ ⟨rfl, kk, v0, hkv, rfl⟩
      obtain ⟨r, hr', rfl, _⟩ := hR.at hkv
      have hrm : r ∈ bk := List.mem_of_getElem? hr'
      have hs : r.1 ∈ bk.map (·.1) := List.mem_map_of_mem hrm
      obtain ⟨v, ev, ⟨t, a, rfl, ht, ha⟩, _⟩ := (hRL.same sm).look hs
      rw [rowOf_self ok.nd hrm] at ht ha
      have hW3 := SqL.of (K := K) (sm _ _ hWL)
      have hil : i < bk.length := (List.getElem?_eq_some_iff.mp hr').1
      have dg : DGet H3 b (V.str r.1) (some (.ref t)) := .inl ⟨kvs, .inr r.1, .inr ⟨od, sm _ _ upd_same⟩, rfl, ev.symm⟩
      refine ⟨rfl, ?_⟩
      dsimp only [tYes]
      rw [if_pos rfl]
      refine ⟨_, rfl, _, rfl, _, rfl, W, _, _, _, rfl, rfl, hW3, atI_nat (j := 0) rfl, _, rfl, b, _, rfl, dg, t, _, _, _, rfl, rfl, SqT.of ht, atI_nat (j := 0) rfl, Td, _, rfl, .inl ⟨kT thT, .inr r.2.1, .inl (sm _ _ hTL), rfl, (thT_goal (ok.rs r hrm).2.1).symm⟩, ?_⟩
      refine ⟨_, rfl, W, _, _, _, rfl, rfl, hW3, atI_nat (j := 0) rfl, _, rfl, b, _, rfl, dg, t, _, _, _, rfl, rfl, SqT.of ht, atI_nat (j := 1) rfl, ?_⟩
      refine ⟨by show 2 ≤ sizeLine; decide, fun T1 hT1 => ⟨by show 2 ≤ sizeLine; decide, fun T2 hT2 => ?_⟩⟩
      have g2 := Same.new (o := .tup [.str (flipK r.2.1), .ref a]) hT1
      have g3 := Same.new (o := .tup [.str r.1, .ref T1]) hT2
      have g := Same.trans g2 g3
      have nT : T1 ≠ M := fun e => by rw [e, hM2] at hT1; cases hT1
      have nT2 : T2 ≠ M := fun e => by rw [e, g2 _ _ hM2] at hT2; cases hT2
      have naM : a ≠ M := fun e => by rw [TurnsAt, e, hM2] at ha; cases ha
      have lps : ps.length = kv2.length := paired_len hp
      have lkv : kv2.length = i := by rw [hR2.len, turnB, List.length_map, List.length_take]; omega
      refine ⟨_, g _ _ hM2, by rw [List.length_map, lps, lkv, sizeLine_eq]; omega, fun c u e => ?_, ps ++ [T2], kv2 ++ [(.inr r.1, .ref T1)], by rw [upd_same, List.map_append]; rfl, ?_, ?_⟩
      · rw [upd_ne (ne_of_none e hM)]; exact g _ _ (sm _ _ e)
      · rw [cut_upd (by simp)]
        have hp' := paired_imp (fun p (kv : Key × V) (e : (cut [M] H3) p = some (.tup [kV kv.1, kv.2])) => cut_same g _ _ e) hp
        exact pair_app hp' (by rw [cut_out (by simpa using nT2)]; exact upd_same)
      · rw [cut_upd (by simp), take_succ_get hr']
        unfold turnB
        rw [List.map_append]
        refine (hR2.same (cut_same g)).app ⟨T1, a, rfl, ?_, ?_⟩
        · rw [cut_out (by simpa using nT)]; exact g3 _ _ upd_same
        · rw [TurnsAt, cut_out (by simpa using naM)]; exact g _ _ ha
    · rintro H2 ⟨sm, ps, kv2, hM2, hp, hR2⟩
      have hl : kvs.length = bk.length := hR.len
      rw [hl, List.take_length] at hR2
      have su := Same.unlock hb0 sm
      have hp3 : Paired (fun p (kv : Key × V) => SqT K (L2.upd H2 b (.dK kvs)) p [kV kv.1, kv.2]) ps kv2 := paired_imp (fun p kv e => SqT.of (unl_at (sm _ _ upd_same) (cut_le _ _ e))) hp
      refine ⟨sm _ _ upd_same, M, ps, kv2, rfl, SqL.of (by rw [upd_ne nM.symm]; exact hM2), hp3, fun B hB => ?_⟩
      have e1 : kv2.map (·.1) = ((turnB bk).map (·.1)).map Sum.inr := by rw [hR2.keys, List.map_map]; rfl
      rw [merge_id2 (by rw [e1, turnB_names]; exact inr_nd' ok.nd)]
      have hR3 : Rows (L2.upd H2 b (.dK kvs)) kv2 (turnB bk) := rows_unl (sm _ _ upd_same) (hR2.same cut_le)
      have s3 := Same.new (o := .dK kv2) hB
      have eB : (L2.upd (L2.upd H2 b (.dK kvs)) B (.dK kv2)) B = some (.dK kv2) := upd_same
      have hR4 := hR3.same s3
      have s03 := Same.trans (Same.trans g0 su) s3
      generalize L2.upd (L2.upd H2 b (.dK kvs)) B (.dK kv2) = H4 at s03 eB hR4
      refine ⟨_, rfl, W, _, _, _, rfl, rfl, SqL.of (s03 _ _ hW), atI_nat (j := 1) rfl, by show 2 ≤ sizeLine; decide, fun R hRn => ?_⟩
      have s5 := Same.new (o := .lst [.ref B, .str st]) hRn
      exact k _ R (Same.trans s03 s5) (s03.free hRn) ⟨B, upd_same, kv2, s5 _ _ eB, hR4.same s5⟩
end
end D1
end L2
/-! the law's changed_row -/
namespace L2
namespace D1
open PySem PySem.Spec PyProof.Rows D2
abbrev sChRow : Stmt := top 52
def dropT (ts : List (Str × Str)) (k : Str) : List (Str × Str) := ts.filter fun t => decide (t.1 ≠ k)
theorem dropK_kT (ts : List (Str × Str)) (k : Str) : dropK (kT ts) (.inr k) = kT (dropT ts k) := by
  unfold dropK dropT kT
  rw [List.filter_map]
  congr 1
  refine List.filter_congr fun t _ => ?_
  show decide ((Sum.inr t.1 : Key) ≠ Sum.inr k) = decide (t.1 ≠ k)
  by_cases h : t.1 = k
  · rw [h]; simp
  · have : ¬ (Sum.inr t.1 : Key) = Sum.inr k := fun e => h (Sum.inr.inj e)
    simp [h, this]
theorem TOk.drop {ts : List (Str × Str)} {ss ws : List Str} {k : Str} (h : TOk ts ss ws) : TOk (dropT ts k) ss ws :=
  ⟨List.Nodup.sublist (List.filter_sublist.map _) h.nd, fun t ht => h.ks t (List.mem_filter.mp ht).1, fun t ht => h.gs t (List.mem_filter.mp ht).1⟩
theorem dropT_ne {ts : List (Str × Str)} {k : Str} (nd : (ts.map (·.1)).Nodup) (l : 1 < ts.length) : dropT ts k ≠ [] := fun e => by
  have h : ∀ t ∈ ts, t.1 = k := fun t ht => by
    by_cases c : t.1 = k
    · exact c
    · have : t ∈ dropT ts k := List.mem_filter.mpr ⟨ht, decide_eq_true c⟩
      rw [e] at this; cases this
  match ts, l with
  | a :: b :: r, _ =>
    have n := (List.nodup_cons.mp nd).1
    exact n (by show a.1 ∈ _; rw [h a (by simp), ← h b (by simp)]; simp)
def spChRow : Sp := fun vs H Q _ => ∃ (p W S : Addr) (v : V) (k : Str) (ts : List (Str × Str)) (ss ws : List Str) (t : Int), vs = [.ref p, v, .ref W, .ref S] ∧ Purse H p t ∧ RowAt (cut [p] H) v k ts ∧ (k = "says" ∨ k = "hears") ∧ ts ≠ [] ∧ TOk ts ss ws ∧ SL H W ws ∧ SL H S ss ∧ W ≠ p ∧ S ≠ p ∧ WsOk ws ∧ 1 ≤ ss.length ∧ ss.length ≤ 60 ∧ t < 2 ^ 26 ∧
  ∀ (H' : Hp) (R : Addr) (k' : Str) (ts' : List (Str × Str)) (t' : Int), But p H H' → Purse H' p t' → t' ≤ t + 10 → RowAt (newH H H') (.ref R) k' ts' → (k' = "says" ∨ k' = "hears") → ts' ≠ [] → TOk ts' ss ws → Q (.ref R) H'
section
variable {P : Program} {w : World} {K : PySem.W.Frag} {mg : Str → Option Value} {base : Heap}
abbrev crN : List Str := ["_law_purse_here", "_law_row", "_law_words_here", "_law_states", "_law_kind", "_law_turns_here", "_law_way", "_law_word_here"]
theorem scCr : FnScope crN ["_law_purse_here", "_law_row", "_law_words_here", "_law_states"] (defScope sChRow) := ⟨rfl, rfl, rfl, by decide +kernel, rfl, by decide +kernel, by decide +kernel⟩
theorem ok_chrow {f : Addr} {fd : FuncData} (F : Fun K "_law_changed_row" "_law_changed_row" sChRow f fd) (T : Free3 mg) (CD : CDraw P w K mg base) (CO : COne P w K mg base) : FnOk P w K mg base CX0 4 f fd ["_law_purse_here", "_law_row", "_law_words_here", "_law_states"] spChRow := by
  refine F.ok scCr (fun vs H Q E h => ?_) (fun cdv A outer s H vs Q E hr h => ?_)
  · obtain ⟨p, W, S, v, k, ts, ss, ws, t, rfl, _⟩ := h; rfl
  · obtain ⟨p, W, S, v, kd, ts, ss, ws, t, rfl, hp, ⟨tu, a, rfl, htu, ha⟩, kk, tne, tok, hW, hS, nW, nS, wok, s1, s2, t1, k⟩ := h
    have hu := hu_of hr
    refine ⟨_, pss_cons (ps_par (i := 4) (j := 5) rfl scCr.nd rfl rfl (by decide) rfl rfl (pa_cons (pe_ix ix_tup (pv 1) pe_int (fun _ _ => rfl)) (pa_cons (pe_callTy call_dictD (by rfl) T.dict (by decide +kernel) (pa_cons (pe_ix ix_tup (pv 1) pe_int (fun _ _ => rfl)) pa_nil)) pa_nil)) (by rfl))
      (pss_cons (ps_par (i := 6) (j := 7) rfl scCr.nd rfl rfl (by decide) rfl rfl (pa_cons (pe_cal CD (hr.mono (by decide)) rfl (pa_cons (pv 0) (pa_cons pe_int pa_nil))) (pa_cons (pe_cal CO (hr.mono (by decide)) rfl (pa_cons (pv 0) (pa_cons (pv 2) pa_nil))) pa_nil)) (by rfl))
      (pss_cons (ps_if (PW.pt (pw_and (pt_cmpR op_lt (pv 6) pe_int (nomark _)) (pw_and1 (pt_cmpR op_gt (pe_callB call_lenD (by rfl) T.len PySem.boot_len (pa_cons (pv 5) pa_nil)) pe_int (nomark _)))))
          (pss_one (ps_expr (pe_dpop1 (pv 5) (pe_cal CO (hr.mono (by decide)) rfl (pa_cons (pv 0) (pa_cons (pe_callTy (call_listD rfl) (by rfl) T.list (by decide +kernel) (pa_cons (pv 5) pa_nil)) pa_nil))) ⟨rfl, rfl, rfl, rfl⟩)))
          (pss_one (ps_if (PW.pt (pw_and (pt_cmpR op_eq (pv 6) pe_int (nomark _)) (pw_and1 (pt_cmpR op_lt (pe_callB call_lenD (by rfl) T.len PySem.boot_len (pa_cons (pv 5) pa_nil)) pe_int (nomark _)))))
            (pss_one (ps_dput hu (pv 5) (pv 7) (pe_cal CO (hr.mono (by decide)) rfl (pa_cons (pv 0) (pa_cons (pv 3) pa_nil))) rfl))
            (pss_one (ps_if (pt_cmpR op_eq (pv 6) pe_int (nomark _))
              (pss_one (ps_set (i := 4) scCr.nd rfl (Or.inl rfl) (pe_ifExp (pt_cmpR op_eq (pv 4) pe_str (nomark _)) pe_str pe_str)))
              (pss_one (ps_dput hu (pv 5) (pe_cal CO (hr.mono (by decide)) rfl (pa_cons (pv 0) (pa_cons (pe_callTy (call_listD rfl) (by rfl) T.list (by decide +kernel) (pa_cons (pv 5) pa_nil)) pa_nil))) (pe_cal CO (hr.mono (by decide)) rfl (pa_cons (pv 0) (pa_cons (pv 3) pa_nil))) rfl)))))))
      (pss_one (ps_ret (pe_tup (pa_cons (pv 4) (pa_cons (pv 5) pa_nil))))))), ?_⟩
    have htu := cut_le _ _ htu
    have ha : TurnsAt H a ts := cut_le _ _ ha
    have lts := tok.len
    have wl := wok.hi
    have wlo := wok.lo
    refine ⟨_, rfl, tu, _, _, _, rfl, rfl, SqT.of htu, atI_nat (j := 0) rfl, _, rfl, tu, _, _, _, rfl, rfl, SqT.of htu, atI_nat (j := 1) rfl, a, kT ts, rfl, .inl ha, fun D hD => ⟨_, _, rfl, ?_⟩⟩
    have nDp := hp.ne hD
    have b1 : But p H (L2.upd H D (.dK (kT ts))) := But.new hD
    have hD1 : TurnsAt (L2.upd H D (.dK (kT ts))) D ts := upd_same
    have hp1 := hp.new (o := .dK (kT ts)) hD
    generalize L2.upd H D (.dK (kT ts)) = H1 at b1 hD1 hp1
    refine ⟨_, rfl, p, 6, t, rfl, hp1, by decide, by decide, by omega, fun way t2 o2 r0 r1 tt2 hp2 => ?_⟩
    have b2 := b1.trans (But.upd p H1 o2)
    have hD2 : TurnsAt (L2.upd H1 p o2) D ts := by rw [TurnsAt, upd_ne nDp]; exact hD1
    generalize L2.upd H1 p o2 = H2 at b2 hD2 hp2
    have hW2 : SL H2 W ws := b2 _ _ nW hW
    refine ⟨_, rfl, _, rfl, p, W, _, t2, rfl, hp2, hW2, nW, by rw [List.length_map]; omega, by rw [List.length_map]; omega, by omega, fun j3 v3 t3 o3 hj3 tt3 hp3 => ⟨_, _, rfl, ?_⟩⟩
    obtain ⟨w3, hw3, rfl⟩ := get_map hj3
    have hwm := List.mem_of_getElem? hw3
    have b3 := b2.trans (But.upd p H2 o3)
    have hD3 : TurnsAt (L2.upd H2 p o3) D ts := by rw [TurnsAt, upd_ne nDp]; exact hD2
    generalize L2.upd H2 p o3 = H3 at b3 hD3 hp3
    have hS3 : SL H3 S ss := b3 _ _ nS hS
    have kl : (kT ts).length = ts.length := by rw [kT, List.length_map]
    have ek : (kT ts).map (fun kv => kV kv.1) = (ts.map (·.1)).map V.str := by rw [kT, List.map_map, List.map_map]; rfl
    have tpos : 0 < ts.length := List.length_pos_iff.mpr tne
    have fin : ∀ (H5 : Hp) (k' : Str) (ts' : List (Str × Str)) (t5 : Int), But p H H5 → Purse H5 p t5 → t5 ≤ t + 10 → TurnsAt H5 D ts' → (k' = "says" ∨ k' = "hears") → ts' ≠ [] → TOk ts' ss ws → ∀ R, H5 R = none → Q (.ref R) (L2.upd H5 R (.tup [.str k', .ref D])) := fun H5 k' ts' t5 b5 hp5 tt5 hD5 kk' ne' tok' R hR => by
      have nDR : D ≠ R := ne_of_none hD5 hR
      have nRp := hp5.ne hR
      have gR := Same.new (o := .tup [.str k', .ref D]) hR
      refine k _ R k' ts' t5 (b5.newt hR) (hp5.new hR) tt5 ⟨R, D, rfl, ?_, ?_⟩ kk' ne' tok'
      · rw [new_out (b5.fr hR nRp)]; exact upd_same
      · rw [TurnsAt, new_out hD]; exact gR _ _ hD5
    have pick : ∀ (H4 : Hp), TurnsAt H4 D ts → ∀ q, H4 q = none → (L2.upd H4 q (.lst ((ts.map (·.1)).map V.str))) q = some (.lst ((ts.map (·.1)).map V.str)) := fun H4 _ q _ => upd_same
    refine ⟨_, rfl, _, _, rfl, rfl, _, rfl, ite2 (fun c1 => ?_) (fun c1 => ?_)⟩
    · refine ⟨_, rfl, D, kT ts, rfl, hD3, _, _, rfl, rfl, _, rfl, ite2 (fun c2 => ?_) (fun c2 => ?_)⟩
      · refine ⟨_, rfl, D, rfl, .inl ⟨_, .inl hD3⟩, _, rfl, _, rfl, D, _, rfl, .inl hD3, fun q7 hq7 => ?_⟩
        rw [ek]
        refine ⟨p, q7, _, t3, rfl, hp3.new hq7, upd_same, hp3.ne hq7, by rw [List.length_map, List.length_map]; omega, by rw [List.length_map, List.length_map]; omega, by omega, fun j v t8 o8 hj8 tt8 hp8 => ?_⟩
        obtain ⟨k8, hk8, rfl⟩ := get_map hj8
        have hkt : k8 ∈ ts.map (·.1) := List.mem_of_getElem? hk8
        have hkm : k8 ∈ ws := by
          obtain ⟨u, hu, e⟩ := List.mem_map.mp hkt
          rw [← e]; exact tok.ks u hu
        refine ⟨kT ts, Sum.inr k8, _, by rw [upd_ne nDp]; exact hD3.same (Same.new hq7), rfl, valV_goal hkt, ?_⟩
        rw [dropK_kT]
        exact ⟨_, rfl, _, rfl, by show 2 ≤ sizeLine; decide, fin _ kd _ t8 (But.ofL hD ((b3.newt hq7).trans (But.upd p _ o8))) (hp8.upd nDp.symm) (by omega) upd_same kk (dropT_ne tok.nd (by have := of_decide_eq_true c2; rw [kl] at this; omega)) tok.drop⟩
      · refine ⟨_, rfl, rfl, _, rfl, ite2 (fun c3 => ?_) (fun c3 => ?_)⟩
        · refine ⟨_, rfl, D, kT ts, rfl, hD3, _, _, rfl, rfl, _, rfl, ite2 (fun c4 => ?_) (fun c4 => ?_)⟩
          · refine ⟨_, rfl, _, rfl, p, S, _, t3, rfl, hp3, hS3, nS, by rw [List.length_map]; omega, by rw [List.length_map]; omega, by omega, fun j v t4 o4 hj4 tt4 hp4 => ?_⟩
            obtain ⟨g, hg, rfl⟩ := get_map hj4
            have hgm := List.mem_of_getElem? hg
            have b4 := b3.trans (But.upd p H3 o4)
            have hD4 : TurnsAt (L2.upd H3 p o4) D ts := by rw [TurnsAt, upd_ne nDp]; exact hD3
            generalize L2.upd H3 p o4 = H4 at b4 hD4 hp4
            refine ⟨_, rfl, _, rfl, D, _, rfl, DPut.k (kvs := kT ts) (k := Sum.inr w3) hD4 (by rw [kl, sizeLine_eq]; omega), ?_⟩
            rw [putK_kT]
            exact ⟨_, rfl, _, rfl, by show 2 ≤ sizeLine; decide, fin _ kd _ t4 (But.ofL hD b4) (hp4.upd nDp.symm) (by omega) upd_same kk putT_ne (tok.put hwm hgm)⟩
          · refine ⟨_, rfl, rfl, _, rfl, ite2 (fun c5 => ?_) (fun c5 => ?_)⟩
            · refine ⟨_, rfl, rfl, _, rfl, ite2 (fun c6 => ?_) (fun c6 => ?_)⟩
              · exact ⟨_, rfl, _, rfl, by show 2 ≤ sizeLine; decide, fin H3 "says" ts t3 b3 hp3 (by omega) hD3 (.inl rfl) tne tok⟩
              · exact ⟨_, rfl, _, rfl, by show 2 ≤ sizeLine; decide, fin H3 "hears" ts t3 b3 hp3 (by omega) hD3 (.inr rfl) tne tok⟩
            · refine ⟨_, rfl, _, rfl, p, S, _, t3, rfl, hp3, hS3, nS, by rw [List.length_map]; omega, by rw [List.length_map]; omega, by omega, fun j v t4 o4 hj4 tt4 hp4 => ?_⟩
              obtain ⟨g, hg, rfl⟩ := get_map hj4
              have hgm := List.mem_of_getElem? hg
              have b4 := b3.trans (But.upd p H3 o4)
              have hD4 : TurnsAt (L2.upd H3 p o4) D ts := by rw [TurnsAt, upd_ne nDp]; exact hD3
              generalize L2.upd H3 p o4 = H4 at b4 hD4 hp4
              refine ⟨_, rfl, _, rfl, _, rfl, D, _, rfl, .inl hD4, fun q7 hq7 => ?_⟩
              rw [ek]
              refine ⟨p, q7, _, t4, rfl, hp4.new hq7, upd_same, hp4.ne hq7, by rw [List.length_map, List.length_map]; omega, by rw [List.length_map, List.length_map]; omega, by omega, fun j v t8 o8 hj8 tt8 hp8 => ?_⟩
              obtain ⟨k8, hk8, rfl⟩ := get_map hj8
              have hkt : k8 ∈ ts.map (·.1) := List.mem_of_getElem? hk8
              have hkm : k8 ∈ ws := by
                obtain ⟨u, hu, e⟩ := List.mem_map.mp hkt
                rw [← e]; exact tok.ks u hu
              refine ⟨D, _, rfl, DPut.k (kvs := kT ts) (k := Sum.inr k8) (by rw [upd_ne nDp]; exact hD4.same (Same.new hq7)) (by rw [kl, sizeLine_eq]; omega), ?_⟩
              rw [putK_kT]
              exact ⟨_, rfl, _, rfl, by show 2 ≤ sizeLine; decide, fin _ kd _ t8 (But.ofL hD ((b4.newt hq7).trans (But.upd p _ o8))) (hp8.upd nDp.symm) (by omega) upd_same kk putT_ne (tok.put hkm hgm)⟩
        · refine iteF ?_
          refine ⟨_, rfl, rfl, _, rfl, ite2 (fun c5 => ?_) (fun c5 => ?_)⟩
          · refine ⟨_, rfl, rfl, _, rfl, ite2 (fun c6 => ?_) (fun c6 => ?_)⟩
            · exact ⟨_, rfl, _, rfl, by show 2 ≤ sizeLine; decide, fin H3 "says" ts t3 b3 hp3 (by omega) hD3 (.inl rfl) tne tok⟩
            · exact ⟨_, rfl, _, rfl, by show 2 ≤ sizeLine; decide, fin H3 "hears" ts t3 b3 hp3 (by omega) hD3 (.inr rfl) tne tok⟩
          · refine ⟨_, rfl, _, rfl, p, S, _, t3, rfl, hp3, hS3, nS, by rw [List.length_map]; omega, by rw [List.length_map]; omega, by omega, fun j v t4 o4 hj4 tt4 hp4 => ?_⟩
            obtain ⟨g, hg, rfl⟩ := get_map hj4
            have hgm := List.mem_of_getElem? hg
            have b4 := b3.trans (But.upd p H3 o4)
            have hD4 : TurnsAt (L2.upd H3 p o4) D ts := by rw [TurnsAt, upd_ne nDp]; exact hD3
            generalize L2.upd H3 p o4 = H4 at b4 hD4 hp4
            refine ⟨_, rfl, _, rfl, _, rfl, D, _, rfl, .inl hD4, fun q7 hq7 => ?_⟩
            rw [ek]
            refine ⟨p, q7, _, t4, rfl, hp4.new hq7, upd_same, hp4.ne hq7, by rw [List.length_map, List.length_map]; omega, by rw [List.length_map, List.length_map]; omega, by omega, fun j v t8 o8 hj8 tt8 hp8 => ?_⟩
            obtain ⟨k8, hk8, rfl⟩ := get_map hj8
            have hkt : k8 ∈ ts.map (·.1) := List.mem_of_getElem? hk8
            have hkm : k8 ∈ ws := by
              obtain ⟨u, hu, e⟩ := List.mem_map.mp hkt
              rw [← e]; exact tok.ks u hu
            refine ⟨D, _, rfl, DPut.k (kvs := kT ts) (k := Sum.inr k8) (by rw [upd_ne nDp]; exact hD4.same (Same.new hq7)) (by rw [kl, sizeLine_eq]; omega), ?_⟩
            rw [putK_kT]
            exact ⟨_, rfl, _, rfl, by show 2 ≤ sizeLine; decide, fin _ kd _ t8 (But.ofL hD ((b4.newt hq7).trans (But.upd p _ o8))) (hp8.upd nDp.symm) (by omega) upd_same kk putT_ne (tok.put hkm hgm)⟩
    · refine iteF ?_
      refine ⟨_, rfl, rfl, _, rfl, ite2 (fun c3 => ?_) (fun c3 => ?_)⟩
      · refine ⟨_, rfl, D, kT ts, rfl, hD3, _, _, rfl, rfl, _, rfl, ite2 (fun c4 => ?_) (fun c4 => ?_)⟩
        · refine ⟨_, rfl, _, rfl, p, S, _, t3, rfl, hp3, hS3, nS, by rw [List.length_map]; omega, by rw [List.length_map]; omega, by omega, fun j v t4 o4 hj4 tt4 hp4 => ?_⟩
          obtain ⟨g, hg, rfl⟩ := get_map hj4
          have hgm := List.mem_of_getElem? hg
          have b4 := b3.trans (But.upd p H3 o4)
          have hD4 : TurnsAt (L2.upd H3 p o4) D ts := by rw [TurnsAt, upd_ne nDp]; exact hD3
          generalize L2.upd H3 p o4 = H4 at b4 hD4 hp4
          refine ⟨_, rfl, _, rfl, D, _, rfl, DPut.k (kvs := kT ts) (k := Sum.inr w3) hD4 (by rw [kl, sizeLine_eq]; omega), ?_⟩
          rw [putK_kT]
          exact ⟨_, rfl, _, rfl, by show 2 ≤ sizeLine; decide, fin _ kd _ t4 (But.ofL hD b4) (hp4.upd nDp.symm) (by omega) upd_same kk putT_ne (tok.put hwm hgm)⟩
        · refine ⟨_, rfl, rfl, _, rfl, ite2 (fun c5 => ?_) (fun c5 => ?_)⟩
          · refine ⟨_, rfl, rfl, _, rfl, ite2 (fun c6 => ?_) (fun c6 => ?_)⟩
            · exact ⟨_, rfl, _, rfl, by show 2 ≤ sizeLine; decide, fin H3 "says" ts t3 b3 hp3 (by omega) hD3 (.inl rfl) tne tok⟩
            · exact ⟨_, rfl, _, rfl, by show 2 ≤ sizeLine; decide, fin H3 "hears" ts t3 b3 hp3 (by omega) hD3 (.inr rfl) tne tok⟩
          · refine ⟨_, rfl, _, rfl, p, S, _, t3, rfl, hp3, hS3, nS, by rw [List.length_map]; omega, by rw [List.length_map]; omega, by omega, fun j v t4 o4 hj4 tt4 hp4 => ?_⟩
            obtain ⟨g, hg, rfl⟩ := get_map hj4
            have hgm := List.mem_of_getElem? hg
            have b4 := b3.trans (But.upd p H3 o4)
            have hD4 : TurnsAt (L2.upd H3 p o4) D ts := by rw [TurnsAt, upd_ne nDp]; exact hD3
            generalize L2.upd H3 p o4 = H4 at b4 hD4 hp4
            refine ⟨_, rfl, _, rfl, _, rfl, D, _, rfl, .inl hD4, fun q7 hq7 => ?_⟩
            rw [ek]
            refine ⟨p, q7, _, t4, rfl, hp4.new hq7, upd_same, hp4.ne hq7, by rw [List.length_map, List.length_map]; omega, by rw [List.length_map, List.length_map]; omega, by omega, fun j v t8 o8 hj8 tt8 hp8 => ?_⟩
            obtain ⟨k8, hk8, rfl⟩ := get_map hj8
            have hkt : k8 ∈ ts.map (·.1) := List.mem_of_getElem? hk8
            have hkm : k8 ∈ ws := by
              obtain ⟨u, hu, e⟩ := List.mem_map.mp hkt
              rw [← e]; exact tok.ks u hu
            refine ⟨D, _, rfl, DPut.k (kvs := kT ts) (k := Sum.inr k8) (by rw [upd_ne nDp]; exact hD4.same (Same.new hq7)) (by rw [kl, sizeLine_eq]; omega), ?_⟩
            rw [putK_kT]
            exact ⟨_, rfl, _, rfl, by show 2 ≤ sizeLine; decide, fin _ kd _ t8 (But.ofL hD ((b4.newt hq7).trans (But.upd p _ o8))) (hp8.upd nDp.symm) (by omega) upd_same kk putT_ne (tok.put hkm hgm)⟩
      · refine iteF ?_
        refine ⟨_, rfl, rfl, _, rfl, ite2 (fun c5 => ?_) (fun c5 => ?_)⟩
        · refine ⟨_, rfl, rfl, _, rfl, ite2 (fun c6 => ?_) (fun c6 => ?_)⟩
          · exact ⟨_, rfl, _, rfl, by show 2 ≤ sizeLine; decide, fin H3 "says" ts t3 b3 hp3 (by omega) hD3 (.inl rfl) tne tok⟩
          · exact ⟨_, rfl, _, rfl, by show 2 ≤ sizeLine; decide, fin H3 "hears" ts t3 b3 hp3 (by omega) hD3 (.inr rfl) tne tok⟩
        · refine ⟨_, rfl, _, rfl, p, S, _, t3, rfl, hp3, hS3, nS, by rw [List.length_map]; omega, by rw [List.length_map]; omega, by omega, fun j v t4 o4 hj4 tt4 hp4 => ?_⟩
          obtain ⟨g, hg, rfl⟩ := get_map hj4
          have hgm := List.mem_of_getElem? hg
          have b4 := b3.trans (But.upd p H3 o4)
          have hD4 : TurnsAt (L2.upd H3 p o4) D ts := by rw [TurnsAt, upd_ne nDp]; exact hD3
          generalize L2.upd H3 p o4 = H4 at b4 hD4 hp4
          refine ⟨_, rfl, _, rfl, _, rfl, D, _, rfl, .inl hD4, fun q7 hq7 => ?_⟩
          rw [ek]
          refine ⟨p, q7, _, t4, rfl, hp4.new hq7, upd_same, hp4.ne hq7, by rw [List.length_map, List.length_map]; omega, by rw [List.length_map, List.length_map]; omega, by omega, fun j v t8 o8 hj8 tt8 hp8 => ?_⟩
          obtain ⟨k8, hk8, rfl⟩ := get_map hj8
          have hkt : k8 ∈ ts.map (·.1) := List.mem_of_getElem? hk8
          have hkm : k8 ∈ ws := by
            obtain ⟨u, hu, e⟩ := List.mem_map.mp hkt
            rw [← e]; exact tok.ks u hu
          refine ⟨D, _, rfl, DPut.k (kvs := kT ts) (k := Sum.inr k8) (by rw [upd_ne nDp]; exact hD4.same (Same.new hq7)) (by rw [kl, sizeLine_eq]; omega), ?_⟩
          rw [putK_kT]
          exact ⟨_, rfl, _, rfl, by show 2 ≤ sizeLine; decide, fin _ kd _ t8 (But.ofL hD ((b4.newt hq7).trans (But.upd p _ o8))) (hp8.upd nDp.symm) (by omega) upd_same kk putT_ne (tok.put hkm hgm)⟩
end
end D1
end L2
/-! calls by names alone; == of lists of words; what a list that is written leaves -/
namespace L2
namespace D1
open PySem PySem.Spec PyProof.Rows D2
/-- a def that is called by names alone keeps a promise -/
structure CalK (P : Program) (w : World) (K : PySem.W.Frag) (mg : Str → Option Value) (base : Heap) (x : Str) (k : Nat) (ps ks : List Str) (gV : List V → List V) (sp : Sp) : Prop where
  ex : ∃ f fd g, mg x = some (.ref f) ∧ PySem.W.keepIn K (.ref f) = true ∧ FnOk P w K mg base CX0 k f fd ps sp ∧ KBinds K fd ps ks g fun vs zs => vs ++ gV zs
theorem pe_calK {X : Cx} {x : Str} {k : Nat} {ps ks : List Str} {gV : List V → List V} {sp : Sp} {kws : List Keyword} {tk : TA} {p pos : Pos} (C : CalK X.prog X.w X.K X.mg X.base x k ps ks gV sp) (hr : Room k X.A) (hg : Gl X x) (hkw : PK X kws tk)
    (hall : (backToKw pos (keywordEach kws X.env)).all (·.1.isSome) = true := by rfl) (hks : (backToKw pos (keywordEach kws X.env)).filterMap (·.1) = ks := by rfl) (hdb : (x == ("__debug__" : Str)) = false := by decide)
    (hpl : ((backTo pos (starEach [] X.env)).any (·.1) || (backToKw pos (keywordEach kws X.env)).any (·.1.isNone)) = false := by rfl) : PE X (.Call (.Name x p) [] kws pos) (fun σ H Q => tk σ H fun zs H2 => sp (gV zs) H2 Q E0) := by
  obtain ⟨f, fd, g, h1, h2, h3, h4⟩ := C.ex
  refine ⟨fun pins s σ H Q I h => ?_⟩
  refine wpAny_Call_Name_kw (ld_glob I hg h1 ?_ hdb)
  refine PySem.W.callWith_KW0 (h₀ := X.base) I.ok.mod.kin h2 hall (thn (hkw.run pos pins s σ H _ I h) fun ws s2 ⟨zs, H2, I2, rz, q2⟩ => ⟨I2.kIn, ?_⟩) hpl
  rw [hks]
  exact run_fnk (us := []) (vs := []) h3 hr h4 pass0 I2 .nil rz q2
/-! ### == of words' lists -/
def dW (ss : List Str) : PyData := .list (ss.map PyData.str)
def dP (ps : List (Str × Str)) : PyData := .list (ps.map fun p => .tuple [.str p.1, .str p.2])
theorem lay_str {x : Str} (h : Wd x) : PyData.canLay0 (.str x) = true := by
  show (x.cps.all fun c => decide (c < 0x110000)) = true
  rw [← Array.all_toList]
  refine List.all_eq_true.mpr fun c hc => ?_
  have := h.ok c hc
  exact decide_eq_true (by omega)
theorem lay_words : ∀ {ss : List Str}, (∀ x ∈ ss, Wd x) → PyData.canLayAll0 (ss.map PyData.str) = true
  | [], _ => rfl
  | x :: r, h => by
    have a := lay_str (h x (.head _))
    have b := lay_words (ss := r) fun y hy => h y (.tail _ hy)
    show (PyData.canLay0 (.str x) && PyData.canLayAll0 (r.map PyData.str)) = true
    rw [a, b]; rfl
theorem dep_words : ∀ (ss : List Str), PyData.depthAll (ss.map PyData.str) = 0
  | [] => rfl
  | x :: r => by
    show max (PyData.depth (.str x)) (PyData.depthAll (r.map PyData.str)) = 0
    rw [dep_words r]; rfl
theorem sh_words {ss : List Str} (h : ∀ x ∈ ss, Wd x) : SeqAt.shaped (dW ss) = true := by
  show (PyData.canLayAll0 (ss.map PyData.str) && decide (PyData.depthAll (ss.map PyData.str) + 1 ≤ 64)) = true
  rw [lay_words h, dep_words]; rfl
theorem eq_words {ss : List Str} (h : ∀ x ∈ ss, Wd x) : PyData.eqv (dW ss) (dW ss) = true := SeqAt.eqv_refl _ (lay_words h)
theorem dpa_words {K : PySem.W.Frag} {H : Hp} : ∀ ss : List Str, DpAll K H (ss.map V.str) (ss.map PyData.str)
  | [] => .nil
  | x :: r => .cons (.str x) (dpa_words r)
theorem dp_words {K : PySem.W.Frag} {H : Hp} {a : Addr} {ss : List Str} (h : SL H a ss) : Dp K H (.ref a) (dW ss) := .lst h.sq (dpa_words ss)
theorem lay_pairs : ∀ {ps : List (Str × Str)}, (∀ p ∈ ps, Wd p.1 ∧ Wd p.2) → PyData.canLayAll0 (ps.map fun p => .tuple [.str p.1, .str p.2]) = true
  | [], _ => rfl
  | x :: r, h => by
    have a1 := lay_str (h x (.head _)).1
    have a2 := lay_str (h x (.head _)).2
    have b := lay_pairs (ps := r) fun y hy => h y (.tail _ hy)
    show ((PyData.canLay0 (.str x.1) && (PyData.canLay0 (.str x.2) && true)) && PyData.canLayAll0 (r.map fun p => .tuple [.str p.1, .str p.2])) = true
    rw [a1, a2, b]; rfl
theorem dep_pairs : ∀ (ps : List (Str × Str)), PyData.depthAll (ps.map fun p => .tuple [.str p.1, .str p.2]) ≤ 1
  | [] => Nat.zero_le _
  | x :: r => by
    show max 1 (PyData.depthAll (r.map fun p => .tuple [.str p.1, .str p.2])) ≤ 1
    have := dep_pairs r
    omega
theorem sh_pairs {ps : List (Str × Str)} (h : ∀ p ∈ ps, Wd p.1 ∧ Wd p.2) : SeqAt.shaped (dP ps) = true := by
  show (PyData.canLayAll0 (ps.map fun p => .tuple [.str p.1, .str p.2]) && decide (PyData.depthAll (ps.map fun p => .tuple [.str p.1, .str p.2]) + 1 ≤ 64)) = true
  rw [lay_pairs h, decide_eq_true (by have := dep_pairs ps; omega)]; rfl
theorem eq_pairs {ps : List (Str × Str)} (h : ∀ p ∈ ps, Wd p.1 ∧ Wd p.2) : PyData.eqv (dP ps) (dP ps) = true := SeqAt.eqv_refl _ (lay_pairs h)
theorem dp_pairs {K : PySem.W.Frag} {H : Hp} {a : Addr} {as : List Addr} {ps : List (Str × Str)} (h : H a = some (.lst (as.map V.ref))) (g : Paired (fun t (p : Str × Str) => H t = some (.tup [.str p.1, .str p.2])) as ps) : Dp K H (.ref a) (dP ps) := by
  refine .lst (SqL.of h) ?_
  clear h
  induction g with
  | nil => exact .nil
  | cons e _ ih => exact .cons (.tup (SqT.of e) (.cons (.str _) (.cons (.str _) .nil))) ih
/-! ### a list is written: what stands beside it -/
theorem TurnsAt.but {T : Addr} {H H' : Hp} {a : Addr} {ts : List (Str × Str)} {xs : List V} (h : TurnsAt H a ts) (b : But T H H') (hT : H T = some (.lst xs)) : TurnsAt H' a ts := b _ _ (fun e => by rw [TurnsAt, e, hT] at h; cases h) h
theorem BookAt.but {T : Addr} {H H' : Hp} {a : Addr} {bk : Bk} {xs : List V} (h : BookAt H a bk) (b : But T H H') (hT : H T = some (.lst xs)) : BookAt H' a bk := by
  obtain ⟨kvs, e, r⟩ := h
  refine ⟨kvs, b _ _ (fun z => by rw [z, hT] at e; cases e) e, ?_⟩
  clear e
  unfold Rows at r ⊢
  induction r with
  | nil => exact .nil
  | cons h1 _ ih =>
    obtain ⟨e1, t, a, ev, ht, ha⟩ := h1
    exact .cons ⟨e1, t, a, ev, b _ _ (fun z => by rw [z, hT] at ht; cases ht) ht, ha.but b hT⟩ ih
theorem BookR.but {T : Addr} {H H' : Hp} {a : Addr} {bk : Bk} {xs : List V} (h : BookR H a bk) (b : But T H H') (hT : H T = some (.lst xs)) : BookR H' a bk := by
  obtain ⟨kvs, e, r⟩ := h
  refine ⟨kvs, e.elim (fun e => .inl (b _ _ (fun z => by rw [z, hT] at e; cases e) e)) fun ⟨od, e⟩ => .inr ⟨od, b _ _ (fun z => by rw [z, hT] at e; cases e) e⟩, ?_⟩
  clear e
  unfold Rows at r ⊢
  induction r with
  | nil => exact .nil
  | cons h1 _ ih =>
    obtain ⟨e1, t, a, ev, ht, ha⟩ := h1
    exact .cons ⟨e1, t, a, ev, b _ _ (fun z => by rw [z, hT] at ht; cases ht) ht, ha.but b hT⟩ ih
theorem DeskAt.but {C T : Addr} {H H' : Hp} {q : Addr} {bk : Bk} {st : Str} {xs : List V} (h : DeskAt C H q bk st) (b : But T H H') (hT : H T = some (.lst xs)) : DeskAt C H' q bk st := by
  obtain ⟨dx, c, e, r⟩ := h
  exact ⟨dx, c, b _ _ (fun z => by rw [z, hT] at e; cases e) e, r.but b hT⟩
/-- a list of words held against the empty list -/
theorem eqv_nil (ss : List Str) : PyData.eqv (dW ss) (dW []) = decide (ss = []) := by
  cases ss with
  | nil => exact eq_words (fun _ h => by cases h)
  | cons x r => rfl
end D1
end L2
/-! pairs of states; next_of -/
namespace L2
namespace D1
open PySem PySem.Spec PyProof.Rows D2
abbrev Pr := Str × Str
def PAt (H : Hp) (z : Addr) (p : Pr) : Prop := H z = some (.tup [.str p.1, .str p.2])
def PRows (H : Hp) : List (Key × V) → List (Str × Pr) → Prop := Paired fun kv t => kv.1 = Sum.inr t.1 ∧ ∃ z, kv.2 = .ref z ∧ PAt H z t.2
theorem PRows.same {H H' : Hp} {kvs : List (Key × V)} {ts : List (Str × Pr)} (h : PRows H kvs ts) (s : Same H H') : PRows H' kvs ts := paired_imp (fun _ _ ⟨e, z, e1, e2⟩ => ⟨e, z, e1, s _ _ e2⟩) h
theorem PRows.keys {H : Hp} {kvs : List (Key × V)} {ts : List (Str × Pr)} (h : PRows H kvs ts) : kvs.map (·.1) = ts.map fun t => Sum.inr t.1 := by
  unfold PRows at h
  induction h with
  | nil => rfl
  | cons a _ ih => rw [List.map_cons, List.map_cons, ih, a.1]
theorem PRows.len {H : Hp} {kvs : List (Key × V)} {ts : List (Str × Pr)} (h : PRows H kvs ts) : kvs.length = ts.length := paired_len h
/-- a dict of words, each with the pair behind it -/
def PTAt (H : Hp) (a : Addr) (ts : List (Str × Pr)) : Prop := ∃ kvs, H a = some (.dK kvs) ∧ PRows H kvs ts
theorem PTAt.same {H H' : Hp} {a : Addr} {ts : List (Str × Pr)} (h : PTAt H a ts) (s : Same H H') : PTAt H' a ts := let ⟨kvs, e, r⟩ := h; ⟨kvs, s _ _ e, r.same s⟩
/-- the words that lead on from a pair, in their order -/
def nextP (bk cl : Bk) (p : Pr) : List (Str × Pr) :=
  if (rowOf bk p.1).1 = (rowOf cl p.2).1 then ((rowOf bk p.1).2.filter fun t => decide (t.1 ∈ (rowOf cl p.2).2.map (·.1))).map fun t => (t.1, (goalT (rowOf bk p.1).2 t.1, goalT (rowOf cl p.2).2 t.1)) else []
/-- whether a pair fits -/
def fitP (bk cl : Bk) (p : Pr) : Bool :=
  decide ((rowOf bk p.1).1 = (rowOf cl p.2).1) && (if (rowOf bk p.1).1 = "hears" then (rowOf bk p.1).2.all fun t => decide (t.1 ∈ (rowOf cl p.2).2.map (·.1)) else (rowOf cl p.2).2.all fun t => decide (t.1 ∈ (rowOf bk p.1).2.map (·.1)))
theorem kT_at {ts : List (Str × Str)} {i : Nat} {k : Key} {v : V} (h : (kT ts)[i]? = some (k, v)) : ∃ t, ts[i]? = some t ∧ k = Sum.inr t.1 := by
  rw [kT, List.getElem?_map] at h
  obtain ⟨t, ht, e⟩ := Option.map_eq_some_iff.mp h
  cases e
  exact ⟨t, ht, rfl⟩
theorem kT_lt {ts : List (Str × Str)} {i : Nat} {k : Key} {v : V} (h : (kT ts)[i]? = some (k, v)) : i < ts.length := by
  obtain ⟨t, ht, _⟩ := kT_at h
  exact (List.getElem?_eq_some_iff.mp ht).1
theorem kT_isSome (ts : List (Str × Str)) (x : Str) : (valV (kT ts) (.inr x)).isSome = decide (x ∈ ts.map (·.1)) := by
  by_cases h : x ∈ ts.map (·.1)
  · rw [valV_goal h, decide_eq_true h]; rfl
  · rw [decide_eq_false h, valV_kT]
    cases e : ts.find? (fun t => decide (t.1 = x)) with
    | none => rfl
    | some t => exact absurd (by have := List.find?_some e; rw [← of_decide_eq_true this]; exact List.mem_map_of_mem (List.mem_of_find?_eq_some e)) h
theorem all_map {α : Type} (f : α → Bool) (l : List α) : ((l.map f).all id) = l.all f := by
  induction l with
  | nil => rfl
  | cons x r ih => rw [List.map_cons, List.all_cons, List.all_cons, ih]; rfl
def spNextOf : Sp := fun vs H Q _ => ∃ (B z b1 b2 : Addr) (bk cl : Bk) (p : Pr), vs = [.ref B, .ref z] ∧ H B = some (.tup [.ref b1, .ref b2]) ∧ BookAt H b1 bk ∧ BookAt H b2 cl ∧ PAt H z p ∧ p.1 ∈ bk.map (·.1) ∧ p.2 ∈ cl.map (·.1) ∧ BWf bk ∧ BWf cl ∧ (∀ r ∈ bk, (r.2.2.map (·.1)).Nodup) ∧ (∀ r ∈ cl, (r.2.2.map (·.1)).Nodup) ∧
  ∀ H' R, Same H H' → H R = none → PTAt H' R (nextP bk cl p) → Q (.ref R) H'
section
variable {P : Program} {w : World} {K : PySem.W.Frag} {mg : Str → Option Value} {base : Heap}
abbrev nxN : List Str := ["books", "pair", "elder_kind", "elder_turns", "newer_kind", "newer_turns", "word"]
end
end D1
end L2
/-! is_pair_of, is_ended, pair_after, books_of, books_with, first_pair, next_pairs, pair_kind -/
namespace L2
namespace D1
open PySem PySem.Spec PyProof.Rows D2
abbrev sBooksOf : Stmt := top 28
abbrev sFirstPair : Stmt := top 29
def BksAt (H : Hp) (B : Addr) (bk cl : Bk) : Prop := ∃ b1 b2, H B = some (.tup [.ref b1, .ref b2]) ∧ BookAt H b1 bk ∧ BookAt H b2 cl
theorem BksAt.same {H H' : Hp} {B : Addr} {bk cl : Bk} (h : BksAt H B bk cl) (s : Same H H') : BksAt H' B bk cl := let ⟨b1, b2, e, f, g⟩ := h; ⟨b1, b2, s _ _ e, f.same s, g.same s⟩
structure BB (bk cl : Bk) : Prop where
  w1 : BWf bk
  w2 : BWf cl
  n1 : ∀ r ∈ bk, (r.2.2.map (·.1)).Nodup
  n2 : ∀ r ∈ cl, (r.2.2.map (·.1)).Nodup
def InP (bk cl : Bk) (p : Pr) : Prop := p.1 ∈ bk.map (·.1) ∧ p.2 ∈ cl.map (·.1)
theorem BWf.goal {bk : Bk} (w : BWf bk) {s x : Str} (hs : s ∈ bk.map (·.1)) (n : ((rowOf bk s).2.map (·.1)).Nodup) (hx : x ∈ (rowOf bk s).2.map (·.1)) : goalT (rowOf bk s).2 x ∈ bk.map (·.1) := by
  obtain ⟨t, ht, rfl⟩ := List.mem_map.mp hx
  rw [goalT_at n ht]
  exact (w.rs _ (row_mem hs)).2.2 t ht
theorem nextP_in {bk cl : Bk} (b : BB bk cl) {p : Pr} (hp : InP bk cl p) : ∀ t ∈ nextP bk cl p, InP bk cl t.2 := fun t ht => by
  have n1 : ((rowOf bk p.1).2.map (·.1)).Nodup := b.n1 _ (row_mem hp.1)
  have n2 : ((rowOf cl p.2).2.map (·.1)).Nodup := b.n2 _ (row_mem hp.2)
  unfold nextP at ht
  split at ht
  · obtain ⟨u, hu, rfl⟩ := List.mem_map.mp ht
    obtain ⟨hu, hd⟩ := List.mem_filter.mp hu
    exact ⟨b.w1.goal hp.1 n1 (List.mem_map_of_mem hu), b.w2.goal hp.2 n2 (of_decide_eq_true hd)⟩
  · cases ht
theorem nextP_nd {bk cl : Bk} (b : BB bk cl) {p : Pr} (hp : InP bk cl p) : ((nextP bk cl p).map (·.1)).Nodup := by
  have n1 : ((rowOf bk p.1).2.map (·.1)).Nodup := b.n1 _ (row_mem hp.1)
  unfold nextP
  split
  · rw [List.map_map]
    exact n1.sublist (List.filter_sublist.map _)
  · exact List.nodup_nil
theorem nextP_len {bk cl : Bk} (b : BB bk cl) {p : Pr} (hp : InP bk cl p) : (nextP bk cl p).length ≤ 60 := by
  have l1 : (rowOf bk p.1).2.length ≤ 60 := b.w1.len2 _ (row_mem hp.1)
  unfold nextP
  split
  · rw [List.length_map]; exact Nat.le_trans (List.length_filter_le _ _) l1
  · exact Nat.zero_le _
def findP (ts : List (Str × Pr)) (w : Str) : Option Pr := (ts.find? fun t => decide (t.1 = w)).map (·.2)
theorem findP_mem {ts : List (Str × Pr)} {w : Str} {q : Pr} (h : findP ts w = some q) : (w, q) ∈ ts := by
  unfold findP at h
  obtain ⟨t, ht, rfl⟩ := Option.map_eq_some_iff.mp h
  have e0 := List.find?_some ht
  have e : t.1 = w := by simpa using e0
  rw [← e]; exact List.mem_of_find?_eq_some ht
theorem PRows.val {H : Hp} : ∀ {kvs : List (Key × V)} {ts : List (Str × Pr)}, PRows H kvs ts → ∀ w, match findP ts w with
    | none => valV kvs (.inr w) = none
    | some q => ∃ z, valV kvs (.inr w) = some (.ref z) ∧ PAt H z q
  | _, _, .nil, w => rfl
  | kv :: kvs, t :: ts, .cons h r, w => by
    obtain ⟨e, z, ez, hz⟩ := h
    have ih := PRows.val (kvs := kvs) (ts := ts) r w
    by_cases c : t.1 = w
    · have : findP (t :: ts) w = some t.2 := by unfold findP; rw [List.find?_cons_of_pos (by exact decide_eq_true c)]; rfl
      rw [this]
      exact ⟨z, by rw [valV_pos (by rw [e, c]), ez], hz⟩
    · have : findP (t :: ts) w = findP ts w := by unfold findP; rw [List.find?_cons_of_neg (by simpa using c)]
      rw [this, valV_neg (fun q => by rw [e] at q; exact c (Sum.inr.inj q))]
      exact ih
def afterP (bk cl : Bk) : Pr → List Str → Option Pr
  | p, [] => some p
  | p, w :: ws => match findP (nextP bk cl p) w with
    | none => none
    | some q => afterP bk cl q ws
def OptAt (H : Hp) (v : V) : Option Pr → Prop
  | none => v = .non
  | some p => ∃ z, v = .ref z ∧ PAt H z p
def spIsPair : Sp := fun vs H Q _ => ∃ (B z : Addr) (bk cl : Bk) (p : Pr), vs = [.ref B, .ref z] ∧ BksAt H B bk cl ∧ PAt H z p ∧ InP bk cl p ∧ Q (.bl true) H
def spIsEnded : Sp := fun vs H Q _ => ∃ (B z : Addr) (bk cl : Bk) (p : Pr), vs = [.ref B, .ref z] ∧ BksAt H B bk cl ∧ PAt H z p ∧ InP bk cl p ∧ Q (.bl (decide ((rowOf bk p.1).1 = "done") && decide ((rowOf cl p.2).1 = "done"))) H
def spPairAfter : Sp := fun vs H Q _ => ∃ (B z L : Addr) (bk cl : Bk) (p : Pr) (way : List Str), vs = [.ref B, .ref z, .ref L] ∧ BksAt H B bk cl ∧ PAt H z p ∧ InP bk cl p ∧ BB bk cl ∧ SL H L way ∧ ∀ H' v, Same H H' → OptAt H' v (afterP bk cl p way) → Q v H'
section
variable {P : Program} {w : World} {K : PySem.W.Frag} {mg : Str → Option Value} {base : Heap} {C : Addr}
abbrev CNextOf (P : Program) (w : World) (K : PySem.W.Frag) (mg : Str → Option Value) (base : Heap) := Cal P w K mg base "next_of" 1 ["books", "pair"] spNextOf
end
end D1
end L2
/-! facing: books_of, books_with, first_pair, next_pairs, pair_kind -/
namespace L2
namespace D1
open PySem PySem.Spec PyProof.Rows D2
theorem DOk.bb {bk cl : Bk} {st st' : Str} (h : DOk bk st) (g : DOk cl st') : BB bk cl := ⟨h.toBWf, g.toBWf, h.tk, g.tk⟩
theorem inP_ord {bk cl : Bk} {p : Pr} : InP (ordB bk) (ordB cl) p ↔ InP bk cl p := by
  unfold InP
  rw [ordB_names, ordB_names]
  exact and_congr (srt_perm _).mem_iff (srt_perm _).mem_iff
def Two (C : Addr) (H : Hp) (q1 q2 : Addr) (bk cl : Bk) (st st' : Str) : Prop := DeskAt C H q1 bk st ∧ DeskAt C H q2 cl st'
theorem Two.same {C : Addr} {H H' : Hp} {q1 q2 : Addr} {bk cl : Bk} {st st' : Str} (h : Two C H q1 q2 bk cl st st') (s : Same H H') : Two C H' q1 q2 bk cl st st' := ⟨h.1.same s, h.2.same s⟩
def spBooksOf (C : Addr) : Sp := fun vs H Q _ => ∃ (q1 q2 : Addr) (bk cl : Bk) (st st' : Str), vs = [.ref q1, .ref q2] ∧ Two C H q1 q2 bk cl st st' ∧ DOk bk st ∧ DOk cl st' ∧ ∀ H' B, Same H H' → H B = none → BksAt H' B (ordB bk) (ordB cl) → Q (.ref B) H'
def spBooksWith (C : Addr) : Sp := fun vs H Q _ => ∃ (q1 q2 z : Addr) (bk cl : Bk) (st st' : Str) (p : Pr), vs = [.ref q1, .ref q2, .ref z] ∧ Two C H q1 q2 bk cl st st' ∧ DOk bk st ∧ DOk cl st' ∧ PAt H z p ∧ InP bk cl p ∧ ∀ H' B, Same H H' → H B = none → BksAt H' B (ordB bk) (ordB cl) → Q (.ref B) H'
def spFirstPair (C : Addr) : Sp := fun vs H Q _ => ∃ (q1 q2 : Addr) (bk cl : Bk) (st st' : Str), vs = [.ref q1, .ref q2] ∧ Two C H q1 q2 bk cl st st' ∧ ∀ H' z, Same H H' → H z = none → PAt H' z (st, st') → Q (.ref z) H'
def spNextPairs (C : Addr) : Sp := fun vs H Q _ => ∃ (q1 q2 z : Addr) (bk cl : Bk) (st st' : Str) (p : Pr), vs = [.ref q1, .ref q2, .ref z] ∧ Two C H q1 q2 bk cl st st' ∧ DOk bk st ∧ DOk cl st' ∧ PAt H z p ∧ InP bk cl p ∧ ∀ H' R, Same H H' → H R = none → PTAt H' R (nextP (ordB bk) (ordB cl) p) → Q (.ref R) H'
/-- what a pair is called -/
def kindP (bk cl : Bk) (p : Pr) : Str := if (decide ((rowOf bk p.1).1 = "done") && decide ((rowOf cl p.2).1 = "done")) = true then "ended" else if nextP bk cl p = [] then "stuck" else "goes on"
def spPairKind (C : Addr) : Sp := fun vs H Q _ => ∃ (q1 q2 z : Addr) (bk cl : Bk) (st st' : Str) (p : Pr), vs = [.ref q1, .ref q2, .ref z] ∧ Two C H q1 q2 bk cl st st' ∧ DOk bk st ∧ DOk cl st' ∧ PAt H z p ∧ InP bk cl p ∧ ∀ H', Same H H' → Q (.str (kindP (ordB bk) (ordB cl) p)) H'
section
variable {P : Program} {w : World} {K : PySem.W.Frag} {mg : Str → Option Value} {base : Heap} {C : Addr}
abbrev CIsPair (P : Program) (w : World) (K : PySem.W.Frag) (mg : Str → Option Value) (base : Heap) := Cal P w K mg base "is_pair_of" 2 ["books", "value"] spIsPair
abbrev CIsEnded (P : Program) (w : World) (K : PySem.W.Frag) (mg : Str → Option Value) (base : Heap) := Cal P w K mg base "is_ended" 1 ["books", "pair"] spIsEnded
abbrev CBooksOf (P : Program) (w : World) (K : PySem.W.Frag) (mg : Str → Option Value) (base : Heap) (C : Addr) := Cal P w K mg base "books_of" 4 ["one", "other"] (spBooksOf C)
abbrev CBooksWith (P : Program) (w : World) (K : PySem.W.Frag) (mg : Str → Option Value) (base : Heap) (C : Addr) := Cal P w K mg base "books_with" 5 ["one", "other", "pair"] (spBooksWith C)
theorem scBo : FnScope ["one", "other"] ["one", "other"] (defScope sBooksOf) := ⟨rfl, rfl, rfl, by decide +kernel, rfl, by decide +kernel, by decide +kernel⟩
theorem ok_booksof {f : Addr} {fd : FuncData} (F : Fun K "books_of" "books_of" sBooksOf f fd) (D : DTxt K mg C) (CN : CNeed P w K mg base C) (MB : CMBook P w K mg base C) : FnOk P w K mg base CX0 4 f fd ["one", "other"] (spBooksOf C) := by
  obtain ⟨fB, fdB, mB, FB, bB⟩ := MB.ex
  refine F.ok scBo (fun vs H Q E h => ?_) (fun cdv A outer s H vs Q E hr h => ?_)
  · obtain ⟨q1, q2, bk, cl, st, st', rfl, _⟩ := h; rfl
  · obtain ⟨q1, q2, bk, cl, st, st', rfl, ⟨h1, h2⟩, o1, o2, k⟩ := h
    refine ⟨_, pss_cons (ps_expr (pe_cal CN (hr.mono (by decide)) rfl (pa_cons (pv 0) pa_nil)))
      (pss_cons (ps_expr (pe_cal CN (hr.mono (by decide)) rfl (pa_cons (pv 1) pa_nil)))
      (pss_one (ps_ret (pe_tup (pa_cons (pe_meth0 (pv 0) D.cl mB FB (hr.mono (by decide)) bB .nil pass0) (pa_cons (pe_meth0 (pv 1) D.cl mB FB (hr.mono (by decide)) bB .nil pass0) pa_nil)))))), ?_⟩
    obtain ⟨d1, c1, e1, _⟩ := id h1
    obtain ⟨d2, c2, e2, _⟩ := id h2
    refine ⟨_, rfl, q1, d1, _, rfl, e1, _, rfl, q2, d2, _, rfl, e2, ?_⟩
    refine ⟨_, rfl, q1, d1, _, rfl, e1, dflds_no _ _ (by decide +kernel) (by decide +kernel), q1, bk, st, rfl, h1, o1, fun H1 B1 s1 n1 hB1 _ => ?_⟩
    refine ⟨_, rfl, q2, d2, _, rfl, s1 _ _ e2, dflds_no _ _ (by decide +kernel) (by decide +kernel), q2, cl, st', rfl, h2.same s1, o2, fun H2 B2 s2 n2 hB2 _ => ⟨by show 2 ≤ sizeLine; decide, fun B hB => ?_⟩⟩
    have s12 := Same.trans s1 s2
    have g := Same.new (o := .tup [.ref B1, .ref B2]) hB
    exact k _ B (Same.trans s12 g) (s12.free hB) ⟨B1, B2, upd_same, (hB1.same s2).same g, hB2.same g⟩
theorem scFp : FnScope ["one", "other"] ["one", "other"] (defScope sFirstPair) := ⟨rfl, rfl, rfl, by decide +kernel, rfl, by decide +kernel, by decide +kernel⟩
theorem ok_firstpair {f : Addr} {fd : FuncData} (F : Fun K "first_pair" "first_pair" sFirstPair f fd) (D : DTxt K mg C) (MS : CMStart P w K mg base C) : FnOk P w K mg base CX0 2 f fd ["one", "other"] (spFirstPair C) := by
  obtain ⟨fS, fdS, mS, FS, bS⟩ := MS.ex
  refine F.ok scFp (fun vs H Q E h => ?_) (fun cdv A outer s H vs Q E hr h => ?_)
  · obtain ⟨q1, q2, bk, cl, st, st', rfl, _⟩ := h; rfl
  · obtain ⟨q1, q2, bk, cl, st, st', rfl, ⟨h1, h2⟩, k⟩ := h
    refine ⟨_, pss_one (ps_ret (pe_tup (pa_cons (pe_meth0 (pv 0) D.cl mS FS (hr.mono (by decide)) bS .nil pass0) (pa_cons (pe_meth0 (pv 1) D.cl mS FS (hr.mono (by decide)) bS .nil pass0) pa_nil)))), ?_⟩
    obtain ⟨d1, c1, e1, _⟩ := id h1
    obtain ⟨d2, c2, e2, _⟩ := id h2
    refine ⟨_, rfl, q1, d1, _, rfl, e1, dflds_no _ _ (by decide +kernel) (by decide +kernel), q1, bk, st, rfl, h1, ?_⟩
    refine ⟨_, rfl, q2, d2, _, rfl, e2, dflds_no _ _ (by decide +kernel) (by decide +kernel), q2, cl, st', rfl, h2, ⟨by show 2 ≤ sizeLine; decide, fun z hz => ?_⟩⟩
    exact k _ z (Same.new hz) hz upd_same
end
end D1
end L2
/-! grown -/
namespace L2
namespace D1
open PySem PySem.Spec PyProof.Rows D2 X5 X6
abbrev sGrown : Stmt := top 14
/-- what some way leads to -/
inductive Rn (nx : Pr → List (Str × Pr)) (p : Pr) : Pr → Prop
  | here : Rn nx p p
  | next {q : Pr} {t : Str × Pr} : Rn nx p q → t ∈ nx q → Rn nx p t.2
theorem Rn.inP {bk cl : Bk} (b : BB bk cl) {p q : Pr} (hp : InP bk cl p) (h : Rn (nextP bk cl) p q) : InP bk cl q := by
  induction h with
  | here => exact hp
  | next _ ht ih => exact nextP_in b ih _ ht
/-- all pairs of states -/
def allP (bk cl : Bk) : List Pr := (bk.map (·.1)).flatMap fun s => (cl.map (·.1)).map fun t => (s, t)
theorem mem_allP {bk cl : Bk} {p : Pr} (h : InP bk cl p) : p ∈ allP bk cl :=
  List.mem_flatMap.mpr ⟨p.1, h.1, List.mem_map.mpr ⟨p.2, h.2, rfl⟩⟩
theorem len_flat {α β : Type} (f : α → List β) (n : Nat) : ∀ l : List α, (∀ x ∈ l, (f x).length = n) → (l.flatMap f).length = l.length * n
  | [], _ => by simp
  | x :: r, h => by
    rw [List.flatMap_cons, List.length_append, h x (by simp), len_flat f n r fun y hy => h y (List.mem_cons_of_mem _ hy), List.length_cons, Nat.add_mul, Nat.one_mul, Nat.add_comm]
theorem len_allP {bk cl : Bk} (b : BB bk cl) : (allP bk cl).length ≤ 3600 := by
  unfold allP
  rw [len_flat _ cl.length _ fun x _ => by rw [List.length_map, List.length_map], List.length_map]
  exact Nat.mul_le_mul b.w1.len b.w2.len
theorem pigeonP {ns : List Pr} {bk cl : Bk} (b : BB bk cl) (nd : ns.Nodup) (h : ∀ x ∈ ns, InP bk cl x) : ns.length ≤ 3600 :=
  Nat.le_trans (pigeon ns (allP bk cl) nd fun x hx => mem_allP (h x hx)) (len_allP b)
def FT (ns : List Pr) : List (List Key × V) := ns.map fun n => (kP n, .bl true)
theorem kP_inj {p q : Pr} (h : kP p = kP q) : p = q := by
  have h1 : p.1 = q.1 := Sum.inr.inj (List.cons.inj h).1
  have h2 : p.2 = q.2 := Sum.inr.inj (List.cons.inj (List.cons.inj h).2).1
  exact Prod.ext h1 h2
theorem valT_none {ps : List Pr} {x : Pr} (h : x ∉ ps) {kvs : List (List Key × V)} (e : kvs.map (·.1) = ps.map kP) : valV kvs (kP x) = none := by
  cases c : valV kvs (kP x) with
  | none => rfl
  | some v =>
    have : (kvs.any fun kv => decide (kv.1 = kP x)) = true := by rw [valV_any, c]; rfl
    obtain ⟨kv, hk, e1⟩ := List.any_eq_true.mp this
    have m : kv.1 ∈ ps.map kP := by rw [← e]; exact List.mem_map_of_mem hk
    obtain ⟨q, hq, e2⟩ := List.mem_map.mp m
    rw [of_decide_eq_true e1] at e2
    exact absurd (kP_inj e2 ▸ hq) h
theorem FT_keys (ns : List Pr) : (FT ns).map (·.1) = ns.map kP := by rw [FT, List.map_map]; rfl
theorem FT_put {ns : List Pr} {x : Pr} (h : x ∉ ns) : putK (FT ns) (kP x) (.bl true) = FT (ns ++ [x]) := by
  rw [L2.putK_new _ (valT_none h (FT_keys ns)), FT, FT, List.map_append]; rfl
theorem FT_val (ns : List Pr) (x : Pr) : (valV (FT ns) (kP x)).isSome = decide (x ∈ ns) := by
  by_cases h : x ∈ ns
  · rw [decide_eq_true h, ← valV_any]
    exact List.any_eq_true.mpr ⟨(kP x, .bl true), List.mem_map.mpr ⟨x, h, rfl⟩, decide_eq_true rfl⟩
  · rw [decide_eq_false h, valT_none h (FT_keys ns)]; rfl
def QRows (H : Hp) (nx : Pr → List (Str × Pr)) : List (List Key × V) → List Pr → Prop := Paired fun kv n => kv.1 = kP n ∧ ∃ a, kv.2 = .ref a ∧ PTAt H a (nx n)
theorem QRows.same {H H' : Hp} {nx : Pr → List (Str × Pr)} {kvs : List (List Key × V)} {ns : List Pr} (h : QRows H nx kvs ns) (s : Same H H') : QRows H' nx kvs ns := paired_imp (fun _ _ ⟨e, z, e1, e2⟩ => ⟨e, z, e1, e2.same s⟩) h
theorem QRows.len {H : Hp} {nx : Pr → List (Str × Pr)} {kvs : List (List Key × V)} {ns : List Pr} (h : QRows H nx kvs ns) : kvs.length = ns.length := paired_len h
theorem QRows.keys {H : Hp} {nx : Pr → List (Str × Pr)} {kvs : List (List Key × V)} {ns : List Pr} (h : QRows H nx kvs ns) : kvs.map (·.1) = ns.map kP := by
  unfold QRows at h
  induction h with
  | nil => rfl
  | cons a _ ih => rw [List.map_cons, List.map_cons, ih, a.1]
theorem QRows.look {H : Hp} {nx : Pr → List (Str × Pr)} : ∀ {kvs : List (List Key × V)} {ns : List Pr}, QRows H nx kvs ns → ∀ {x : Pr}, x ∈ ns → ∃ a, valV kvs (kP x) = some (.ref a) ∧ PTAt H a (nx x)
  | _, _, .nil, _, h => nomatch h
  | kv :: kvs, n :: ns, .cons h r, x, hx => by
    obtain ⟨e, a, ea, ha⟩ := h
    by_cases c : n = x
    · subst c; exact ⟨a, by rw [valV_pos e, ea], ha⟩
    · rw [valV_neg (fun q => c (kP_inj (e.symm.trans q)))]
      exact QRows.look r ((List.mem_cons.mp hx).resolve_left fun q => c q.symm)
theorem paired_snoc {α β : Type} {R : α → β → Prop} {a : α} {b : β} : ∀ {l : List α} {m : List β}, Paired R l m → R a b → Paired R (l ++ [a]) (m ++ [b])
  | _, _, .nil, h => .cons h .nil
  | _, _, .cons x r, h => .cons x (paired_snoc r h)
theorem paired_get {α β : Type} {R : α → β → Prop} : ∀ {l : List α} {m : List β}, Paired R l m → ∀ {i : Nat} {a : α}, l[i]? = some a → ∃ b, m[i]? = some b ∧ R a b
  | _, _, .cons x r, 0, a, h => ⟨_, rfl, by rw [← Option.some.inj h]; exact x⟩
  | _, _, .cons x r, i + 1, a, h => paired_get r (i := i) h
/-- the addresses of some pairs -/
def PL (H : Hp) : List Addr → List Pr → Prop := Paired fun z p => PAt H z p
theorem PL.same {H H' : Hp} {zs : List Addr} {ps : List Pr} (h : PL H zs ps) (s : Same H H') : PL H' zs ps := paired_imp (fun _ _ e => s _ _ e) h
def QrAt (H : Hp) (G : Addr) (nx : Pr → List (Str × Pr)) (ns : List Pr) : Prop := ∃ kvs, H G = some (.dT kvs) ∧ QRows H nx kvs ns
theorem QrAt.same {H H' : Hp} {G : Addr} {nx : Pr → List (Str × Pr)} {ns : List Pr} (h : QrAt H G nx ns) (s : Same H H') : QrAt H' G nx ns := let ⟨kvs, e, r⟩ := h; ⟨kvs, s _ _ e, r.same s⟩
def RnAll (nx : Pr → List (Str × Pr)) (p : Pr) (ns : List Pr) : Prop := ns.Nodup ∧ ∀ x, x ∈ ns ↔ Rn nx p x
/-- what is gone through, what is found -/
structure BIp (nx : Pr → List (Str × Pr)) (p : Pr) (gs ns : List Pr) : Prop where
  nd : ns.Nodup
  rc : ∀ x ∈ ns, Rn nx p x
  st : p ∈ ns
  cl : ∀ x ∈ gs, ∀ t ∈ nx x, t.2 ∈ ns
theorem BIp.done {nx : Pr → List (Str × Pr)} {p : Pr} {ns : List Pr} (b : BIp nx p ns ns) : RnAll nx p ns := by
  refine ⟨b.nd, fun x => ⟨b.rc x, fun h => ?_⟩⟩
  induction h with
  | here => exact b.st
  | next _ ht ih => exact b.cl _ ih _ ht
theorem BIp.le {bk cl : Bk} {p : Pr} {gs ns : List Pr} (b : BIp (nextP bk cl) p gs ns) (bb : BB bk cl) (hp : InP bk cl p) : ns.length ≤ 3600 := pigeonP bb b.nd fun x hx => (b.rc x hx).inP bb hp
theorem BIp.find {nx : Pr → List (Str × Pr)} {p : Pr} {gs ns : List Pr} (b : BIp nx p gs ns) {x : Pr} (hx : x ∉ ns) (r : Rn nx p x) : BIp nx p gs (ns ++ [x]) :=
  ⟨nodup_app b.nd hx, fun y hy => (List.mem_append.mp hy).elim (b.rc y) fun e => (List.mem_singleton.mp e) ▸ r, List.mem_append_left _ b.st, fun y hy t ht => List.mem_append_left _ (b.cl y hy t ht)⟩
theorem ptat_cut {H : Hp} {R : Addr} {ts : List (Str × Pr)} {S : List Addr} (h : PTAt H R ts) (s : ∀ q ∈ S, (∃ kvs, H q = some (.dT kvs)) ∨ ∃ xs, H q = some (.lst xs)) : PTAt (cut S H) R ts := by
  obtain ⟨kvs, e, r⟩ := h
  refine ⟨kvs, ?_, paired_imp (fun _ _ ⟨e1, z, e2, e3⟩ => ⟨e1, z, e2, ?_⟩) r⟩
  · rw [cut_out fun m => ?_]; exact e
    rcases s _ m with ⟨_, q⟩ | ⟨_, q⟩ <;> (rw [e] at q; cases q)
  · show cut S H z = _
    rw [cut_out fun m => ?_]; exact e3
    have e3 : H z = _ := e3
    rcases s _ m with ⟨_, q⟩ | ⟨_, q⟩ <;> (rw [e3] at q; cases q)
theorem pl_cut {H : Hp} {zs : List Addr} {ps : List Pr} {S : List Addr} (h : PL H zs ps) (s : ∀ q ∈ S, (∃ kvs, H q = some (.dT kvs)) ∨ ∃ xs, H q = some (.lst xs)) : PL (cut S H) zs ps := by
  refine paired_imp (fun z p e => ?_) h
  show cut S H z = _
  rw [cut_out fun m => ?_]; exact e
  have e : H z = _ := e
  rcases s _ m with ⟨_, q⟩ | ⟨_, q⟩ <;> (rw [e] at q; cases q)
theorem cut_unlock {S : List Addr} {H H' : Hp} {a : Addr} {u f : HO} (ha : a ∉ S) (e : H a = some u) (s : Same (cut S (L2.upd H a f)) (cut S H')) : Same (cut S H) (cut S (L2.upd H' a u)) := fun b o h => by
  obtain ⟨nb, h⟩ := cut_some h
  rw [cut_out nb]
  by_cases c : b = a
  · rw [c] at h ⊢; rw [upd_same, ← h, e]
  · rw [upd_ne c]
    exact (cut_some (s b o (by rw [cut_out nb, upd_ne c]; exact h))).2
theorem valT_snoc {kvs : List (List Key × V)} {k : List Key} {v : V} (h : valV kvs k = none) : valV (kvs ++ [(k, v)]) k = some v := by
  induction kvs with
  | nil => exact valV_pos rfl
  | cons kv r ih =>
    by_cases c : kv.1 = k
    · rw [valV_pos c] at h; cases h
    · rw [valV_neg c] at h
      rw [List.cons_append, valV_neg c]; exact ih h
theorem not_before {α : Type} {gs ls : List α} (nd : (gs ++ ls).Nodup) {i : Nat} {x : α} (hx : ls[i]? = some x) : x ∉ gs ++ ls.take i := by
  obtain ⟨hi, e⟩ := List.getElem?_eq_some_iff.mp hx
  have e1 : gs ++ ls = (gs ++ ls.take i) ++ (x :: ls.drop (i + 1)) := by
    rw [List.append_assoc, ← e, ← List.drop_eq_getElem_cons hi, List.take_append_drop]
  rw [e1] at nd
  exact fun m => (List.nodup_append.mp nd).2.2 x m x (by simp) rfl
theorem pl_lock {H : Hp} {S : List Addr} {R : Addr} {od : Obj} {kr : List (Key × V)} {ys : List Addr} {ps : List Pr} (e : H R = some (.dK kr)) (h : PL (cut S H) ys ps) : PL (cut S (L2.upd H R (.frz od (.dK kr)))) ys ps :=
  paired_imp (fun z p q => by
    have q : cut S H z = _ := q
    obtain ⟨nz, q⟩ := cut_some q
    show cut S _ z = _
    rw [cut_out nz, upd_ne (fun n => by rw [n, e] at q; cases q)]; exact q) h
theorem pl_unlock {H : Hp} {S : List Addr} {R : Addr} {u f : HO} {o : Obj} {ys : List Addr} {ps : List Pr} (e : H R = some (.frz o f)) (h : PL (cut S H) ys ps) : PL (cut S (L2.upd H R u)) ys ps :=
  paired_imp (fun z p q => by
    have q : cut S H z = _ := q
    obtain ⟨nz, q⟩ := cut_some q
    show cut S _ z = _
    rw [cut_out nz, upd_ne (fun n => by rw [n, e] at q; cases q)]; exact q) h
def spGrown (fN : Addr) : Sp := fun vs H Q _ => ∃ (B L z : Addr) (bk cl : Bk) (p : Pr), vs = [.ref fN, .ref B, .ref L] ∧ BksAt H B bk cl ∧ BB bk cl ∧ H L = some (.lst [.ref z]) ∧ PAt H z p ∧ InP bk cl p ∧
  ∀ H' G ns, Same H H' → H G = none → QrAt H' G (nextP bk cl) ns → RnAll (nextP bk cl) p ns → Q (.ref G) H'
end D1
end L2
/-! grown: the def -/
namespace L2
namespace D1
open PySem PySem.Spec PyProof.Rows D2 X5 X6
section
variable {P : Program} {w : World} {K : PySem.W.Frag} {mg : Str → Option Value} {base : Heap} {C : Addr}
abbrev grN : List Str := ["onward", "told", "firsts", "graph", "found", "layer", "coming", "node", "goal"]
theorem scGr : FnScope grN ["onward", "told", "firsts"] (defScope sGrown) := ⟨rfl, rfl, rfl, by decide +kernel, rfl, by decide +kernel, by decide +kernel⟩
theorem ok_grown {f fN : Addr} {fd fdN : FuncData} (F : Fun K "grown" "grown" sGrown f fd) (T : Free3 mg) (kN : PySem.W.keepIn K (.ref fN) = true) (GN : FnOk P w K mg base CX0 1 fN fdN ["books", "pair"] spNextOf) (bN : Binds K fdN ["books", "pair"] []) : FnOk P w K mg base CX0 2 f fd ["onward", "told", "firsts"] (spGrown fN) := by
  refine F.ok scGr (fun vs H Q E h => ?_) (fun cdv A outer s H vs Q E hr h => ?_)
  · obtain ⟨B, L, z, bk, cl, p, rfl, _⟩ := h; rfl
  · obtain ⟨B, L, z, bk, cl, p, rfl, hB, bb, hL, hz, hp, k⟩ := h
    have hu := hu_of hr
    refine ⟨_, pss_cons (ps_set (i := 3) scGr.nd rfl (Or.inl rfl) pe_dnewT)
      (pss_cons (ps_setDcT (i := 4) (own := [("node", 7)]) (g := gName 7) (tt := tYes) (tk := tVar 7) (tv := tC (.bl true)) (Nat.lt_of_succ_lt hu) rfl scGr.nd rfl rfl (sw_trueD rfl rfl (by rfl) (by decide +kernel)) (pi_list (pv 2)) (blkOk_by (N := grN) (sc := defScope sGrown) (by decide +kernel))
          (fun _ _ _ _ _ => pg_name (i := 7) scGr.nd rfl (Or.inl rfl)) (fun _ _ _ _ _ => pts_nil) (fun _ _ _ _ _ => pv 7) (fun _ _ _ _ _ => pe_bl))
      (pss_cons (ps_set (i := 5) scGr.nd rfl (Or.inl rfl) (pe_callTy (call_listT rfl) (by rfl) T.list (by decide +kernel) (pa_cons (pv 4) pa_nil)))
      (pss_cons (ps_while PassesOwn.never (pt_truth (pv 5) (fun _ => rfl))
        (pss_cons (ps_set (i := 6) scGr.nd rfl (Or.inl rfl) (pe_lst pa_nil))
        (pss_cons (ps_for PassesOwn.never rfl (pi_list (pv 5)) (pg_name (i := 7) scGr.nd rfl (Or.inl rfl))
          (pss_cons (ps_dput hu (pv 3) (pv 7) (pe_callL (i := 0) GN (hr.mono (by decide)) rfl (Or.inl rfl) kN bN .nil pass0 (pa_cons (pv 1) (pa_cons (pv 7) pa_nil))) rfl)
          (pss_one (ps_lock (ps_for PassesOwn.never rfl (pi_values (pe_dget hu (pv 3) (pv 7) (fun _ _ => rfl))) (pg_name (i := 8) scGr.nd rfl (Or.inl rfl))
            (pss_one (ps_if (pt_cmp (pc_dnotin hu (pv 8) (pv 4)) rfl)
              (pss_cons (ps_dput hu (pv 4) (pv 8) pe_bl rfl)
              (pss_one (ps_expr (pe_bm PySem.F.plainAttrs_list PySem.F.slot_list_append PySem.F.type_list_append mt_append (pv 6) (pa_cons (pv 8) pa_nil))))) pss_nil)))))))
        (pss_one (ps_set (i := 5) scGr.nd rfl (Or.inl rfl) (pv 6))))))
      (pss_one (ps_ret (pv 3)))))), ?_⟩
    refine fun G hG => ?_
    have hL1 : (L2.upd H G (.dT [])) L = some (.lst [.ref z]) := by rw [upd_ne (ne_of_none hL hG)]; exact hL
    have hz1 : PAt (L2.upd H G (.dT [])) z p := by show _ = _; rw [upd_ne (ne_of_none hz hG)]; exact hz
    refine ⟨_, rfl, L, rfl, ⟨_, SqL.of hL1⟩, fun F0 hF => ?_⟩
    have nGF : G ≠ F0 := ne_of_none upd_same hF
    have hF' : H F0 = none := upd_none' hF
    refine dct_it (walk_list (a := L) (xs := [.ref z])) (fun i H' => ∃ ns, ((i = 0 ∧ ns = []) ∨ (i = 1 ∧ ns = [p])) ∧ H' = L2.upd (L2.upd H G (.dT [])) F0 (.dT (FT ns))) ⟨[], .inl ⟨rfl, rfl⟩, rfl⟩ (fun i H' _ ⟨ns, _, e⟩ => by rw [e]; exact SqL.of (by rw [upd_ne (ne_of_none hL1 hF)]; exact hL1)) ?_ ?_
    · rintro i x H1 H2 hi ⟨ns, hn, rfl⟩ ⟨rfl, hx⟩
      rcases hn with ⟨rfl, rfl⟩ | ⟨rfl, rfl⟩
      · cases hx
        refine ⟨rfl, ?_⟩
        dsimp only [tYes]
        rw [if_pos rfl]
        refine ⟨_, rfl, FT [], kP p, z, rfl, ?_, upd_same, by show 0 < sizeLine; decide, [p], .inr ⟨rfl, rfl⟩, ?_⟩
        · show _ = some (HO.tup [.str p.1, .str p.2])
          rw [upd_ne (ne_of_none hz1 hF)]; exact hz1
        · rw [updd2, FT_put (by simp)]; rfl
      · exact absurd (show 1 < 1 from hi) (Nat.lt_irrefl 1)
    rintro H2 ⟨ns, hn, rfl⟩
    obtain rfl : ns = [p] := by
      rcases hn with ⟨z, _⟩ | ⟨_, z⟩
      · cases z
      · exact z
    have hF2 : (L2.upd (L2.upd H G (.dT [])) F0 (.dT (FT [p]))) F0 = some (.dT (FT [p])) := upd_same
    refine ⟨_, rfl, F0, FT [p], rfl, .inl hF2, fun zs L0 hzs hL0 => ?_⟩
    have nGL : G ≠ L0 := fun e => by rw [← e, upd_ne nGF, upd_same] at hL0; cases hL0
    have nFL : F0 ≠ L0 := fun e => by rw [← e, upd_same] at hL0; cases hL0
    have hL0' : H L0 = none := upd_none' (upd_none' hL0)
    have hzs : PL (L2.upd (L2.upd H G (.dT [])) F0 (.dT (FT [p]))) zs [p] := by
      match zs, hzs with
      | [y], .cons e .nil => exact .cons e .nil
    have s0 : Same H (cut [G, F0, L0] (L2.upd (L2.upd (L2.upd H G (.dT [])) F0 (.dT (FT [p]))) L0 (.lst (zs.map V.ref)))) := fun b o e => by
      have n1 : b ≠ G := fun q => by rw [q, hG] at e; cases e
      have n2 : b ≠ F0 := fun q => by rw [q, hF'] at e; cases e
      have n3 : b ≠ L0 := fun q => by rw [q, hL0'] at e; cases e
      rw [cut_out (by simp [n1, n2, n3]), upd_ne n3, upd_ne n2, upd_ne n1]; exact e
    have hG3 : (L2.upd (L2.upd (L2.upd H G (.dT [])) F0 (.dT (FT [p]))) L0 (.lst (zs.map V.ref))) G = some (.dT []) := by rw [upd_ne nGL, upd_ne nGF, upd_same]
    have hF3 : (L2.upd (L2.upd (L2.upd H G (.dT [])) F0 (.dT (FT [p]))) L0 (.lst (zs.map V.ref))) F0 = some (.dT (FT [p])) := by rw [upd_ne nFL, upd_same]
    have hL3 : (L2.upd (L2.upd (L2.upd H G (.dT [])) F0 (.dT (FT [p]))) L0 (.lst (zs.map V.ref))) L0 = some (.lst (zs.map V.ref)) := upd_same
    have hzs3 : PL (cut [G, F0, L0] (L2.upd (L2.upd (L2.upd H G (.dT [])) F0 (.dT (FT [p]))) L0 (.lst (zs.map V.ref)))) zs [p] := pl_cut (hzs.same (Same.new hL0)) fun q hq => by
      rcases List.mem_cons.mp hq with e | hq
      · rw [e]; exact .inl ⟨_, hG3⟩
      rcases List.mem_cons.mp hq with e | hq
      · rw [e]; exact .inl ⟨_, hF3⟩
      · rw [List.mem_singleton.mp hq]; exact .inr ⟨_, hL3⟩
    generalize (L2.upd (L2.upd (L2.upd H G (.dT [])) F0 (.dT (FT [p]))) L0 (.lst (zs.map V.ref))) = H3 at s0 hG3 hF3 hL3 hzs3
    refine ⟨fun m σ H' => ∃ (gs ls : List Pr) (kvs : List (List Key × V)) (zs : List Addr) (Lr : Addr) (v6 v7 v8 : Option V), σ = [some (.ref fN), some (.ref B), some (.ref L), some (.ref G), some (.ref F0), some (.ref Lr), v6, v7, v8] ∧ Same H (cut [G, F0, Lr] H') ∧ H Lr = none ∧ H' G = some (.dT kvs) ∧ H' F0 = some (.dT (FT (gs ++ ls))) ∧ H' Lr = some (.lst (zs.map V.ref)) ∧
        PL (cut [G, F0, Lr] H') zs ls ∧ QRows (cut [G, F0, Lr] H') (nextP bk cl) kvs gs ∧ BIp (nextP bk cl) p gs (gs ++ ls) ∧ m = 2 * (3601 - (gs ++ ls).length) + (if ls = [] then 0 else 1),
      ⟨_, [], [p], [], zs, L0, none, none, none, rfl, s0, hL0', hG3, hF3, hL3, hzs3, .nil, ⟨List.nodup_cons.mpr ⟨by simp, List.nodup_nil⟩, fun x hx => (List.mem_singleton.mp hx) ▸ .here, List.mem_singleton.mpr rfl, fun x hx => by cases hx⟩, rfl⟩, ?_⟩
    rintro m σ H1 ⟨gs, ls, kvs, zs, Lr, v6, v7, v8, rfl, s1, nL, hG1, hF1, hL1, hz1, hR1, b0, rfl⟩
    refine ⟨_, rfl, _, .inl ⟨_, SqL.of hL1, rfl⟩, ?_⟩
    have lz : zs.length = ls.length := paired_len hz1
    by_cases hls : ls = []
    · subst hls
      have : zs = [] := List.length_eq_zero_iff.mp lz
      subst this
      refine (if_neg (by decide)).mpr ⟨_, rfl, k H1 G gs (Same.trans s1 cut_le) hG ⟨kvs, hG1, hR1.same cut_le⟩ ?_⟩
      rw [List.append_nil] at b0
      exact b0.done
    have npos : zs.isEmpty = false := by
      cases zs with
      | nil => exact absurd (List.length_eq_zero_iff.mp lz.symm) hls
      | cons _ _ => rfl
    refine (if_pos (by rw [List.isEmpty_map, npos]; rfl)).mpr ⟨_, fun σ' H' h => h, ?_⟩
    refine ⟨by decide, fun C0 hC0 => ?_⟩
    have nGC : G ≠ C0 := ne_of_none hG1 hC0
    have nFC : F0 ≠ C0 := ne_of_none hF1 hC0
    have nLC : Lr ≠ C0 := ne_of_none hL1 hC0
    have nGLr : G ≠ Lr := fun e => by rw [e, hL1] at hG1; cases hG1
    have nFLr : F0 ≠ Lr := fun e => by rw [e, hL1] at hF1; cases hF1
    have sH1 : Same H H1 := Same.trans s1 cut_le
    have nC : H C0 = none := sH1.free hC0
    have sC : Same (cut [G, F0, Lr] H1) (cut [G, F0, Lr, C0] (L2.upd H1 C0 (.lst []))) := fun b o e => by
      obtain ⟨nb, e⟩ := cut_some e
      have n : b ≠ C0 := fun q => by rw [q, hC0] at e; cases e
      rw [cut_out (fun m => by
        rcases List.mem_cons.mp m with q | m
        · exact nb (by simp [q])
        rcases List.mem_cons.mp m with q | m
        · exact nb (by simp [q])
        rcases List.mem_cons.mp m with q | m
        · exact nb (by simp [q])
        · exact n (List.mem_singleton.mp m)), upd_ne n]
      exact e
    have hG2 : (L2.upd H1 C0 (.lst [])) G = some (.dT kvs) := by rw [upd_ne nGC]; exact hG1
    have hF2 : (L2.upd H1 C0 (.lst [])) F0 = some (.dT (FT (gs ++ ls))) := by rw [upd_ne nFC]; exact hF1
    have hL2 : (L2.upd H1 C0 (.lst [])) Lr = some (.lst (zs.map V.ref)) := by rw [upd_ne nLC]; exact hL1
    refine ⟨_, rfl, Lr, rfl, ⟨_, SqL.of hL2⟩, ?_⟩
    refine for_list (K := K) (a := Lr) (xs := zs.map V.ref) (fun i σ H' => ∃ (kvs : List (List Key × V)) (cs : List Pr) (ys : List Addr) (v7 v8 : Option V), σ = [some (.ref fN), some (.ref B), some (.ref L), some (.ref G), some (.ref F0), some (.ref Lr), some (.ref C0), v7, v8] ∧ Same H (cut [G, F0, Lr, C0] H') ∧ H' G = some (.dT kvs) ∧ H' F0 = some (.dT (FT (gs ++ ls ++ cs))) ∧ H' Lr = some (.lst (zs.map V.ref)) ∧ H' C0 = some (.lst (ys.map V.ref)) ∧
        PL (cut [G, F0, Lr, C0] H') zs ls ∧ PL (cut [G, F0, Lr, C0] H') ys cs ∧ QRows (cut [G, F0, Lr, C0] H') (nextP bk cl) kvs (gs ++ ls.take i) ∧ BIp (nextP bk cl) p (gs ++ ls.take i) (gs ++ ls ++ cs))
      ⟨kvs, [], [], v7, v8, rfl, Same.trans s1 sC, hG2, by rw [List.append_nil]; exact hF2, hL2, upd_same, hz1.same sC, .nil, by rw [List.take_zero, List.append_nil]; exact hR1.same sC, by rw [List.take_zero, List.append_nil, List.append_nil]; exact b0⟩
      (fun i σ H' _ ⟨_, _, _, _, _, _, _, _, _, z, _⟩ => SqL.of z) ?_ ?_
    · rintro i v σ H3 hv ⟨kvs, cs, ys, v7, v8, rfl, s3, hG3, hF3, hL3, hC3, hz3, hy3, hR3, b3⟩
      obtain ⟨zx, hzx, rfl⟩ := D1.get_map hv
      obtain ⟨x, hx, hax⟩ := paired_get hz3 hzx
      have hax3 : PAt H3 zx x := cut_le _ _ hax
      have rx : Rn (nextP bk cl) p x := b0.rc x (List.mem_append_right _ (List.mem_of_getElem? hx))
      have ix := rx.inP bb hp
      have nx0 : x ∉ gs ++ ls.take i := not_before b0.nd hx
      have sH3 : Same H H3 := Same.trans s3 cut_le
      obtain ⟨b1, b2, eB, f1, f2⟩ := id hB
      have l3 := b3.le bb hp
      have lk : kvs.length ≤ 3600 := by
        rw [hR3.len]
        have := b0.le bb hp
        have : (gs ++ ls.take i).length ≤ (gs ++ ls).length := by rw [List.length_append, List.length_append, List.length_take]; omega
        omega
      refine ⟨rfl, _, rfl, _, rfl, B, zx, b1, b2, bk, cl, x, rfl, sH3 _ _ eB, f1.same sH3, f2.same sH3, hax3, ix.1, ix.2, bb.w1, bb.w2, bb.n1, bb.n2, fun H4 R s4 nR hR => ?_⟩
      have hG4 := s4 _ _ hG3
      have hF4 := s4 _ _ hF3
      have hL4 := s4 _ _ hL3
      have hC4 := s4 _ _ hC3
      refine ⟨_, rfl, _, rfl, G, _, rfl, DPut.t (k := kP x) hG4 (s4 _ _ hax3) (by rw [sizeLine_eq]; omega), ?_⟩
      have vn := valT_none nx0 hR3.keys
      rw [L2.putK_new _ vn]
      have soft : ∀ q ∈ [G, F0, Lr, C0], (∃ kvs, H4 q = some (.dT kvs)) ∨ ∃ xs, H4 q = some (.lst xs) := fun q hq => by
        rcases List.mem_cons.mp hq with e | hq
        · rw [e]; exact .inl ⟨_, hG4⟩
        rcases List.mem_cons.mp hq with e | hq
        · rw [e]; exact .inl ⟨_, hF4⟩
        rcases List.mem_cons.mp hq with e | hq
        · rw [e]; exact .inr ⟨_, hL4⟩
        · rw [List.mem_singleton.mp hq]; exact .inr ⟨_, hC4⟩
      have hRc := ptat_cut hR soft
      have s34 : Same (cut [G, F0, Lr, C0] H3) (cut [G, F0, Lr, C0] H4) := cut_same s4
      have hQ : QRows (cut [G, F0, Lr, C0] H4) (nextP bk cl) (kvs ++ [(kP x, .ref R)]) (gs ++ ls.take (i + 1)) := by
        rw [take_succ_get hx, ← List.append_assoc]
        exact paired_snoc (hR3.same s34) ⟨rfl, R, rfl, hRc⟩
      obtain ⟨kr, eRc, pR⟩ := id hRc
      obtain ⟨nRS, eR⟩ := cut_some eRc
      have vs1 : valV (kvs ++ [(kP x, V.ref R)]) (kP x) = some (.ref R) := valT_snoc vn
      generalize kvs ++ [(kP x, V.ref R)] = kvs' at hQ vs1
      have nRG : R ≠ G := fun e => nRS (by simp [e])
      have nRF : R ≠ F0 := fun e => nRS (by simp [e])
      have nRL : R ≠ Lr := fun e => nRS (by simp [e])
      have nRC : R ≠ C0 := fun e => nRS (by simp [e])
      have nGF' : G ≠ F0 := nGF
      have hG5 : (L2.upd H4 G (.dT kvs')) G = some (.dT kvs') := upd_same
      have hF5 : (L2.upd H4 G (.dT kvs')) F0 = some (.dT (FT (gs ++ ls ++ cs))) := by rw [upd_ne nGF.symm]; exact hF4
      have hL5 : (L2.upd H4 G (.dT kvs')) Lr = some (.lst (zs.map V.ref)) := by rw [upd_ne nGLr.symm]; exact hL4
      have hC5 : (L2.upd H4 G (.dT kvs')) C0 = some (.lst (ys.map V.ref)) := by rw [upd_ne nGC.symm]; exact hC4
      have hR5 : (L2.upd H4 G (.dT kvs')) R = some (.dK kr) := by rw [upd_ne nRG]; exact eR
      have c5 : cut [G, F0, Lr, C0] (L2.upd H4 G (.dT kvs')) = cut [G, F0, Lr, C0] H4 := cut_upd (by simp)
      rw [← c5] at hQ pR s34
      generalize L2.upd H4 G (.dT kvs') = H5 at hG5 hF5 hL5 hC5 hR5 hQ pR s34
      refine ⟨R, _, hR5, trivial, fun od => ?_⟩
      have e6 : ∀ b, b ≠ R → (L2.upd H5 R (.frz od (.dK kr))) b = H5 b := fun b n => upd_ne n
      have ax5 : PAt H5 zx x := cut_le _ _ (s34 _ _ hax)
      have nzR : zx ≠ R := fun e => by have ax5 : H5 zx = _ := ax5; rw [e, hR5] at ax5; cases ax5
      have dg : DGet (L2.upd H5 R (.frz od (.dK kr))) G (.ref zx) (some (.ref R)) := by
        rw [← vs1]
        exact DGet.t (k := kP x) (by rw [e6 _ nRG.symm]; exact hG5) (by rw [e6 _ nzR]; exact ax5)
      refine ⟨_, rfl, _, rfl, G, _, rfl, dg, R, od, kr, rfl, upd_same, ?_⟩
      refine for_it (walk_values (d := R) (o := od) (kvs := kr)) (fun j σ H' => ∃ (cs : List Pr) (ys : List Addr) (v8 : Option V), σ = [some (.ref fN), some (.ref B), some (.ref L), some (.ref G), some (.ref F0), some (.ref Lr), some (.ref C0), some (.ref zx), v8] ∧ Same (cut [G, F0, Lr, C0] (L2.upd H5 R (.frz od (.dK kr)))) (cut [G, F0, Lr, C0] H') ∧ H' G = some (.dT kvs') ∧ H' F0 = some (.dT (FT (gs ++ ls ++ cs))) ∧ H' Lr = some (.lst (zs.map V.ref)) ∧ H' C0 = some (.lst (ys.map V.ref)) ∧
          PL (cut [G, F0, Lr, C0] H') ys cs ∧ BIp (nextP bk cl) p (gs ++ ls.take i) (gs ++ ls ++ cs) ∧ ∀ t ∈ (nextP bk cl x).take j, t.2 ∈ gs ++ ls ++ cs)
        ⟨cs, ys, v8, rfl, Same.refl _, by rw [e6 _ nRG.symm]; exact hG5, by rw [e6 _ nRF.symm]; exact hF5, by rw [e6 _ nRL.symm]; exact hL5, by rw [e6 _ nRC.symm]; exact hC5, pl_lock hR5 (hy3.same s34), b3, fun t ht => by simp at ht⟩
        (fun j σ H' _ ⟨_, _, _, _, z, _⟩ => (cut_some (z R _ (by rw [cut_out nRS, upd_same]))).2) ?_ ?_
      · rintro j v σ H7 H8 hj ⟨cs, ys, v8, rfl, s7, hG7, hF7, hL7, hC7, hy7, b7, t7⟩ ⟨rfl, kk, hk⟩
        obtain ⟨t, ht, ek, u, eu, hut⟩ := paired_get pR hk
        have eu : v = .ref u := eu
        subst eu
        have hut : PAt (cut [G, F0, Lr, C0] H5) u t.2 := hut
        obtain ⟨nuS, hu5⟩ := cut_some hut
        have nuR : u ≠ R := fun e => by rw [e, hR5] at hu5; cases hu5
        have hu7c : PAt (cut [G, F0, Lr, C0] H8) u t.2 := s7 _ _ (by rw [cut_out nuS, e6 _ nuR]; exact hu5)
        have hu7 : PAt H8 u t.2 := cut_le _ _ hu7c
        have htm : t ∈ nextP bk cl x := List.mem_of_getElem? ht
        have etk : ∀ u, u ∈ (nextP bk cl x).take (j + 1) ↔ u ∈ (nextP bk cl x).take j ∨ u = t := fun u => by rw [take_succ_get ht, List.mem_append, List.mem_singleton]
        have l7 := b7.le bb hp
        refine ⟨_, rfl, _, rfl, F0, _, rfl, DGet.t (k := kP t.2) hF7 hu7, _, rfl, ?_⟩
        rw [FT_val]
        by_cases c : t.2 ∈ gs ++ ls ++ cs
        · rw [decide_eq_true c]
          exact iteF ⟨cs, ys, _, rfl, s7, hG7, hF7, hL7, hC7, hy7, b7, fun u hu => ((etk u).mp hu).elim (t7 u) fun e => e ▸ c⟩
        · rw [decide_eq_false c]
          refine iteT ⟨_, rfl, _, rfl, F0, _, rfl, DPut.t (k := kP t.2) hF7 hu7 (by rw [FT, List.length_map, sizeLine_eq]; omega), ?_⟩
          rw [FT_put c]
          have hC9 : (L2.upd H8 F0 (.dT (FT (gs ++ ls ++ cs ++ [t.2])))) C0 = some (.lst (ys.map V.ref)) := by rw [upd_ne nFC.symm]; exact hC7
          have lys : ys.length = cs.length := paired_len hy7
          have lcs : cs.length ≤ 3600 := by rw [List.length_append] at l7; omega
          refine ⟨_, rfl, .inl ⟨rfl, _, SqL.of hC9⟩, _, rfl, C0, _, _, rfl, rfl, hC9, by rw [List.length_map, sizeLine_eq]; omega, ?_⟩
          have cc : cut [G, F0, Lr, C0] (L2.upd (L2.upd H8 F0 (.dT (FT (gs ++ ls ++ cs ++ [t.2])))) C0 (.lst (ys.map V.ref ++ [.ref u]))) = cut [G, F0, Lr, C0] H8 := by rw [cut_upd (by simp), cut_upd (by simp)]
          refine ⟨cs ++ [t.2], ys ++ [u], _, rfl, by rw [cc]; exact s7, by rw [upd_ne nGC, upd_ne nGF]; exact hG7, by rw [upd_ne nFC, upd_same, List.append_assoc], by rw [upd_ne nLC, upd_ne nFLr.symm]; exact hL7, by rw [upd_same, List.map_append]; rfl, by rw [cc]; exact paired_snoc hy7 hu7c, ?_, fun u hu => ?_⟩
          · rw [← List.append_assoc]
            exact b7.find c (.next rx htm)
          · rw [← List.append_assoc]
            rcases (etk u).mp hu with z | z
            · exact List.mem_append_left _ (t7 u z)
            · rw [z]; exact List.mem_append_right _ (List.mem_singleton.mpr rfl)
      · rintro σ H7 ⟨cs, ys, v8, rfl, s7, hG7, hF7, hL7, hC7, hy7, b7, t7⟩
        have un : Same (cut [G, F0, Lr, C0] H5) (cut [G, F0, Lr, C0] (L2.upd H7 R (.dK kr))) := cut_unlock nRS hR5 s7
        have fR : H7 R = some (.frz od (.dK kr)) := (cut_some (s7 R _ (by rw [cut_out nRS, upd_same]))).2
        refine ⟨fR, kvs', cs, ys, _, _, rfl, Same.trans s3 (Same.trans s34 un), by rw [upd_ne nRG.symm]; exact hG7, by rw [upd_ne nRF.symm]; exact hF7, by rw [upd_ne nRL.symm]; exact hL7, by rw [upd_ne nRC.symm]; exact hC7, hz3.same (Same.trans s34 un), pl_unlock fR hy7, hQ.same un, b7.nd, b7.rc, b7.st, fun y hy t ht => ?_⟩
        rw [take_succ_get hx, ← List.append_assoc] at hy
        rcases List.mem_append.mp hy with z | z
        · exact b7.cl y z t ht
        · rw [List.mem_singleton.mp z] at ht
          refine t7 t ?_
          rw [PRows.len pR, List.take_length]; exact ht
    · rintro σ H3 ⟨kvs, cs, ys, v7, v8, rfl, s3, hG3, hF3, hL3, hC3, hz3, hy3, hR3, b3⟩
      rw [List.length_map, lz, List.take_length] at hR3 b3
      have mo : Same (cut [G, F0, Lr, C0] H3) (cut [G, F0, C0] H3) := cut_mono fun b hb => by
        rcases List.mem_cons.mp hb with e | hb
        · simp [e]
        rcases List.mem_cons.mp hb with e | hb
        · simp [e]
        · simp [List.mem_singleton.mp hb]
      refine ⟨_, rfl, _, ?_, gs ++ ls, cs, kvs, ys, C0, _, _, _, rfl, Same.trans s3 mo, nC, hG3, hF3, hC3, hy3.same mo, hR3.same mo, b3, rfl⟩
      have l1 := b3.le bb hp
      rw [if_neg hls]
      rw [List.length_append (bs := cs)] at l1 ⊢
      by_cases h : cs = []
      · rw [if_pos h, h, List.length_nil]; omega
      · rw [if_neg h]
        have : 0 < cs.length := List.length_pos_iff.mpr h
        omega
end
end D1
end L2
/-! nodes_before -/
namespace L2
namespace D1
open PySem PySem.Spec PyProof.Rows D2 X5 X6
abbrev sBefore : Stmt := top 15
/-- those from which one word leads to n -/
def befP (nx : Pr → List (Str × Pr)) (n : Pr) (es : List Pr) : List Pr := es.flatMap fun e => ((nx e).filter fun t => decide (t.2 = n)).map fun _ => e
theorem mem_befP {nx : Pr → List (Str × Pr)} {n e : Pr} {es : List Pr} : e ∈ befP nx n es ↔ e ∈ es ∧ ∃ t ∈ nx e, t.2 = n := by
  unfold befP
  rw [List.mem_flatMap]
  constructor
  · rintro ⟨y, hy, h⟩
    obtain ⟨t, ht, rfl⟩ := List.mem_map.mp h
    obtain ⟨h1, h2⟩ := List.mem_filter.mp ht
    exact ⟨hy, t, h1, of_decide_eq_true h2⟩
  · rintro ⟨hy, t, ht, e1⟩
    exact ⟨e, hy, List.mem_map.mpr ⟨t, List.mem_filter.mpr ⟨ht, decide_eq_true e1⟩, rfl⟩⟩
theorem befP_snoc (nx : Pr → List (Str × Pr)) (n : Pr) (es : List Pr) (e : Pr) : befP nx n (es ++ [e]) = befP nx n es ++ ((nx e).filter fun t => decide (t.2 = n)).map fun _ => e := by
  unfold befP; rw [List.flatMap_append]; simp
theorem befP_len {nx : Pr → List (Str × Pr)} {n : Pr} : ∀ {es : List Pr}, (∀ e ∈ es, (nx e).length ≤ 60) → (befP nx n es).length ≤ 60 * es.length
  | [], _ => by simp [befP]
  | e :: r, h => by
    have ih := befP_len (n := n) (es := r) fun y hy => h y (List.mem_cons_of_mem _ hy)
    have l0 := h e (by simp)
    unfold befP at ih ⊢
    rw [List.flatMap_cons, List.length_append, List.length_map, List.length_cons]
    have := List.length_filter_le (fun t => decide (t.2 = n)) (nx e)
    omega
def bK (ns : List Pr) (ls : List Addr) : List (List Key × V) := List.zipWith (fun n l => (kP n, V.ref l)) ns ls
theorem bK_keys : ∀ {ns : List Pr} {ls : List Addr}, ls.length = ns.length → (bK ns ls).map (·.1) = ns.map kP
  | [], [], _ => rfl
  | n :: ns, l :: ls, h => by
    show kP n :: (bK ns ls).map (·.1) = kP n :: ns.map kP
    rw [bK_keys (by simpa using h)]
theorem bK_len {ns : List Pr} {ls : List Addr} (h : ls.length = ns.length) : (bK ns ls).length = ns.length := by
  unfold bK; rw [List.length_zipWith, h, Nat.min_self]
theorem bK_snoc {ns : List Pr} {ls : List Addr} {n : Pr} {l : Addr} (h : ls.length = ns.length) : bK (ns ++ [n]) (ls ++ [l]) = bK ns ls ++ [(kP n, .ref l)] := by
  unfold bK; rw [List.zipWith_append h.symm]; rfl
theorem bK_look : ∀ {ns : List Pr} {ls : List Addr}, ls.length = ns.length → ∀ {n : Pr}, n ∈ ns → ∃ (k : Nat) (l : Addr), ns[k]? = some n ∧ ls[k]? = some l ∧ valV (bK ns ls) (kP n) = some (.ref l)
  | m :: ns, l :: ls, h, n, hn => by
    by_cases c : m = n
    · subst c; exact ⟨0, l, rfl, rfl, valV_pos rfl⟩
    · obtain ⟨k, l', e1, e2, e3⟩ := bK_look (ns := ns) (ls := ls) (by simpa using h) ((List.mem_cons.mp hn).resolve_left fun q => c q.symm)
      exact ⟨k + 1, l', e1, e2, (valV_neg (fun q => c (kP_inj q))).trans e3⟩
/-- lists of pairs at the addresses ls -/
def LsC (ls : List Addr) (H : Hp) (f : Pr → List Pr) (ns : List Pr) : Prop := ∀ (k : Nat) (l : Addr) (n : Pr), ls[k]? = some l → ns[k]? = some n → ∃ zs : List Addr, H l = some (.lst (zs.map V.ref)) ∧ PL (cut ls H) zs (f n)
theorem nd_idx {α : Type} {l : List α} (nd : l.Nodup) {i j : Nat} {x : α} (h1 : l[i]? = some x) (h2 : l[j]? = some x) : i = j :=
  (List.getElem?_inj (List.getElem?_eq_some_iff.mp h1).1 nd).mp (h1.trans h2.symm)
theorem LsC.put {ls : List Addr} {H : Hp} {f : Pr → List Pr} {ns : List Pr} (h : LsC ls H f ns) (nl : ls.Nodup) (nn : ns.Nodup) {k : Nat} {l z : Addr} {n x : Pr} {zs : List Addr} (hk : ns[k]? = some n) (hl : ls[k]? = some l) (e : H l = some (.lst (zs.map V.ref))) (hz : PAt (cut ls H) z x) :
    LsC ls (L2.upd H l (.lst (zs.map V.ref ++ [.ref z]))) (fun m => if m = n then f m ++ [x] else f m) ns := fun k' l' n' h1 h2 => by
  rw [cut_upd (List.mem_of_getElem? hl)]
  obtain ⟨zs', e', p'⟩ := h k' l' n' h1 h2
  by_cases c : k' = k
  · subst c
    obtain rfl : l = l' := Option.some.inj (hl.symm.trans h1)
    obtain rfl : n = n' := Option.some.inj (hk.symm.trans h2)
    rw [e] at e'
    have e2 : zs.map V.ref = zs'.map V.ref := HO.lst.inj (Option.some.inj e')
    refine ⟨zs' ++ [z], by rw [upd_same, List.map_append, e2]; rfl, ?_⟩
    dsimp only
    rw [if_pos rfl]
    exact paired_snoc p' hz
  · have n1 : l' ≠ l := fun q => c (nd_idx nl h1 (q ▸ hl))
    have n2 : n' ≠ n := fun q => c (nd_idx nn h2 (q ▸ hk))
    refine ⟨zs', by rw [upd_ne n1]; exact e', ?_⟩
    dsimp only
    rw [if_neg n2]
    exact p'
theorem LsC.upd {ls : List Addr} {H : Hp} {f : Pr → List Pr} {ns : List Pr} {R : Addr} {u : HO} (h : LsC ls H f ns) (h1 : ∀ xs, H R ≠ some (.lst xs)) (h2 : ∀ xs, H R ≠ some (.tup xs)) : LsC ls (L2.upd H R u) f ns := fun k l n e1 e2 => by
  obtain ⟨zs, e, p⟩ := h k l n e1 e2
  refine ⟨zs, by rw [upd_ne (fun q => h1 _ (q ▸ e))]; exact e, paired_imp (fun z q hz => ?_) p⟩
  have hz : cut ls H z = _ := hz
  obtain ⟨nz, hz⟩ := cut_some hz
  show cut ls _ z = _
  rw [cut_out nz, upd_ne (fun w => h2 _ (w ▸ hz))]; exact hz
theorem LsC.ext {ls : List Addr} {H : Hp} {f g : Pr → List Pr} {ns : List Pr} (h : LsC ls H f ns) (e : ∀ n ∈ ns, f n = g n) : LsC ls H g ns := fun k l n e1 e2 => by
  obtain ⟨zs, q, p⟩ := h k l n e1 e2
  exact ⟨zs, q, e n (List.mem_of_getElem? e2) ▸ p⟩
theorem valT_get : ∀ {kvs : List (List Key × V)} {ps : List Pr}, kvs.map (·.1) = ps.map kP → ps.Nodup → ∀ {i : Nat} {x : Pr} {v : V}, kvs[i]? = some (kP x, v) → valV kvs (kP x) = some v
  | kv :: r, p :: ps, e, nd, 0, x, v, h => by
    obtain rfl : kv = (kP x, v) := Option.some.inj h
    exact valV_pos rfl
  | kv :: r, p :: ps, e, nd, i + 1, x, v, h => by
    rw [List.map_cons, List.map_cons] at e
    injection e with e1 e2
    have n := List.nodup_cons.mp nd
    have m : kP x ∈ ps.map kP := by rw [← e2]; exact List.mem_map.mpr ⟨(kP x, v), List.mem_of_getElem? (by simpa using h), rfl⟩
    obtain ⟨y, hy, ey⟩ := List.mem_map.mp m
    rw [valV_neg (fun q => n.1 (by rw [← kP_inj (ey.trans (q.symm.trans e1))]; exact hy))]
    exact valT_get e2 n.2 (i := i) (by simpa using h)
def spBefore : Sp := fun vs H Q _ => ∃ (G : Addr) (nx : Pr → List (Str × Pr)) (ns : List Pr), vs = [.ref G] ∧ QrAt H G nx ns ∧ ns.Nodup ∧ ns.length ≤ 3600 ∧ (∀ x ∈ ns, (nx x).length ≤ 60) ∧ (∀ x ∈ ns, ∀ t ∈ nx x, t.2 ∈ ns) ∧
  ∀ H' D ls, Same H H' → H D = none → H' D = some (.dT (bK ns ls)) → ls.length = ns.length → LsC ls H' (fun n => befP nx n ns) ns → Q (.ref D) H'
section
variable {P : Program} {w : World} {K : PySem.W.Frag} {mg : Str → Option Value} {base : Heap} {C : Addr}
abbrev beN : List Str := ["graph", "before", "node", "goal"]
theorem scBe : FnScope beN ["graph"] (defScope sBefore) := ⟨rfl, rfl, rfl, by decide +kernel, rfl, by decide +kernel, by decide +kernel⟩
theorem ok_before {f : Addr} {fd : FuncData} (F : Fun K "nodes_before" "nodes_before" sBefore f fd) : FnOk P w K mg base CX0 1 f fd ["graph"] spBefore := by
  refine F.ok scBe (fun vs H Q E h => ?_) (fun cdv A outer s H vs Q E hr h => ?_)
  · obtain ⟨G, nx, ns, rfl, _⟩ := h; rfl
  · obtain ⟨G, nx, ns, rfl, ⟨kvs, hG, hR⟩, nd, l36, l60, cl, k⟩ := h
    have hu := hu_of hr
    refine ⟨_, pss_cons (ps_lock (ps_setDcT (i := 1) (own := [("node", 2)]) (g := gName 2) (tt := tYes) (tk := tVar 2) (tv := tLst tNil) (Nat.lt_of_succ_lt hu) rfl scBe.nd rfl rfl (sw_trueD rfl rfl (by rfl) (by decide +kernel)) (pi_keys (pv 0)) (blkOk_by (N := beN) (sc := defScope sBefore) (by decide +kernel))
          (fun _ _ _ _ _ => pg_name (i := 2) scBe.nd rfl (Or.inl rfl)) (fun _ _ _ _ _ => pts_nil) (fun _ _ _ _ _ => pv 2) (fun _ _ _ _ _ => pe_lst pa_nil)))
      (pss_cons (ps_lock (ps_for PassesOwn.never rfl (pi_keys (pv 0)) (pg_name (i := 2) scBe.nd rfl (Or.inl rfl))
        (pss_one (ps_lock (ps_for PassesOwn.never rfl (pi_values (pe_dget hu (pv 0) (pv 2) (fun _ _ => rfl))) (pg_name (i := 3) scBe.nd rfl (Or.inl rfl))
          (pss_one (ps_expr (pe_bm PySem.F.plainAttrs_list PySem.F.slot_list_append PySem.F.type_list_append mt_append (pe_dget hu (pv 1) (pv 3) (fun _ _ => rfl)) (pa_cons (pv 2) pa_nil)))))))))
      (pss_one (ps_ret (pv 1)))), ?_⟩
    refine ⟨G, _, hG, trivial, fun od => ?_⟩
    refine ⟨_, rfl, G, od, rfl, .inr ⟨kvs, upd_same, fun D hD => ?_⟩⟩
    have nDG : D ≠ G := fun e => by rw [e, upd_same] at hD; cases hD
    have lk : kvs.length = ns.length := hR.len
    refine dct_it (walk_keysT (d := G) (o := od) (kvs := kvs)) (fun i H' => ∃ ls : List Addr, ls.length = (ns.take i).length ∧ Same (L2.upd H G (.frz od (.dT kvs))) H' ∧ H' D = some (.dT (bK (ns.take i) ls)) ∧ (∀ l ∈ ls, H' l = some (.lst []) ∧ H l = none) ∧ ls.Nodup)
      ⟨[], by simp, Same.new hD, by rw [upd_same, List.take_zero]; rfl, fun l hl => (by cases hl), List.nodup_nil⟩ (fun i H' _ ⟨_, _, z, _⟩ => z _ _ upd_same) ?_ ?_
    · rintro i x H2 H3 hi ⟨ls, ll, s2, hD2, hls, ndl⟩ ⟨rfl, k0, v0, q, hkv, rfl, hq⟩
      obtain ⟨n, hn, ek, a, ea, ha⟩ := paired_get hR hkv
      have ek : k0 = kP n := ek
      subst ek
      refine ⟨rfl, ?_⟩
      dsimp only [tYes]
      rw [if_pos rfl]
      refine ⟨_, rfl, by decide, fun l hl => ?_⟩
      have nDl : D ≠ l := ne_of_none hD2 hl
      have nq : q ≠ l := ne_of_none hq hl
      have nn : n ∉ ns.take i := by have := not_before (gs := []) (ls := ns) (by simpa using nd) hn; simpa using this
      have hln : H l = none := by have := s2.free hl; exact upd_none' this
      refine ⟨_, kP n, q, rfl, by rw [upd_ne nq]; exact hq, by rw [upd_ne nDl]; exact hD2, by rw [bK_len ll, List.length_take, sizeLine_eq]; omega, ls ++ [l], ?_, ?_, ?_, ?_, ?_⟩
      · rw [take_succ_get hn, List.length_append, List.length_append, ll]; rfl
      · intro b o e
        have n1 : b ≠ l := ne_of_none e (s2.free hl)
        have n2 : b ≠ D := ne_of_none e hD
        rw [upd_ne n2, upd_ne n1]; exact s2 _ _ e
      · rw [upd_same, L2.putK_new _ (valT_none nn (bK_keys ll)), take_succ_get hn, bK_snoc ll]
      · intro l' hl'
        rcases List.mem_append.mp hl' with z | z
        · obtain ⟨h1, h2⟩ := hls l' z
          have n1 : l' ≠ l := ne_of_none h1 hl
          have n2 : l' ≠ D := fun e => by rw [e, hD2] at h1; cases h1
          exact ⟨by rw [upd_ne n2, upd_ne n1]; exact h1, h2⟩
        · rw [List.mem_singleton.mp z]
          exact ⟨by rw [upd_ne nDl.symm, upd_same], hln⟩
      · exact nodup_app ndl fun m => by have := (hls l m).1; rw [hl] at this; cases this
    rintro H2 ⟨ls, ll, s2, hD2, hls, ndl⟩
    rw [lk, List.take_length] at ll hD2
    refine ⟨s2 _ _ upd_same, ?_⟩
    have s3 : Same H (L2.upd H2 G (.dT kvs)) := Same.unlock hG s2
    have hD3 : (L2.upd H2 G (.dT kvs)) D = some (.dT (bK ns ls)) := by rw [upd_ne nDG]; exact hD2
    have hl3 : ∀ l ∈ ls, (L2.upd H2 G (.dT kvs)) l = some (.lst []) ∧ H l = none := fun l m => by
      obtain ⟨h1, h2⟩ := hls l m
      have n : l ≠ G := fun e => by rw [e, hG] at h2; cases h2
      exact ⟨by rw [upd_ne n]; exact h1, h2⟩
    have hG3 : (L2.upd H2 G (.dT kvs)) G = some (.dT kvs) := upd_same
    have hD0 : H D = none := upd_none' hD
    generalize (L2.upd H2 G (.dT kvs)) = H3 at s3 hD3 hl3 hG3
    have nlS : ∀ {b : Addr} {o : HO}, H3 b = some o → (∀ xs, o ≠ .lst xs) → b ∉ ls := fun {b o} e ne m => by
      rw [(hl3 b m).1] at e; exact ne _ (Option.some.inj e).symm
    have nG : G ∉ ls := nlS hG3 fun _ e => by cases e
    have nD : D ∉ ls := nlS hD3 fun _ e => by cases e
    have sc : Same H (cut ls H3) := fun b o e => by
      rw [cut_out fun m => by rw [(hl3 b m).2] at e; cases e]; exact s3 _ _ e
    have hR3 : QRows (cut ls H3) nx kvs ns := hR.same sc
    refine ⟨G, _, hG3, trivial, fun od => ?_⟩
    refine ⟨_, rfl, G, od, rfl, .inr ⟨kvs, upd_same, ?_⟩⟩
    have b0 : ∀ b, b ≠ G → (L2.upd H3 G (.frz od (.dT kvs))) b = H3 b := fun b n => upd_ne n
    have L0 : LsC ls H3 (fun n => befP nx n []) ns := fun k l n e1 e2 => ⟨[], (hl3 l (List.mem_of_getElem? e1)).1, .nil⟩
    refine for_it (walk_keysT (d := G) (o := od) (kvs := kvs)) (fun i σ H' => ∃ v2 v3, σ = [some (.ref G), some (.ref D), v2, v3] ∧ Same (cut ls (L2.upd H3 G (.frz od (.dT kvs)))) (cut ls H') ∧ LsC ls H' (fun n => befP nx n (ns.take i)) ns)
      ⟨none, none, rfl, Same.refl _, by rw [List.take_zero]; exact L0.upd (fun _ e => by rw [hG3] at e; cases e) (fun _ e => by rw [hG3] at e; cases e)⟩
      (fun i σ H' _ ⟨_, _, _, z, _⟩ => (cut_some (z G _ (by rw [cut_out nG, upd_same]))).2) ?_ ?_
    · rintro i v σ H4 H5 hi ⟨v2, v3, rfl, s4, L4⟩ ⟨rfl, k0, v0, q, hkv, rfl, hq⟩
      obtain ⟨x, hx, ek, R, eR, hRx⟩ := paired_get hR3 hkv
      have ek : k0 = kP x := ek
      subst ek
      have eR : v0 = .ref R := eR
      subst eR
      have xm : x ∈ ns := List.mem_of_getElem? hx
      obtain ⟨kr, eRk, pR⟩ := hRx
      obtain ⟨nRS, eR3⟩ := cut_some eRk
      have nRG : R ≠ G := fun e => by rw [e, hG3] at eR3; cases eR3
      have up : ∀ {b : Addr} {o : HO}, b ≠ G → b ∉ ls → H3 b = some o → H5 b = some o := fun {b o} n nb e => (cut_some (s4 b o (by rw [cut_out nb, b0 _ n]; exact e))).2
      have eR5 : H5 R = some (.dK kr) := up nRG nRS eR3
      have eG5 : H5 G = some (.frz od (.dT kvs)) := (cut_some (s4 G _ (by rw [cut_out nG, upd_same]))).2
      have nDG' : D ≠ G := nDG
      have eD5 : H5 D = some (.dT (bK ns ls)) := up nDG nD hD3
      have nqR : q ≠ R := fun e => by rw [e, eR5] at hq; cases hq
      have nDR : D ≠ R := fun e => by rw [e, eR3] at hD3; cases hD3
      have vx : valV kvs (kP x) = some (.ref R) := by
        obtain ⟨a, ea, _⟩ := hR3.look xm
        have : valV kvs (kP x) = some (V.ref R) := valT_get hR3.keys nd hkv
        exact this
      refine ⟨R, _, eR5, trivial, fun od2 => ?_⟩
      have e6 : ∀ b, b ≠ R → (L2.upd H5 R (.frz od2 (.dK kr))) b = H5 b := fun b n => upd_ne n
      refine ⟨_, rfl, _, rfl, G, _, rfl, .inr ⟨kvs, kP x, q, .inr ⟨od, by rw [e6 _ nRG.symm]; exact eG5⟩, rfl, by rw [e6 _ nqR]; exact hq, vx.symm⟩, R, od2, kr, rfl, upd_same, ?_⟩
      refine for_it (walk_values (d := R) (o := od2) (kvs := kr)) (fun j σ H' => ∃ v3, σ = [some (.ref G), some (.ref D), some (.ref q), v3] ∧ Same (cut ls (L2.upd H5 R (.frz od2 (.dK kr)))) (cut ls H') ∧ LsC ls H' (fun n => befP nx n (ns.take i) ++ (((nx x).take j).filter fun t => decide (t.2 = n)).map fun _ => x) ns)
        ⟨v3, rfl, Same.refl _, (L4.upd (fun _ e => by rw [eR5] at e; cases e) (fun _ e => by rw [eR5] at e; cases e)).ext fun n _ => by simp⟩
        (fun j σ H' _ ⟨_, _, z, _⟩ => (cut_some (z R _ (by rw [cut_out nRS, upd_same]))).2) ?_ ?_
      · rintro j v σ H7 H8 hj ⟨v3, rfl, s7, L7⟩ ⟨rfl, kk, hk⟩
        obtain ⟨t, ht, ek, u, eu, hut⟩ := paired_get pR hk
        have eu : v = .ref u := eu
        subst eu
        have hut : cut ls H3 u = _ := hut
        obtain ⟨nuS, hu3⟩ := cut_some hut
        have nuG : u ≠ G := fun e => by rw [e, hG3] at hu3; cases hu3
        have nuR : u ≠ R := fun e => by rw [e, eR3] at hu3; cases hu3
        have hu5 := up nuG nuS hu3
        have up7 : ∀ {b : Addr} {o : HO}, b ≠ R → b ∉ ls → H5 b = some o → cut ls H8 b = some o := fun {b o} n nb e => s7 b o (by rw [cut_out nb, e6 _ n]; exact e)
        have hu7 := cut_le _ _ (up7 nuR nuS hu5)
        have hD7 := cut_le _ _ (up7 nDR nD eD5)
        have tm : t.2 ∈ ns := cl x xm t (List.mem_of_getElem? ht)
        obtain ⟨m, l, e1, e2, e3⟩ := bK_look ll tm
        obtain ⟨zs, eL, pz⟩ := L7 m l t.2 e2 e1
        have nqS : q ∉ ls := fun mm => by
          obtain ⟨m2, e4⟩ := List.getElem?_of_mem mm
          obtain ⟨lt2, _⟩ := List.getElem?_eq_some_iff.mp e4
          obtain ⟨zs2, e6', _⟩ := L4 m2 q (ns[m2]'(by omega)) e4 (List.getElem?_eq_getElem (by omega))
          rw [hq] at e6'; cases e6'
        have hq7 : PAt (cut ls H8) q x := up7 nqR nqS hq
        have lz : zs.length ≤ 216060 := by
          have l1 : zs.length = _ := paired_len pz
          have l2 : (befP nx t.2 (ns.take i)).length ≤ 60 * (ns.take i).length := befP_len fun e he => l60 e (List.mem_of_mem_take he)
          have l3 := List.length_filter_le (fun t' : Str × Pr => decide (t'.2 = t.2)) ((nx x).take j)
          have l4 := l60 x xm
          rw [List.length_append, List.length_map] at l1
          rw [List.length_take] at l2 l3
          omega
        refine ⟨_, rfl, _, rfl, D, _, rfl, .inr ⟨bK ns ls, kP t.2, u, .inl hD7, rfl, hu7, e3.symm⟩, .inl ⟨rfl, _, SqL.of eL⟩, _, rfl, l, _, _, rfl, rfl, eL, by rw [List.length_map, sizeLine_eq]; omega, ?_⟩
        refine ⟨_, rfl, by rw [cut_upd (List.mem_of_getElem? e2)]; exact s7, (L7.put ndl nd e1 e2 eL hq7).ext fun n _ => ?_⟩
        rw [take_succ_get ht, List.filter_append, List.map_append]
        by_cases c : n = t.2
        · rw [if_pos c, c, List.append_assoc]; simp
        · rw [if_neg c]; simp [Ne.symm c]
      · rintro σ H7 ⟨v3, rfl, s7, L7⟩
        have fR : H7 R = some (.frz od2 (.dK kr)) := (cut_some (s7 R _ (by rw [cut_out nRS, upd_same]))).2
        refine ⟨fR, _, _, rfl, Same.trans s4 (cut_unlock nRS eR5 s7), (L7.upd (fun _ e => by rw [fR] at e; cases e) (fun _ e => by rw [fR] at e; cases e)).ext fun n _ => ?_⟩
        rw [take_succ_get hx, befP_snoc, PRows.len pR, List.take_length]
    · rintro σ H4 ⟨v2, v3, rfl, s4, L4⟩
      rw [lk, List.take_length] at L4
      have fG : H4 G = some (.frz od (.dT kvs)) := (cut_some (s4 G _ (by rw [cut_out nG, upd_same]))).2
      have un : Same (cut ls H3) (cut ls (L2.upd H4 G (.dT kvs))) := cut_unlock nG hG3 s4
      refine ⟨fG, _, rfl, k _ D ls (Same.trans sc (Same.trans un cut_le)) hD0 (cut_le _ _ (un _ _ (by rw [cut_out nD]; exact hD3))) ll (L4.upd (fun _ e => by rw [fG] at e; cases e) (fun _ e => by rw [fG] at e; cases e))⟩
end
end D1
end L2
/-! how many words lead there -/
namespace L2
namespace D1
open PySem PySem.Spec PyProof.Rows D2 X5 X6
inductive Wn (nx : Pr → List (Str × Pr)) (q : Pr) : Nat → Pr → Prop
  | zero : Wn nx q 0 q
  | succ {n : Nat} {x : Pr} {t : Str × Pr} : t ∈ nx x → Wn nx q n t.2 → Wn nx q (n + 1) x
def IsD (nx : Pr → List (Str × Pr)) (q x : Pr) (n : Nat) : Prop := Wn nx q n x ∧ ∀ m, m < n → ¬ Wn nx q m x
theorem IsD.uniq {nx : Pr → List (Str × Pr)} {q x : Pr} {n m : Nat} (a : IsD nx q x n) (b : IsD nx q x m) : n = m := by
  rcases Nat.lt_trichotomy n m with h | h | h
  · exact absurd a.1 (b.2 n h)
  · exact h
  · exact absurd b.1 (a.2 m h)
theorem least_of {nx : Pr → List (Str × Pr)} {q x : Pr} : ∀ {n : Nat}, Wn nx q n x → ∃ m, m ≤ n ∧ IsD nx q x m := by
  intro n
  induction n using Nat.strongRecOn with
  | ind n ih =>
    intro h
    by_cases c : ∃ m, m < n ∧ Wn nx q m x
    · obtain ⟨m, hm, w⟩ := c
      obtain ⟨k, hk, d⟩ := ih m hm w
      exact ⟨k, by omega, d⟩
    · exact ⟨n, Nat.le_refl _, h, fun m hm w => c ⟨m, hm, w⟩⟩
theorem isD_zero {nx : Pr → List (Str × Pr)} {q x : Pr} : IsD nx q x 0 ↔ x = q := by
  constructor
  · rintro ⟨h, _⟩; cases h; rfl
  · rintro rfl; exact ⟨.zero, fun m h => by omega⟩
theorem IsD.step {nx : Pr → List (Str × Pr)} {q x : Pr} {n : Nat} (d : IsD nx q x (n + 1)) : ∃ t ∈ nx x, IsD nx q t.2 n := by
  obtain ⟨h, l⟩ := d
  cases h with
  | succ ht w => exact ⟨_, ht, w, fun m hm w' => l (m + 1) (by omega) (.succ ht w')⟩
open Classical in
noncomputable def farP (nx : Pr → List (Str × Pr)) (q x : Pr) : Option Nat := if h : ∃ n, IsD nx q x n then some (choose h) else none
theorem farP_some {nx : Pr → List (Str × Pr)} {q x : Pr} {n : Nat} : farP nx q x = some n ↔ IsD nx q x n := by
  unfold farP
  by_cases h : ∃ n, IsD nx q x n
  · rw [dif_pos h]
    have c := Classical.choose_spec h
    constructor
    · intro e; rw [← Option.some.inj e]; exact c
    · intro d; rw [c.uniq d]
  · rw [dif_neg h]
    exact ⟨fun e => (by cases e), fun d => absurd ⟨n, d⟩ h⟩
noncomputable def farV (nx : Pr → List (Str × Pr)) (q x : Pr) : Nat := (farP nx q x).getD 0
theorem farV_of {nx : Pr → List (Str × Pr)} {q x : Pr} {n : Nat} (d : IsD nx q x n) : farV nx q x = n := by rw [farV, farP_some.mpr d]; rfl
structure Lv (nx : Pr → List (Str × Pr)) (q : Pr) (ns : List Pr) (r : Nat) (ks ls : List Pr) : Prop where
  nd : ks.Nodup
  sub : ∀ x ∈ ks, x ∈ ns
  kd : ∀ x ∈ ns, x ∈ ks ↔ ∃ n, n ≤ r ∧ IsD nx q x n
  ld : ∀ x ∈ ns, x ∈ ls ↔ IsD nx q x r
  ls : ∀ x ∈ ls, x ∈ ks
structure Lj (nx : Pr → List (Str × Pr)) (q : Pr) (ns : List Pr) (r : Nat) (ks0 done es ks cs : List Pr) : Prop where
  nd : ks.Nodup
  sub : ∀ x ∈ ks, x ∈ ns
  old : ∀ x ∈ ks0, x ∈ ks
  new : ∀ x ∈ ks, x ∈ ks0 ∨ x ∈ cs
  cd : ∀ x ∈ cs, x ∈ ks ∧ IsD nx q x (r + 1)
  pr : ∀ y ∈ done, ∀ e ∈ ns, (∃ t ∈ nx e, t.2 = y) → e ∈ ks
  pe : ∀ e ∈ es, e ∈ ks
  len : ks.length = ks0.length + cs.length
theorem Lv.begin {nx : Pr → List (Str × Pr)} {q : Pr} {ns gl : List Pr} (h : (gl = [q] ∧ q ∈ ns) ∨ (gl = [] ∧ q ∉ ns)) : Lv nx q ns 0 gl gl := by
  rcases h with ⟨rfl, h⟩ | ⟨rfl, h⟩
  · refine ⟨List.nodup_cons.mpr ⟨by simp, List.nodup_nil⟩, fun x hx => (List.mem_singleton.mp hx) ▸ h, fun x hx => ?_, fun x hx => ?_, fun x hx => hx⟩
    · rw [List.mem_singleton]
      constructor
      · rintro rfl; exact ⟨0, Nat.le_refl _, isD_zero.mpr rfl⟩
      · rintro ⟨n, hn, d⟩
        obtain rfl : n = 0 := by omega
        exact isD_zero.mp d
    · rw [List.mem_singleton]; exact isD_zero.symm
  · refine ⟨List.nodup_nil, fun x hx => (by cases hx), fun x hx => ⟨fun z => (by cases z), ?_⟩, fun x hx => ⟨fun z => (by cases z), fun d => absurd (isD_zero.mp d ▸ hx) h⟩, fun x hx => hx⟩
    rintro ⟨n, hn, d⟩
    obtain rfl : n = 0 := by omega
    exact absurd (isD_zero.mp d ▸ hx) h
theorem Lv.enter {nx : Pr → List (Str × Pr)} {q : Pr} {ns ks ls : List Pr} {r : Nat} (b : Lv nx q ns r ks ls) : Lj nx q ns r ks [] [] ks [] :=
  ⟨b.nd, b.sub, fun _ h => h, fun _ h => .inl h, (fun _ h => by cases h), (fun _ h => by cases h), (fun _ h => by cases h), rfl⟩
theorem Lj.find {nx : Pr → List (Str × Pr)} {q : Pr} {ns ks0 ls done es ks cs : List Pr} {r : Nat} (b : Lj nx q ns r ks0 done es ks cs) (b0 : Lv nx q ns r ks0 ls) {y e : Pr} (hy : IsD nx q y r) (he : e ∈ ns) (ht : ∃ t ∈ nx e, t.2 = y) (n : e ∉ ks) :
    IsD nx q e (r + 1) ∧ Lj nx q ns r ks0 done (es ++ [e]) (ks ++ [e]) (cs ++ [e]) := by
  obtain ⟨t, ht, rfl⟩ := ht
  have d : IsD nx q e (r + 1) := by
    refine ⟨.succ ht hy.1, fun m hm w => ?_⟩
    obtain ⟨k, hk, d⟩ := least_of w
    exact n (b.old _ ((b0.kd e he).mpr ⟨k, by omega, d⟩))
  refine ⟨d, nodup_app b.nd n, ?_, fun x hx => List.mem_append_left _ (b.old x hx), ?_, ?_, fun y hy e' he' ht' => List.mem_append_left _ (b.pr y hy e' he' ht'), ?_, by rw [List.length_append, List.length_append, b.len]; rfl⟩
  · intro x hx
    rcases List.mem_append.mp hx with z | z
    · exact b.sub x z
    · rw [List.mem_singleton.mp z]; exact he
  · intro x hx
    rcases List.mem_append.mp hx with z | z
    · exact (b.new x z).elim .inl fun q => .inr (List.mem_append_left _ q)
    · exact .inr (List.mem_append_right _ z)
  · intro x hx
    rcases List.mem_append.mp hx with z | z
    · exact ⟨List.mem_append_left _ (b.cd x z).1, (b.cd x z).2⟩
    · rw [List.mem_singleton.mp z]; exact ⟨List.mem_append_right _ (List.mem_singleton.mpr rfl), d⟩
  · intro x hx
    rcases List.mem_append.mp hx with z | z
    · exact List.mem_append_left _ (b.pe x z)
    · exact List.mem_append_right _ z
theorem Lj.skip {nx : Pr → List (Str × Pr)} {q : Pr} {ns ks0 done es ks cs : List Pr} {r : Nat} (b : Lj nx q ns r ks0 done es ks cs) {e : Pr} (h : e ∈ ks) : Lj nx q ns r ks0 done (es ++ [e]) ks cs :=
  { b with pe := fun x hx => (List.mem_append.mp hx).elim (b.pe x) fun z => (List.mem_singleton.mp z) ▸ h }
theorem Lj.turn {nx : Pr → List (Str × Pr)} {q : Pr} {ns ks0 done ks cs : List Pr} {r : Nat} {y : Pr} (b : Lj nx q ns r ks0 done (befP nx y ns) ks cs) : Lj nx q ns r ks0 (done ++ [y]) [] ks cs :=
  { b with
    pr := fun x hx e he ht => by
      rcases List.mem_append.mp hx with z | z
      · exact b.pr x z e he ht
      · rw [List.mem_singleton.mp z] at ht
        exact b.pe e (mem_befP.mpr ⟨he, ht⟩)
    pe := fun _ h => by cases h }
theorem Lj.leave {nx : Pr → List (Str × Pr)} {q : Pr} {ns ks0 ls ks cs : List Pr} {r : Nat} (cl : ∀ x ∈ ns, ∀ t ∈ nx x, t.2 ∈ ns) (b0 : Lv nx q ns r ks0 ls) (b : Lj nx q ns r ks0 ls [] ks cs) : Lv nx q ns (r + 1) ks cs := by
  have far : ∀ x ∈ ns, IsD nx q x (r + 1) → x ∈ ks := fun x hx d => by
    obtain ⟨t, ht, dt⟩ := d.step
    exact b.pr t.2 ((b0.ld _ (cl x hx t ht)).mpr dt) x hx ⟨t, ht, rfl⟩
  refine ⟨b.nd, b.sub, fun x hx => ⟨fun h => ?_, ?_⟩, fun x hx => ⟨fun h => (b.cd x h).2, fun d => ?_⟩, fun x hx => (b.cd x hx).1⟩
  · rcases b.new x h with z | z
    · obtain ⟨n, hn, d⟩ := (b0.kd x hx).mp z
      exact ⟨n, by omega, d⟩
    · exact ⟨r + 1, Nat.le_refl _, (b.cd x z).2⟩
  · rintro ⟨n, hn, d⟩
    by_cases c : n = r + 1
    · exact far x hx (c ▸ d)
    · exact b.old _ ((b0.kd x hx).mpr ⟨n, by omega, d⟩)
  · rcases b.new x (far x hx d) with z | z
    · obtain ⟨n, hn, d'⟩ := (b0.kd x hx).mp z
      have := d.uniq d'
      omega
    · exact z
theorem Lv.done {nx : Pr → List (Str × Pr)} {q : Pr} {ns ks : List Pr} {r : Nat} (cl : ∀ x ∈ ns, ∀ t ∈ nx x, t.2 ∈ ns) (b : Lv nx q ns r ks []) : ∀ x ∈ ns, x ∈ ks ↔ ∃ n, IsD nx q x n := by
  have no : ∀ n, r ≤ n → ∀ x ∈ ns, ¬ IsD nx q x n := by
    intro n
    induction n with
    | zero => intro h x hx d; obtain rfl : r = 0 := by omega
              exact absurd ((b.ld x hx).mpr d) (by simp)
    | succ n ih =>
      intro h x hx d
      by_cases c : r = n + 1
      · exact absurd ((b.ld x hx).mpr (c ▸ d)) (by simp)
      · obtain ⟨t, ht, dt⟩ := d.step
        exact ih (by omega) t.2 (cl x hx t ht) dt
  intro x hx
  rw [b.kd x hx]
  constructor
  · rintro ⟨n, _, d⟩; exact ⟨n, d⟩
  · rintro ⟨n, d⟩
    by_cases c : r ≤ n
    · exact absurd d (no n c x hx)
    · exact ⟨n, by omega, d⟩
end D1
end L2
/-! words_to -/
namespace L2
namespace D1
open PySem PySem.Spec PyProof.Rows D2 X5 X6
abbrev sWordsTo : Stmt := top 16
noncomputable def iK (nx : Pr → List (Str × Pr)) (q : Pr) (ks : List Pr) : List (List Key × V) := ks.map fun x => (kP x, .int (farV nx q x))
theorem iK_keys (nx : Pr → List (Str × Pr)) (q : Pr) (ks : List Pr) : (iK nx q ks).map (·.1) = ks.map kP := by rw [iK, List.map_map]; rfl
theorem iK_val {nx : Pr → List (Str × Pr)} {q : Pr} {ks : List Pr} {x : Pr} (h : x ∈ ks) : valV (iK nx q ks) (kP x) = some (.int (farV nx q x)) := by
  induction ks with
  | nil => cases h
  | cons y r ih =>
    by_cases c : y = x
    · subst c; exact valV_pos rfl
    · exact (valV_neg (fun e => c (kP_inj e))).trans (ih ((List.mem_cons.mp h).resolve_left fun e => c e.symm))
theorem iK_some (nx : Pr → List (Str × Pr)) (q : Pr) (ks : List Pr) (x : Pr) : (valV (iK nx q ks) (kP x)).isSome = decide (x ∈ ks) := by
  by_cases h : x ∈ ks
  · rw [iK_val h, decide_eq_true h]; rfl
  · rw [valT_none h (iK_keys nx q ks), decide_eq_false h]; rfl
theorem iK_put {nx : Pr → List (Str × Pr)} {q : Pr} {ks : List Pr} {x : Pr} (h : x ∉ ks) : putK (iK nx q ks) (kP x) (.int (farV nx q x)) = iK nx q (ks ++ [x]) := by
  rw [L2.putK_new _ (valT_none h (iK_keys nx q ks)), iK, iK, List.map_append]; rfl
def spWordsTo : Sp := fun vs H Q _ => ∃ (G L : Addr) (nx : Pr → List (Str × Pr)) (ns gl : List Pr) (ys : List Addr) (q : Pr), vs = [.ref G, .ref L] ∧ QrAt H G nx ns ∧ ns.Nodup ∧ ns.length ≤ 3600 ∧ (∀ x ∈ ns, (nx x).length ≤ 60) ∧ (∀ x ∈ ns, ∀ t ∈ nx x, t.2 ∈ ns) ∧
  H L = some (.lst (ys.map V.ref)) ∧ PL H ys gl ∧ ((gl = [q] ∧ q ∈ ns) ∨ (gl = [] ∧ q ∉ ns)) ∧
  ∀ H' D ks, Same H H' → H D = none → H' D = some (.dT (iK nx q ks)) → ks.length ≤ 3600 → (∀ x ∈ ns, x ∈ ks ↔ ∃ n, IsD nx q x n) → Q (.ref D) H'
section
variable {P : Program} {w : World} {K : PySem.W.Frag} {mg : Str → Option Value} {base : Heap} {C : Addr}
abbrev CBefore (P : Program) (w : World) (K : PySem.W.Frag) (mg : Str → Option Value) (base : Heap) := Cal P w K mg base "nodes_before" 1 ["graph"] spBefore
abbrev wtN : List Str := ["graph", "goals", "before", "least", "layer", "coming", "node", "earlier", "goal"]
theorem scWt : FnScope wtN ["graph", "goals"] (defScope sWordsTo) := ⟨rfl, rfl, rfl, by decide +kernel, rfl, by decide +kernel, by decide +kernel⟩
theorem ok_wordsto {f : Addr} {fd : FuncData} (F : Fun K "words_to" "words_to" sWordsTo f fd) (T : Free3 mg) (CB : CBefore P w K mg base) : FnOk P w K mg base CX0 2 f fd ["graph", "goals"] spWordsTo := by
  refine F.ok scWt (fun vs H Q E h => ?_) (fun cdv A outer s H vs Q E hr h => ?_)
  · obtain ⟨G, L, nx, ns, gl, ys, q, rfl, _⟩ := h; rfl
  · obtain ⟨G, L, nx, ns, gl, ys, q, rfl, hG, nd, l36, l60, cl, hL, hy, hgl, k⟩ := h
    have hu := hu_of hr
    refine ⟨_, pss_cons (ps_set (i := 2) scWt.nd rfl (Or.inl rfl) (pe_cal CB (hr.mono (by decide)) rfl (pa_cons (pv 0) pa_nil)))
      (pss_cons (ps_setDcT (i := 3) (own := [("goal", 8)]) (g := gName 8) (tt := tYes) (tk := tVar 8) (tv := tC (.int 0)) (Nat.lt_of_succ_lt hu) rfl scWt.nd rfl rfl (sw_trueD rfl rfl (by rfl) (by decide +kernel)) (pi_list (pv 1)) (blkOk_by (N := wtN) (sc := defScope sWordsTo) (by decide +kernel))
          (fun _ _ _ _ _ => pg_name (i := 8) scWt.nd rfl (Or.inl rfl)) (fun _ _ _ _ _ => pts_nil) (fun _ _ _ _ _ => pv 8) (fun _ _ _ _ _ => pe_int))
      (pss_cons (ps_set (i := 4) scWt.nd rfl (Or.inl rfl) (pe_callTy call_list_of (by rfl) T.list (by decide +kernel) (pa_cons (pv 1) pa_nil)))
      (pss_cons (ps_while PassesOwn.never (pt_truth (pv 4) (fun _ => rfl))
        (pss_cons (ps_set (i := 5) scWt.nd rfl (Or.inl rfl) (pe_lst pa_nil))
        (pss_cons (ps_for PassesOwn.never rfl (pi_list (pv 4)) (pg_name (i := 6) scWt.nd rfl (Or.inl rfl))
          (pss_one (ps_for PassesOwn.never rfl (pi_list (pe_dget hu (pv 2) (pv 6) (fun _ _ => rfl))) (pg_name (i := 7) scWt.nd rfl (Or.inl rfl))
            (pss_one (ps_if (pt_cmp (pc_dnotin hu (pv 7) (pv 3)) rfl)
              (pss_cons (ps_dput hu (pv 3) (pv 7) (pe_op op_add (pe_dget hu (pv 3) (pv 6) (fun _ _ => rfl)) pe_int) rfl)
              (pss_one (ps_expr (pe_bm PySem.F.plainAttrs_list PySem.F.slot_list_append PySem.F.type_list_append mt_append (pv 5) (pa_cons (pv 7) pa_nil))))) pss_nil)))))
        (pss_one (ps_set (i := 4) scWt.nd rfl (Or.inl rfl) (pv 5))))))
      (pss_one (ps_ret (pv 3)))))), ?_⟩
    refine ⟨_, rfl, G, nx, ns, rfl, hG, nd, l36, l60, cl, fun H1 D ls s1 nD hD ll hLs => ?_⟩
    have b00 : Lv nx q ns 0 gl gl := Lv.begin hgl
    have hL1 := s1 _ _ hL
    have hy1 := hy.same s1
    have lyl : ys.length = gl.length := paired_len hy
    refine ⟨_, rfl, L, rfl, ⟨_, SqL.of hL1⟩, fun M hM => ?_⟩
    refine dct_it (walk_list (a := L) (xs := ys.map V.ref)) (fun i H' => H' = L2.upd H1 M (.dT (iK nx q (gl.take i)))) (by rw [List.take_zero]; rfl) (fun i H' _ e => by rw [e]; exact SqL.of (by rw [upd_ne (ne_of_none hL1 hM)]; exact hL1)) ?_ ?_
    · rintro i x H2 H3 hi rfl ⟨rfl, hx⟩
      obtain ⟨y, hyi, rfl⟩ := D1.get_map hx
      obtain ⟨x0, hx0, hax⟩ := paired_get hy1 hyi
      have hax : H1 y = _ := hax
      refine ⟨rfl, ?_⟩
      dsimp only [tYes]
      rw [if_pos rfl]
      have nn : x0 ∉ gl.take i := by have := not_before (gs := []) (ls := gl) (by simpa using b00.nd) hx0; simpa using this
      have e0 : V.int 0 = .int (farV nx q x0) := by rw [farV_of ((b00.ld x0 (b00.sub _ (List.mem_of_getElem? hx0))).mp (List.mem_of_getElem? hx0))]; rfl
      have lg : gl.length ≤ 1 := by rcases hgl with ⟨z, _⟩ | ⟨z, _⟩ <;> (rw [z]; simp)
      refine ⟨_, rfl, iK nx q (gl.take i), kP x0, y, rfl, by rw [upd_ne (ne_of_none hax hM)]; exact hax, upd_same, by rw [iK, List.length_map, List.length_take, sizeLine_eq]; omega, ?_⟩
      rw [updd2, e0, iK_put nn, take_succ_get hx0]
    rintro H2 rfl
    rw [List.length_map, lyl, List.take_length]
    have hL2 : (L2.upd H1 M (.dT (iK nx q gl))) L = some (.lst (ys.map V.ref)) := by rw [upd_ne (ne_of_none hL1 hM)]; exact hL1
    refine ⟨_, rfl, L, _, rfl, .inl (SqL.of hL2), fun L0 hL0 => ?_⟩
    have nML : M ≠ L0 := fun e => by rw [← e, upd_same] at hL0; cases hL0
    have hL0' : H1 L0 = none := upd_none' hL0
    have sS : Same H1 (cut [M, L0] (L2.upd (L2.upd H1 M (.dT (iK nx q gl))) L0 (.lst (ys.map V.ref)))) := fun b o e => by
      have n1 : b ≠ M := ne_of_none e hM
      have n2 : b ≠ L0 := ne_of_none e hL0'
      rw [cut_out (by simp [n1, n2]), upd_ne n2, upd_ne n1]; exact e
    have hM0 : H M = none := s1.free hM
    refine ⟨fun m σ H' => ∃ (r : Nat) (ks ls0 : List Pr) (zs : List Addr) (Lr : Addr) (v5 v6 v7 : Option V), σ = [some (.ref G), some (.ref L), some (.ref D), some (.ref M), some (.ref Lr), v5, v6, v7, none] ∧ Same H1 (cut [M, Lr] H') ∧ H1 Lr = none ∧ H' M = some (.dT (iK nx q ks)) ∧ H' Lr = some (.lst (zs.map V.ref)) ∧
        PL (cut [M, Lr] H') zs ls0 ∧ Lv nx q ns r ks ls0 ∧ m = 2 * (3601 - ks.length) + (if ls0 = [] then 0 else 1),
      ⟨_, 0, gl, gl, ys, L0, none, none, none, rfl, sS, hL0', by rw [upd_ne nML, upd_same], upd_same, hy1.same sS, b00, rfl⟩, ?_⟩
    rintro m σ H3 ⟨r, ks0, ls0, zs, Lr, v5, v6, v7, rfl, s3, nL, hM3, hL3, hz3, b0, rfl⟩
    refine ⟨_, rfl, _, .inl ⟨_, SqL.of hL3, rfl⟩, ?_⟩
    have lz : zs.length = ls0.length := paired_len hz3
    have lk0 : ks0.length ≤ 3600 := Nat.le_trans (pigeon ks0 ns b0.nd b0.sub) l36
    by_cases hls : ls0 = []
    · subst hls
      have : zs = [] := List.length_eq_zero_iff.mp lz
      subst this
      exact (if_neg (by decide)).mpr ⟨_, rfl, k H3 M ks0 (Same.trans s1 (Same.trans s3 cut_le)) hM0 hM3 lk0 (b0.done cl)⟩
    have npos : zs.isEmpty = false := by
      cases zs with
      | nil => exact absurd (List.length_eq_zero_iff.mp lz.symm) hls
      | cons _ _ => rfl
    refine (if_pos (by rw [List.isEmpty_map, npos]; rfl)).mpr ⟨_, fun σ' H' h => h, ?_⟩
    refine ⟨by decide, fun C0 hC0 => ?_⟩
    have nMC : M ≠ C0 := ne_of_none hM3 hC0
    have nLC : Lr ≠ C0 := ne_of_none hL3 hC0
    have nMLr : M ≠ Lr := fun e => by rw [e, hL3] at hM3; cases hM3
    have nC : H1 C0 = none := (Same.trans s3 cut_le).free hC0
    have sC : Same (cut [M, Lr] H3) (cut [M, Lr, C0] (L2.upd H3 C0 (.lst []))) := fun b o e => by
      obtain ⟨nb, e⟩ := cut_some e
      have n : b ≠ C0 := ne_of_none e hC0
      rw [cut_out (fun m => by
        rcases List.mem_cons.mp m with q | m
        · exact nb (by simp [q])
        rcases List.mem_cons.mp m with q | m
        · exact nb (by simp [q])
        · exact n (List.mem_singleton.mp m)), upd_ne n]
      exact e
    have hL4 : (L2.upd H3 C0 (.lst [])) Lr = some (.lst (zs.map V.ref)) := by rw [upd_ne nLC]; exact hL3
    refine ⟨_, rfl, Lr, rfl, ⟨_, SqL.of hL4⟩, ?_⟩
    refine for_list (K := K) (a := Lr) (xs := zs.map V.ref) (fun i σ H' => ∃ (ks cs : List Pr) (us : List Addr) (v6 v7 : Option V), σ = [some (.ref G), some (.ref L), some (.ref D), some (.ref M), some (.ref Lr), some (.ref C0), v6, v7, none] ∧ Same H1 (cut [M, Lr, C0] H') ∧ H' M = some (.dT (iK nx q ks)) ∧ H' Lr = some (.lst (zs.map V.ref)) ∧ H' C0 = some (.lst (us.map V.ref)) ∧
        PL (cut [M, Lr, C0] H') zs ls0 ∧ PL (cut [M, Lr, C0] H') us cs ∧ Lj nx q ns r ks0 (ls0.take i) [] ks cs)
      ⟨ks0, [], [], v6, v7, rfl, Same.trans s3 sC, by rw [upd_ne nMC]; exact hM3, hL4, upd_same, hz3.same sC, .nil, by rw [List.take_zero]; exact b0.enter⟩
      (fun i σ H' _ ⟨_, _, _, _, _, _, _, _, z, _⟩ => SqL.of z) ?_ ?_
    · rintro i v σ H5 hv ⟨ks, cs, us, v6, v7, rfl, s5, hM5, hL5, hC5, hz5, hu5, b5⟩
      obtain ⟨zx, hzx, rfl⟩ := D1.get_map hv
      obtain ⟨x, hx, hax⟩ := paired_get hz5 hzx
      have xl : x ∈ ls0 := List.mem_of_getElem? hx
      have xm : x ∈ ns := b0.sub x (b0.ls x xl)
      have xd : IsD nx q x r := (b0.ld x xm).mp xl
      obtain ⟨kk, l, e1, e2, e3⟩ := bK_look ll xm
      obtain ⟨bs, hl1, pb⟩ := hLs kk l x e2 e1
      have hD5 := cut_le _ _ (s5 _ _ hD)
      have hl5 := cut_le _ _ (s5 _ _ hl1)
      refine ⟨_, rfl, _, rfl, D, _, rfl, .inr ⟨bK ns ls, kP x, zx, .inl hD5, rfl, cut_le _ _ hax, e3.symm⟩, l, rfl, ⟨_, SqL.of hl5⟩, ?_⟩
      have lb : bs.length = (befP nx x ns).length := paired_len pb
      refine for_list (K := K) (a := l) (xs := bs.map V.ref) (fun j σ H' => ∃ (ks cs : List Pr) (us : List Addr) (v7 : Option V), σ = [some (.ref G), some (.ref L), some (.ref D), some (.ref M), some (.ref Lr), some (.ref C0), some (.ref zx), v7, none] ∧ Same H1 (cut [M, Lr, C0] H') ∧ H' M = some (.dT (iK nx q ks)) ∧ H' Lr = some (.lst (zs.map V.ref)) ∧ H' C0 = some (.lst (us.map V.ref)) ∧
          PL (cut [M, Lr, C0] H') zs ls0 ∧ PL (cut [M, Lr, C0] H') us cs ∧ Lj nx q ns r ks0 (ls0.take i) ((befP nx x ns).take j) ks cs)
        ⟨ks, cs, us, v7, rfl, s5, hM5, hL5, hC5, hz5, hu5, by rw [List.take_zero]; exact b5⟩
        (fun j σ H' _ ⟨_, _, _, _, _, z, _⟩ => SqL.of (cut_le _ _ (z _ _ hl1))) ?_ ?_
      · rintro j v σ H7 hv7 ⟨ks, cs, us, v7, rfl, s7, hM7, hL7, hC7, hz7, hu7, b7⟩
        obtain ⟨zu, hzu, rfl⟩ := D1.get_map hv7
        obtain ⟨e, he, hae⟩ := paired_get pb hzu
        obtain ⟨en, et⟩ := mem_befP.mp (List.mem_of_getElem? he)
        have hzuc : PAt (cut [M, Lr, C0] H7) zu e := s7 _ _ (cut_le _ _ hae)
        have hzu7 : PAt H7 zu e := cut_le _ _ hzuc
        obtain ⟨zx2, hzx2, hax7⟩ : ∃ y, ls0[i]? = some y ∧ PAt (cut [M, Lr, C0] H7) zx y := paired_get hz7 hzx
        obtain rfl : x = zx2 := Option.some.inj (hx.symm.trans hzx2)
        have lk : ks.length ≤ 3600 := Nat.le_trans (pigeon ks ns b7.nd b7.sub) l36
        refine ⟨_, rfl, _, rfl, M, _, rfl, DGet.t (k := kP e) hM7 hzu7, _, rfl, ?_⟩
        rw [iK_some]
        by_cases c : e ∈ ks
        · rw [decide_eq_true c]
          exact iteF ⟨ks, cs, us, _, rfl, s7, hM7, hL7, hC7, hz7, hu7, by rw [take_succ_get he]; exact b7.skip c⟩
        · rw [decide_eq_false c]
          obtain ⟨ed, b9⟩ := b7.find b0 xd en et c
          have gx : DGet H7 M (.ref zx) (some (.int (farV nx q x))) := by
            rw [← iK_val (b7.old x (b0.ls x xl))]
            exact DGet.t (k := kP x) hM7 (cut_le _ _ hax7)
          have ev : V.int ((farV nx q x : Int) + 1) = .int (farV nx q e) := by rw [farV_of xd, farV_of ed]; rfl
          have dp : DPut H7 M (.ref zu) (.int ((farV nx q x : Int) + 1)) (L2.upd H7 M (.dT (iK nx q (ks ++ [e])))) := by
            rw [ev, ← iK_put c]
            exact DPut.t (k := kP e) hM7 hzu7 (by rw [iK, List.length_map, sizeLine_eq]; omega)
          refine iteT ⟨_, rfl, _, rfl, M, _, rfl, gx, _, _, rfl, rfl, _, rfl, _, rfl, M, _, rfl, dp, ?_⟩
          have hC9 : (L2.upd H7 M (.dT (iK nx q (ks ++ [e])))) C0 = some (.lst (us.map V.ref)) := by rw [upd_ne nMC.symm]; exact hC7
          have lus : us.length = cs.length := paired_len hu7
          have lcs := b7.len
          refine ⟨_, rfl, .inl ⟨rfl, _, SqL.of hC9⟩, _, rfl, C0, _, _, rfl, rfl, hC9, by rw [List.length_map, sizeLine_eq]; omega, ?_⟩
          have cc : cut [M, Lr, C0] (L2.upd (L2.upd H7 M (.dT (iK nx q (ks ++ [e])))) C0 (.lst (us.map V.ref ++ [.ref zu]))) = cut [M, Lr, C0] H7 := by rw [cut_upd (by simp), cut_upd (by simp)]
          exact ⟨ks ++ [e], cs ++ [e], us ++ [zu], _, rfl, by rw [cc]; exact s7, by rw [upd_ne nMC, upd_same], by rw [upd_ne nLC, upd_ne nMLr.symm]; exact hL7, by rw [upd_same, List.map_append]; rfl, by rw [cc]; exact hz7, by rw [cc]; exact paired_snoc hu7 hzuc, by rw [take_succ_get he]; exact b9⟩
      · rintro σ H7 ⟨ks, cs, us, v7, rfl, s7, hM7, hL7, hC7, hz7, hu7, b7⟩
        rw [List.length_map, lb, List.take_length] at b7
        exact ⟨ks, cs, us, _, _, rfl, s7, hM7, hL7, hC7, hz7, hu7, by rw [take_succ_get hx]; exact b7.turn⟩
    · rintro σ H5 ⟨ks, cs, us, v6, v7, rfl, s5, hM5, hL5, hC5, hz5, hu5, b5⟩
      rw [List.length_map, lz, List.take_length] at b5
      have mo : Same (cut [M, Lr, C0] H5) (cut [M, C0] H5) := cut_mono fun b hb => by
        rcases List.mem_cons.mp hb with e | hb
        · simp [e]
        · simp [List.mem_singleton.mp hb]
      refine ⟨_, rfl, _, ?_, r + 1, ks, cs, us, C0, _, _, _, rfl, Same.trans s5 mo, nC, hM5, hC5, hu5.same mo, b5.leave cl b0, rfl⟩
      have l1 : ks.length ≤ 3600 := Nat.le_trans (pigeon ks ns b5.nd b5.sub) l36
      have l2 := b5.len
      rw [if_neg hls]
      by_cases h : cs = []
      · rw [if_pos h]; rw [h, List.length_nil] at l2; omega
      · rw [if_neg h]
        have : 0 < cs.length := List.length_pos_iff.mpr h
        omega
end
end D1
end L2
/-! word_nearer -/
namespace L2
namespace D1
open PySem PySem.Spec PyProof.Rows D2 X5 X6
abbrev sNearer : Stmt := top 17
noncomputable def nearP (nx : Pr → List (Str × Pr)) (q : Pr) (n : Nat) (ts : List (Str × Pr)) : Option (Str × Pr) := ts.find? fun t => decide (farP nx q t.2 = some n)
theorem PRows.get {H : Hp} : ∀ {kvs : List (Key × V)} {ts : List (Str × Pr)}, PRows H kvs ts → (ts.map (·.1)).Nodup → ∀ {i : Nat} {t : Str × Pr}, ts[i]? = some t → ∃ z, valV kvs (.inr t.1) = some (.ref z) ∧ PAt H z t.2
  | _, _, .nil, _, i, t, e => by cases i <;> cases e
  | kv :: r, t' :: ts, .cons h p, nd, 0, t, e => by
    obtain rfl : t' = t := Option.some.inj e
    obtain ⟨e1, z, e2, e3⟩ := h
    exact ⟨z, by rw [valV_pos e1, e2], e3⟩
  | kv :: r, t' :: ts, .cons h p, nd, i + 1, t, e => by
    have n := List.nodup_cons.mp nd
    have m : t.1 ∈ ts.map (·.1) := List.mem_map.mpr ⟨t, List.mem_of_getElem? (by simpa using e), rfl⟩
    rw [valV_neg (fun q => n.1 (by
      have e0 : t.1 = t'.1 := Sum.inr.inj (q.symm.trans h.1)
      show t'.1 ∈ _
      rw [← e0]; exact m))]
    exact PRows.get p n.2 (i := i) (by simpa using e)
theorem find_at {α : Type} {f : α → Bool} : ∀ {l : List α} {i : Nat} {x : α}, l[i]? = some x → (∀ y ∈ l.take i, f y = false) → f x = true → l.find? f = some x
  | y :: l, 0, x, e, _, h => by
    obtain rfl : y = x := Option.some.inj e
    exact List.find?_cons_of_pos h
  | y :: l, i + 1, x, e, n, h => by
    rw [List.find?_cons_of_neg (by rw [n y (by simp)]; decide)]
    exact find_at (i := i) (by simpa using e) (fun z hz => n z (by rw [List.take_succ_cons]; exact List.mem_cons_of_mem _ hz)) h
def spNearer : Sp := fun vs H Q _ => ∃ (a M : Addr) (nx : Pr → List (Str × Pr)) (q : Pr) (ks : List Pr) (n : Nat) (ts : List (Str × Pr)) (t0 : Str × Pr), vs = [.ref a, .ref M, .int n] ∧ PTAt H a ts ∧ (ts.map (·.1)).Nodup ∧ H M = some (.dT (iK nx q ks)) ∧ (∀ t ∈ ts, t.2 ∈ ks ↔ ∃ m, IsD nx q t.2 m) ∧ nearP nx q n ts = some t0 ∧
  ∀ H', Same H H' → Q (.str t0.1) H'
section
variable {P : Program} {w : World} {K : PySem.W.Frag} {mg : Str → Option Value} {base : Heap} {C : Addr}
abbrev neN : List Str := ["turns", "least", "many", "word"]
theorem scNe : FnScope neN ["turns", "least", "many"] (defScope sNearer) := ⟨rfl, rfl, rfl, by decide +kernel, rfl, by decide +kernel, by decide +kernel⟩
theorem ok_nearer {f : Addr} {fd : FuncData} (F : Fun K "word_nearer" "word_nearer" sNearer f fd) : FnOk P w K mg base CX0 1 f fd ["turns", "least", "many"] spNearer := by
  refine F.ok scNe (fun vs H Q E h => ?_) (fun cdv A outer s H vs Q E hr h => ?_)
  · obtain ⟨a, M, nx, q, ks, n, ts, t0, rfl, _⟩ := h; rfl
  · obtain ⟨a, M, nx, q, ks, n, ts, t0, rfl, ⟨kr, ha, pR⟩, nd, hM, hk, ht0, k⟩ := h
    have hu := hu_of hr
    refine ⟨_, pss_cons (ps_lock (ps_for PassesOwn.never rfl (pi_keys (pv 0)) (pg_name (i := 3) scNe.nd rfl (Or.inl rfl))
        (pss_one (ps_if (pt_cmpR op_eq (pe_dget2 hu (pv 1) (pe_dget hu (pv 0) (pv 3) (fun _ _ => rfl)) (pe_op op_add (pv 2) pe_int) (by constructor <;> rfl)) (pv 2) (by rfl)) (pss_one (ps_ret (pv 3))) pss_nil))))
      (pss_one (ps_ret pe_non)), ?_⟩
    have lk : kr.length = ts.length := pR.len
    refine ⟨a, _, ha, trivial, fun od => ?_⟩
    refine ⟨_, rfl, a, od, rfl, .inl ⟨kr, upd_same, ?_⟩⟩
    have nMa : M ≠ a := fun e => by rw [e, ha] at hM; cases hM
    have hM1 : (L2.upd H a (.frz od (.dK kr))) M = some (.dT (iK nx q ks)) := by rw [upd_ne nMa]; exact hM
    have bk : Same H (L2.upd (L2.upd H a (.frz od (.dK kr))) a (.dK kr)) := Same.unlock ha (Same.refl _)
    refine for_it (walk_keys (d := a) (o := od) (kvs := kr)) (fun i σ H' => ∃ v3, σ = [some (.ref a), some (.ref M), some (.int n), v3] ∧ H' = L2.upd H a (.frz od (.dK kr)) ∧ ∀ t ∈ ts.take i, decide (farP nx q t.2 = some n) = false)
      ⟨none, rfl, rfl, fun t ht => by simp at ht⟩ (fun i σ H' _ ⟨_, _, e, _⟩ => by rw [e]; exact upd_same) ?_ ?_
    · rintro i v σ H2 H3 hi ⟨v3, rfl, rfl, hn⟩ ⟨rfl, kk, vv, hkv, rfl⟩
      obtain ⟨t, ht, ek, _⟩ := paired_get pR hkv
      have ek : kk = Sum.inr t.1 := ek
      subst ek
      obtain ⟨z, vz, hz⟩ := pR.get nd ht
      have hz : H z = _ := hz
      have nza : z ≠ a := fun e => by rw [e, ha] at hz; cases hz
      have hz1 : PAt (L2.upd H a (.frz od (.dK kr))) z t.2 := by show _ = _; rw [upd_ne nza]; exact hz
      have dg : DGet (L2.upd H a (.frz od (.dK kr))) M (.ref z) (valV (iK nx q ks) (kP t.2)) := DGet.t (k := kP t.2) hM1 hz1
      have tm := List.mem_of_getElem? ht
      refine ⟨_, rfl, M, rfl, .inr ⟨_, .inl hM1⟩, _, rfl, _, rfl, a, _, rfl, .inl ⟨kr, .inr t.1, .inr ⟨od, upd_same⟩, rfl, vz.symm⟩, _, rfl, _, _, rfl, rfl, _, dg, _, rfl, ?_⟩
      have go : ∀ j : Int, (valV (iK nx q ks) (kP t.2)).getD (.int ((n : Int) + 1)) = .int j → (decide (j = n) = decide (farP nx q t.2 = some n)) →
          (scal ((valV (iK nx q ks) (kP t.2)).getD (.int ((n : Int) + 1))) (.int n) = true ∧ (decide ((valV (iK nx q ks) (kP t.2)).getD (.int ((n : Int) + 1)) = V.int n) = decide (farP nx q t.2 = some n))) := fun j ej dj => by
        rw [ej]
        exact ⟨rfl, by rw [← dj]; exact decide_eq_decide.mpr ⟨fun e => V.int.inj e, fun e => by rw [e]⟩⟩
      obtain ⟨g1, g2⟩ : scal ((valV (iK nx q ks) (kP t.2)).getD (.int ((n : Int) + 1))) (.int n) = true ∧ (decide ((valV (iK nx q ks) (kP t.2)).getD (.int ((n : Int) + 1)) = V.int n) = decide (farP nx q t.2 = some n)) := by
        by_cases c : t.2 ∈ ks
        · obtain ⟨m, d⟩ := (hk t tm).mp c
          refine go m (by rw [iK_val c, farV_of d]; rfl) (decide_eq_decide.mpr ?_)
          rw [farP_some.mpr d]
          exact ⟨fun e => by rw [show m = n by omega], fun e => by rw [Option.some.inj e]⟩
        · refine go (n + 1) (by rw [valT_none c (iK_keys nx q ks)]; rfl) (decide_eq_decide.mpr ⟨fun e => by omega, fun e => absurd ((hk t tm).mpr ⟨n, farP_some.mp e⟩) c⟩)
      refine ⟨g1, _, rfl, ?_⟩
      by_cases c : farP nx q t.2 = some n
      · rw [g2, decide_eq_true c]
        refine iteT ⟨_, rfl, upd_same, ?_⟩
        have : nearP nx q n ts = some t := find_at ht hn (decide_eq_true c)
        rw [this] at ht0
        rw [show kV (Sum.inr t.1) = V.str t0.1 by rw [← Option.some.inj ht0]; rfl]
        exact k _ bk
      · rw [g2, decide_eq_false c]
        refine iteF ⟨_, rfl, rfl, fun y hy => ?_⟩
        rw [take_succ_get ht] at hy
        rcases List.mem_append.mp hy with z | z
        · exact hn y z
        · rw [List.mem_singleton.mp z]; exact decide_eq_false c
    · rintro σ H2 ⟨v3, rfl, rfl, hn⟩
      rw [lk, List.take_length] at hn
      have h1 := List.find?_some ht0
      rw [hn t0 (List.mem_of_find?_eq_some ht0)] at h1
      cases h1
end
end D1
end L2
/-! shortest_way -/
namespace L2
namespace D1
open PySem PySem.Spec PyProof.Rows D2 X5 X6
abbrev sShortest : Stmt := top 18
noncomputable def wayP (nx : Pr → List (Str × Pr)) (q : Pr) : Nat → Pr → List Str
  | 0, _ => []
  | n + 1, x => match nearP nx q n (nx x) with
    | none => []
    | some t => t.1 :: wayP nx q n t.2
noncomputable def talkP (nx : Pr → List (Str × Pr)) (p q : Pr) : Option (List Str) := (farP nx q p).map fun n => wayP nx q n p
theorem near_of {nx : Pr → List (Str × Pr)} {q x : Pr} {n : Nat} (d : IsD nx q x (n + 1)) : ∃ t, nearP nx q n (nx x) = some t ∧ t ∈ nx x ∧ IsD nx q t.2 n := by
  obtain ⟨t, ht, dt⟩ := d.step
  cases e : nearP nx q n (nx x) with
  | none =>
    have := List.find?_eq_none.mp e t ht
    exact absurd (decide_eq_true (farP_some.mpr dt)) this
  | some u =>
    have h1 := List.find?_some e
    exact ⟨u, rfl, List.mem_of_find?_eq_some e, farP_some.mp (of_decide_eq_true h1)⟩
theorem wayP_succ {nx : Pr → List (Str × Pr)} {q x : Pr} {n : Nat} {t : Str × Pr} (e : nearP nx q n (nx x) = some t) : wayP nx q (n + 1) x = t.1 :: wayP nx q n t.2 := by
  rw [wayP, e]
theorem wayP_len {nx : Pr → List (Str × Pr)} {q : Pr} : ∀ {n : Nat} {x : Pr}, IsD nx q x n → (wayP nx q n x).length = n
  | 0, _, _ => rfl
  | n + 1, x, d => by
    obtain ⟨t, e, _, dt⟩ := near_of d
    rw [wayP_succ e, List.length_cons, wayP_len dt]
theorem far_list {nx : Pr → List (Str × Pr)} {q : Pr} {ns : List Pr} (cl : ∀ x ∈ ns, ∀ t ∈ nx x, t.2 ∈ ns) : ∀ (n : Nat) {x : Pr}, x ∈ ns → IsD nx q x n → ∃ l : List Pr, l.length = n + 1 ∧ l.Nodup ∧ ∀ y ∈ l, y ∈ ns ∧ ∃ m, m ≤ n ∧ IsD nx q y m
  | 0, x, hx, d => ⟨[x], rfl, List.nodup_cons.mpr ⟨by simp, List.nodup_nil⟩, fun y hy => by rw [List.mem_singleton.mp hy]; exact ⟨hx, 0, Nat.le_refl _, d⟩⟩
  | n + 1, x, hx, d => by
    obtain ⟨t, ht, dt⟩ := d.step
    obtain ⟨l, e, nd, h⟩ := far_list cl n (cl x hx t ht) dt
    refine ⟨x :: l, by rw [List.length_cons, e], List.nodup_cons.mpr ⟨fun m => ?_, nd⟩, fun y hy => ?_⟩
    · obtain ⟨_, k, hk, dk⟩ := h x m
      have := d.uniq dk
      omega
    · rcases List.mem_cons.mp hy with z | z
      · rw [z]; exact ⟨hx, n + 1, Nat.le_refl _, d⟩
      · obtain ⟨a, k, hk, dk⟩ := h y z
        exact ⟨a, k, by omega, dk⟩
theorem far_le {nx : Pr → List (Str × Pr)} {q : Pr} {ns : List Pr} (cl : ∀ x ∈ ns, ∀ t ∈ nx x, t.2 ∈ ns) {n : Nat} {x : Pr} (hx : x ∈ ns) (d : IsD nx q x n) : n + 1 ≤ ns.length := by
  obtain ⟨l, e, nd, h⟩ := far_list cl n hx d
  rw [← e]; exact pigeon l ns nd fun y hy => (h y hy).1
/-- the graph of what some way leads to -/
structure GOk (nx : Pr → List (Str × Pr)) (ns : List Pr) : Prop where
  nd : ns.Nodup
  len : ns.length ≤ 3600
  l60 : ∀ x ∈ ns, (nx x).length ≤ 60
  cl : ∀ x ∈ ns, ∀ t ∈ nx x, t.2 ∈ ns
  wn : ∀ x ∈ ns, ((nx x).map (·.1)).Nodup
def OptL (H H' : Hp) (v : V) : Option (List Str) → Prop
  | none => v = .non
  | some way => ∃ W, v = .ref W ∧ H W = none ∧ SL H' W way
def spShortest : Sp := fun vs H Q _ => ∃ (G L z : Addr) (nx : Pr → List (Str × Pr)) (ns gl : List Pr) (ys : List Addr) (p q : Pr), vs = [.ref G, .ref z, .ref L] ∧ QrAt H G nx ns ∧ GOk nx ns ∧ PAt H z p ∧ p ∈ ns ∧
  H L = some (.lst (ys.map V.ref)) ∧ PL H ys gl ∧ ((gl = [q] ∧ q ∈ ns) ∨ (gl = [] ∧ q ∉ ns)) ∧
  ∀ H' v, Same H H' → OptL H H' v (talkP nx p q) → Q v H'
section
variable {P : Program} {w : World} {K : PySem.W.Frag} {mg : Str → Option Value} {base : Heap} {C : Addr}
abbrev CWordsTo (P : Program) (w : World) (K : PySem.W.Frag) (mg : Str → Option Value) (base : Heap) := Cal P w K mg base "words_to" 2 ["graph", "goals"] spWordsTo
abbrev CNearer (P : Program) (w : World) (K : PySem.W.Frag) (mg : Str → Option Value) (base : Heap) := Cal P w K mg base "word_nearer" 1 ["turns", "least", "many"] spNearer
abbrev shN : List Str := ["graph", "start", "goals", "least", "way", "node", "many", "word"]
theorem scSw : FnScope shN ["graph", "start", "goals"] (defScope sShortest) := ⟨rfl, rfl, rfl, by decide +kernel, rfl, by decide +kernel, by decide +kernel⟩
theorem ok_shortest {f : Addr} {fd : FuncData} (F : Fun K "shortest_way" "shortest_way" sShortest f fd) (hm : mg "reversed" = none) (hrg : mg "range" = none) (CW : CWordsTo P w K mg base) (CN : CNearer P w K mg base) : FnOk P w K mg base CX0 3 f fd ["graph", "start", "goals"] spShortest := by
  refine F.ok scSw (fun vs H Q E h => ?_) (fun cdv A outer s H vs Q E hr h => ?_)
  · obtain ⟨G, L, z, nx, ns, gl, ys, p, q, rfl, _⟩ := h; rfl
  · obtain ⟨G, L, z, nx, ns, gl, ys, p, q, rfl, hG, gk, hz, hp, hL, hy, hgl, k⟩ := h
    have hu := hu_of hr
    refine ⟨_, pss_cons (ps_set (i := 3) scSw.nd rfl (Or.inl rfl) (pe_cal CW (hr.mono (by decide)) rfl (pa_cons (pv 0) (pa_cons (pv 2) pa_nil))))
      (pss_cons (ps_if (pt_cmp (pc_dnotin hu (pv 1) (pv 3)) rfl) (pss_one (ps_ret pe_non)) pss_nil)
      (pss_cons (ps_set (i := 4) scSw.nd rfl (Or.inl rfl) (pe_lst pa_nil))
      (pss_cons (ps_set (i := 5) scSw.nd rfl (Or.inl rfl) (pv 1))
      (pss_cons (ps_for PassesOwn.never rfl (pi_revR rfl hm (prg_1 rfl hrg (pe_dget hu (pv 3) (pv 1) (fun _ _ => rfl)))) (pg_name (i := 6) scSw.nd rfl (Or.inl rfl))
        (pss_cons (ps_set (i := 7) scSw.nd rfl (Or.inl rfl) (pe_cal CN (hr.mono (by decide)) rfl (pa_cons (pe_dget hu (pv 0) (pv 5) (fun _ _ => rfl)) (pa_cons (pv 3) (pa_cons (pv 6) pa_nil)))))
        (pss_cons (ps_expr (pe_bm PySem.F.plainAttrs_list PySem.F.slot_list_append PySem.F.type_list_append mt_append (pv 4) (pa_cons (pv 7) pa_nil)))
        (pss_one (ps_set (i := 5) scSw.nd rfl (Or.inl rfl) (pe_dget hu (pe_dget hu (pv 0) (pv 5) (fun _ _ => rfl)) (pv 7) (fun _ _ => rfl)))))))
      (pss_one (ps_ret (pv 4))))))), ?_⟩
    refine ⟨_, rfl, _, rfl, G, L, nx, ns, gl, ys, q, rfl, hG, gk.nd, gk.len, gk.l60, gk.cl, hL, hy, hgl, fun H1 M ks s1 nM hM lk hks => ?_⟩
    obtain ⟨kvs, hG1, hR1⟩ := hG.same s1
    have hz1 : PAt H1 z p := s1 _ _ hz
    refine ⟨_, rfl, _, rfl, M, _, rfl, DGet.t (k := kP p) hM hz1, _, rfl, ?_⟩
    rw [iK_some]
    by_cases c : p ∈ ks
    · obtain ⟨n, d⟩ := (hks p hp).mp c
      rw [decide_eq_true c]
      have vM : valV (iK nx q ks) (kP p) = some (.int n) := by rw [iK_val c, farV_of d]
      refine iteF ⟨by decide, fun W hW => ?_⟩
      have nW : H W = none := s1.free hW
      have sc0 : Same H1 (cut [W] (L2.upd H1 W (.lst []))) := fun b o e => by
        have n1 : b ≠ W := ne_of_none e hW
        rw [cut_out (by simp [n1]), upd_ne n1]; exact e
      have dg : DGet (L2.upd H1 W (.lst [])) M (.ref z) (some (.int n)) := by
        rw [← vM]
        exact DGet.t (k := kP p) (cut_le _ _ (sc0 _ _ hM)) (cut_le _ _ (sc0 _ _ hz1))
      have ln : n ≤ 3600 := by have := far_le gk.cl hp d; have := gk.len; omega
      refine ⟨_, rfl, _, rfl, _, rfl, M, _, rfl, dg, n, rfl, by decide, by decide, by omega, by omega, ?_⟩
      have en : ((n : Int) - 0).toNat = n := by omega
      rw [en]
      refine for_it walk_rangeC (fun i σ H' => ∃ (x : Pr) (zx : Addr) (way : List Str) (v6 v7 : Option V), σ = [some (.ref G), some (.ref z), some (.ref L), some (.ref M), some (.ref W), some (.ref zx), v6, v7] ∧ Same H1 (cut [W] H') ∧ SL H' W way ∧ PAt (cut [W] H') zx x ∧ x ∈ ns ∧ IsD nx q x (n - i) ∧ way ++ wayP nx q (n - i) x = wayP nx q n p)
        ⟨p, z, [], none, none, rfl, sc0, upd_same, sc0 _ _ hz1, hp, d, rfl⟩ (fun _ _ _ _ _ => trivial) ?_ ?_
      · rintro i v σ H3 H4 hi ⟨x, zx, way, v6, v7, rfl, s3, hW3, hzx, hx, dx, ew⟩ ⟨rfl, rfl⟩
        obtain ⟨m, em⟩ : ∃ m, n - i = m + 1 := ⟨n - i - 1, by omega⟩
        have em' : n - (i + 1) = m := by omega
        have ev : (0 + ((n : Nat) : Int) - 1 + (i : Nat) * (-1)) = (m : Int) := by omega
        rw [em] at dx ew
        obtain ⟨t0, ht0, tm, dt⟩ := near_of dx
        obtain ⟨a, va, ha⟩ := hR1.look hx
        have hG3 := cut_le _ _ (s3 _ _ hG1)
        have hM3 := cut_le _ _ (s3 _ _ hM)
        have ha3c := ha.same s3
        have hzx3 := cut_le _ _ hzx
        have dga : DGet H4 G (.ref zx) (some (.ref a)) := by rw [← va]; exact DGet.t (k := kP x) hG3 hzx3
        refine ⟨_, rfl, _, rfl, G, _, rfl, dga, _, rfl, _, rfl, a, M, nx, q, ks, m, nx x, t0, by show [V.ref a, V.ref M, V.int (0 + ((n : Nat) : Int) - 1 + (i : Nat) * (-1))] ++ [] = _; rw [ev]; rfl, ha3c.same cut_le, gk.wn x hx, hM3, fun t ht => hks t.2 (gk.cl x hx t ht), ht0, fun H5 s5 => ?_⟩
        have s35 : Same (cut [W] H4) (cut [W] H5) := cut_same s5
        have hW5 : SL H5 W way := hW3.same s5
        have lw : way.length ≤ 3600 := by
          have := congrArg List.length ew
          rw [List.length_append, wayP_len d] at this
          omega
        refine ⟨_, rfl, .inl ⟨rfl, _, hW5.sq⟩, _, rfl, W, _, _, rfl, rfl, hW5, by rw [List.length_map, sizeLine_eq]; omega, ?_⟩
        have cc : cut [W] (L2.upd H5 W (.lst (way.map V.str ++ [.str t0.1]))) = cut [W] H5 := cut_upd (by simp)
        have s6 : Same (cut [W] H5) (cut [W] (L2.upd H5 W (.lst (way.map V.str ++ [.str t0.1])))) := by rw [cc]; exact Same.refl _
        have hW6 : SL (L2.upd H5 W (.lst (way.map V.str ++ [.str t0.1]))) W (way ++ [t0.1]) := by rw [SL, upd_same, List.map_append]; rfl
        generalize (L2.upd H5 W (.lst (way.map V.str ++ [.str t0.1]))) = H6 at s6 hW6
        have s36 := Same.trans s35 s6
        have s16 := Same.trans s3 s36
        obtain ⟨kr, ea, pR⟩ := id (ha.same s16)
        obtain ⟨j, hj⟩ := List.getElem?_of_mem tm
        obtain ⟨u, vu, hu'⟩ := pR.get (gk.wn x hx) hj
        have dgx : DGet H6 G (.ref zx) (some (.ref a)) := by rw [← va]; exact DGet.t (k := kP x) (cut_le _ _ (s16 _ _ hG1)) (cut_le _ _ (s36 _ _ hzx))
        have dgu : DGet H6 a (.str t0.1) (some (.ref u)) := by rw [← vu]; exact DGet.k (k := .inr t0.1) (cut_le _ _ ea)
        refine ⟨_, rfl, _, rfl, G, _, rfl, dgx, _, rfl, a, _, rfl, dgu, ?_⟩
        refine ⟨t0.2, u, way ++ [t0.1], _, _, rfl, s16, hW6, hu', gk.cl x hx t0 tm, by rw [em']; exact dt, ?_⟩
        rw [em', ← ew, wayP_succ ht0, List.append_assoc]; rfl
      · rintro σ H3 ⟨x, zx, way, v6, v7, rfl, s3, hW3, hzx, hx, dx, ew⟩
        rw [Nat.sub_self] at ew
        refine ⟨_, rfl, k H3 (.ref W) (Same.trans s1 (Same.trans s3 cut_le)) ?_⟩
        rw [talkP, farP_some.mpr d]
        refine ⟨W, rfl, nW, ?_⟩
        show SL H3 W (wayP nx q n p)
        rw [← ew, wayP, List.append_nil]; exact hW3
    · rw [decide_eq_false c]
      refine iteT (k H1 .non s1 ?_)
      have : farP nx q p = none := by
        cases e : farP nx q p with
        | none => rfl
        | some n => exact absurd ((hks p hp).mpr ⟨n, farP_some.mp e⟩) c
      rw [talkP, this]; rfl
end
end D1
end L2
/-! links_from, pairs_come -/
namespace L2
namespace D1
open PySem PySem.Spec PyProof.Rows D2 X5 X6
theorem gok_of {bk cl : Bk} (b : BB bk cl) {p : Pr} (hp : InP bk cl p) {ns : List Pr} (h : RnAll (nextP bk cl) p ns) : GOk (nextP bk cl) ns := by
  have ip : ∀ x ∈ ns, InP bk cl x := fun x hx => ((h.2 x).mp hx).inP b hp
  exact ⟨h.1, pigeonP b h.1 ip, fun x _ => nextP_len b (ip x ‹_›), fun x hx t ht => (h.2 _).mpr (.next ((h.2 x).mp hx) ht), fun x hx => nextP_nd b (ip x hx)⟩
def spLinks : Sp := fun vs H Q _ => ∃ (B z : Addr) (bk cl : Bk) (p : Pr), vs = [.ref B, .ref z] ∧ BksAt H B bk cl ∧ BB bk cl ∧ PAt H z p ∧ InP bk cl p ∧
  ∀ H' G ns, Same H H' → H G = none → QrAt H' G (nextP bk cl) ns → RnAll (nextP bk cl) p ns → Q (.ref G) H'
section
variable {P : Program} {w : World} {K : PySem.W.Frag} {mg : Str → Option Value} {base : Heap} {C : Addr}
abbrev CGrown (P : Program) (w : World) (K : PySem.W.Frag) (mg : Str → Option Value) (base : Heap) (fN : Addr) := Cal P w K mg base "grown" 2 ["onward", "told", "firsts"] (spGrown fN)
abbrev CLinks (P : Program) (w : World) (K : PySem.W.Frag) (mg : Str → Option Value) (base : Heap) := Cal P w K mg base "links_from" 3 ["books", "pair"] spLinks
abbrev CFirst (P : Program) (w : World) (K : PySem.W.Frag) (mg : Str → Option Value) (base : Heap) (C : Addr) := Cal P w K mg base "first_pair" 2 ["one", "other"] (spFirstPair C)
def spPairsCome (C : Addr) : Sp := fun vs H Q _ => ∃ (q1 q2 : Addr) (bk cl : Bk) (st st' : Str), vs = [.ref q1, .ref q2] ∧ Two C H q1 q2 bk cl st st' ∧ DOk bk st ∧ DOk cl st' ∧
  ∀ H' R (ys : List (Addr × Pr)), Same H H' → H R = none → H' R = some (.lst (ys.map fun z => .ref z.1)) → X6.Prs H' ys → (ys.map (·.2)).Pairwise lePS → RnAll (nextP (ordB bk) (ordB cl)) (st, st') (ys.map (·.2)) → Q (.ref R) H'
theorem RnAll.perm {nx : Pr → List (Str × Pr)} {p : Pr} {ns ms : List Pr} (h : RnAll nx p ns) (e : ms.Perm ns) : RnAll nx p ms := ⟨e.nodup_iff.mpr h.1, fun x => e.mem_iff.trans (h.2 x)⟩
end
end D1
end L2
/-! is_fitting, shared_steps -/
namespace L2
namespace D1
open PySem PySem.Spec PyProof.Rows D2
abbrev sFit : Stmt := top 31
abbrev sNextOf : Stmt := top 32
def spFit : Sp := fun vs H Q _ => ∃ (B z : Addr) (bk cl : Bk) (p : Pr), vs = [.ref B, .ref z] ∧ BksAt H B bk cl ∧ PAt H z p ∧ InP bk cl p ∧ BB bk cl ∧ ∀ H', Same H H' → Q (.bl (fitP bk cl p)) H'
section
variable {P : Program} {w : World} {K : PySem.W.Frag} {mg : Str → Option Value} {base : Heap}
theorem scNx : FnScope nxN ["books", "pair"] (defScope sNextOf) := ⟨rfl, rfl, rfl, by decide +kernel, rfl, by decide +kernel, by decide +kernel⟩
theorem scFi : FnScope nxN ["books", "pair"] (defScope sFit) := ⟨rfl, rfl, rfl, by decide +kernel, rfl, by decide +kernel, by decide +kernel⟩
theorem ok_fit {f : Addr} {fd : FuncData} (F : Fun K "is_fitting" "is_fitting" sFit f fd) (T : Free3 mg) : FnOk P w K mg base CX0 1 f fd ["books", "pair"] spFit := by
  refine F.ok scFi (fun vs H Q E h => ?_) (fun cdv A outer s H vs Q E0' hr h => ?_)
  · obtain ⟨B, z, bk, cl, p, rfl, _⟩ := h; rfl
  · obtain ⟨B, z, bk, cl, p, rfl, ⟨b1, b2, hB, ⟨kvs1, hb1, hR1⟩, ⟨kvs2, hb2, hR2⟩⟩, hz, ⟨hp1, hp2⟩, bb, k⟩ := h
    have hu := hu_of hr
    refine ⟨_, pss_cons (ps_asg (pe_dget hu (pe_ix ix_tup (pv 0) pe_int (fun _ _ => rfl)) (pe_ix ix_tup (pv 1) pe_int (fun _ _ => rfl)) (fun _ _ => rfl)) (pg_tup rfl (pgs_cons (pg_name (i := 2) scFi.nd rfl (Or.inl rfl)) (pgs_cons (pg_name (i := 3) scFi.nd rfl (Or.inr rfl)) pgs_nil))))
      (pss_cons (ps_asg (pe_dget hu (pe_ix ix_tup (pv 0) pe_int (fun _ _ => rfl)) (pe_ix ix_tup (pv 1) pe_int (fun _ _ => rfl)) (fun _ _ => rfl)) (pg_tup rfl (pgs_cons (pg_name (i := 4) scFi.nd rfl (Or.inl rfl)) (pgs_cons (pg_name (i := 5) scFi.nd rfl (Or.inr rfl)) pgs_nil))))
      (pss_cons (ps_if (pt_cmpR op_ne (pv 2) (pv 4) rfl) (pss_one (ps_ret pe_bl)) pss_nil)
      (pss_cons (ps_if (pt_cmpR op_eq (pv 2) pe_str rfl) (pss_one (ps_ret (pe_callB (cr_all rfl) (by rfl) T.all (by decide +kernel) (pa_cons (pe_lock (pe_lc (own := [("word", 6)]) (g := gName 6) (tt := tYes) (te := tDIn (tVar 6) (tVar 5)) rfl scFi.nd (pi_keys (pv 3))
            (blkOk_by (N := nxN) (sc := defScope sFit) (by decide +kernel)) (fun _ _ _ _ _ => pg_name (i := 6) scFi.nd rfl (Or.inl rfl)) (fun _ _ _ _ _ => pts_nil) (fun _ _ _ _ _ => pe_cmp (pc_din hu (pv 6) (pv 5)) rfl))) pa_nil)))) pss_nil)
      (pss_one (ps_ret (pe_callB (cr_all rfl) (by rfl) T.all (by decide +kernel) (pa_cons (pe_lock (pe_lc (own := [("word", 6)]) (g := gName 6) (tt := tYes) (te := tDIn (tVar 6) (tVar 3)) rfl scFi.nd (pi_keys (pv 5))
            (blkOk_by (N := nxN) (sc := defScope sFit) (by decide +kernel)) (fun _ _ _ _ _ => pg_name (i := 6) scFi.nd rfl (Or.inl rfl)) (fun _ _ _ _ _ => pts_nil) (fun _ _ _ _ _ => pe_cmp (pc_din hu (pv 6) (pv 3)) rfl))) pa_nil))))))), ?_⟩
    obtain ⟨v1, ev1, ⟨t1, a1, rfl, ht1, h1⟩, m1⟩ := hR1.look hp1
    obtain ⟨v2, ev2, ⟨t2, a2, rfl, ht2, h2⟩, m2⟩ := hR2.look hp2
    have l1 : (rowOf bk p.1).2.length ≤ 60 := bb.w1.len2 _ m1
    have l2 : (rowOf cl p.2).2.length ≤ 60 := bb.w2.len2 _ m2
    refine ⟨_, rfl, B, _, _, _, rfl, rfl, SqT.of hB, atI_nat (j := 0) rfl, _, rfl, z, _, _, _, rfl, rfl, SqT.of hz, atI_nat (j := 0) rfl, b1, _, rfl, .inl ⟨kvs1, .inr p.1, .inl hb1, rfl, ev1.symm⟩, t1, _, rfl, SqT.of ht1, rfl, _, _, rfl, _, _, rfl, rfl, ?_⟩
    refine ⟨_, rfl, B, _, _, _, rfl, rfl, SqT.of hB, atI_nat (j := 1) rfl, _, rfl, z, _, _, _, rfl, rfl, SqT.of hz, atI_nat (j := 1) rfl, b2, _, rfl, .inl ⟨kvs2, .inr p.2, .inl hb2, rfl, ev2.symm⟩, t2, _, rfl, SqT.of ht2, rfl, _, _, rfl, _, _, rfl, rfl, ?_⟩
    have h1 : TurnsAt H a1 (rowOf bk p.1).2 := h1
    have h2 : TurnsAt H a2 (rowOf cl p.2).2 := h2
    refine ⟨_, rfl, _, rfl, rfl, _, rfl, ?_⟩
    by_cases c : (rowOf bk p.1).1 = (rowOf cl p.2).1
    · rw [show (!decide (V.str (rowOf bk p.1).1 = V.str (rowOf cl p.2).1)) = false by rw [c]; simp]
      refine iteF ⟨_, rfl, rfl, _, rfl, ?_⟩
      by_cases d : (rowOf bk p.1).1 = "hears"
      · rw [show decide (V.str (rowOf bk p.1).1 = V.str "hears") = true by rw [d]; simp]
        refine iteT ?_
        refine ⟨a1, _, h1, trivial, fun od => ?_⟩
        refine ⟨_, rfl, a1, od, rfl, .inl ⟨kT (rowOf bk p.1).2, upd_same, fun M hM => ?_⟩⟩
        have nM : M ≠ a1 := fun e => by rw [e, upd_same] at hM; cases hM
        have hhL : Rd (L2.upd H a1 (.frz od (.dK (kT (rowOf bk p.1).2)))) a2 (.dK (kT (rowOf cl p.2).2)) := rd_lock (.inl h2) h1 fun _ _ e => by cases e
        refine lc_it (walk_keys (d := a1) (o := od) (kvs := kT (rowOf bk p.1).2)) (fun j H' => Same (L2.upd H a1 (.frz od (.dK (kT (rowOf bk p.1).2)))) H' ∧ H' M = some (.lst ((((rowOf bk p.1).2.take j).map fun t => decide (t.1 ∈ (rowOf cl p.2).2.map (·.1))).map V.bl))) ⟨Same.new hM, upd_same⟩ (fun j H' _ z => z.1 _ _ upd_same) ?_ ?_
        · rintro j x H10 H11 hj ⟨sm, hM10⟩ ⟨rfl, kk, v0, hkv, rfl⟩
          obtain ⟨t1, ht1, rfl⟩ := kT_at hkv
          refine ⟨rfl, ?_⟩
          dsimp only [tYes]
          rw [if_pos rfl]
          refine ⟨_, rfl, _, rfl, a2, _, rfl, .inl ⟨kT (rowOf cl p.2).2, .inr t1.1, rd_same hhL sm, rfl, rfl⟩, ?_⟩
          rw [kT_isSome]
          have l1 := kT_lt hkv
          refine ⟨_, hM10, by rw [List.length_map, List.length_map, List.length_take, sizeLine_eq]; omega, fun c u e => ?_, by rw [upd_same, take_succ_get ht1, List.map_append, List.map_append]; rfl⟩
          rw [upd_ne (ne_of_none e hM)]; exact sm _ _ e
        rintro H10 ⟨sm, hM10⟩
        rw [show (kT (rowOf bk p.1).2).length = (rowOf bk p.1).2.length by rw [kT, List.length_map], List.take_length] at hM10
        have su := Same.unlock h1 sm
        refine ⟨sm _ _ upd_same, M, _, rfl, SqL.of (by rw [upd_ne nM]; exact hM10), ?_⟩
        rw [all_map]
        have := k _ su
        rw [show fitP bk cl p = (rowOf bk p.1).2.all fun t => decide (t.1 ∈ (rowOf cl p.2).2.map (·.1)) by unfold fitP; rw [decide_eq_true c, if_pos d]; rfl] at this
        exact this
      · rw [show decide (V.str (rowOf bk p.1).1 = V.str "hears") = false by simpa using d]
        refine iteF ?_
        refine ⟨a2, _, h2, trivial, fun od => ?_⟩
        refine ⟨_, rfl, a2, od, rfl, .inl ⟨kT (rowOf cl p.2).2, upd_same, fun M hM => ?_⟩⟩
        have nM : M ≠ a2 := fun e => by rw [e, upd_same] at hM; cases hM
        have hhL : Rd (L2.upd H a2 (.frz od (.dK (kT (rowOf cl p.2).2)))) a1 (.dK (kT (rowOf bk p.1).2)) := rd_lock (.inl h1) h2 fun _ _ e => by cases e
        refine lc_it (walk_keys (d := a2) (o := od) (kvs := kT (rowOf cl p.2).2)) (fun j H' => Same (L2.upd H a2 (.frz od (.dK (kT (rowOf cl p.2).2)))) H' ∧ H' M = some (.lst ((((rowOf cl p.2).2.take j).map fun t => decide (t.1 ∈ (rowOf bk p.1).2.map (·.1))).map V.bl))) ⟨Same.new hM, upd_same⟩ (fun j H' _ z => z.1 _ _ upd_same) ?_ ?_
        · rintro j x H10 H11 hj ⟨sm, hM10⟩ ⟨rfl, kk, v0, hkv, rfl⟩
          obtain ⟨t1, ht1, rfl⟩ := kT_at hkv
          refine ⟨rfl, ?_⟩
          dsimp only [tYes]
          rw [if_pos rfl]
          refine ⟨_, rfl, _, rfl, a1, _, rfl, .inl ⟨kT (rowOf bk p.1).2, .inr t1.1, rd_same hhL sm, rfl, rfl⟩, ?_⟩
          rw [kT_isSome]
          have l1 := kT_lt hkv
          refine ⟨_, hM10, by rw [List.length_map, List.length_map, List.length_take, sizeLine_eq]; omega, fun c u e => ?_, by rw [upd_same, take_succ_get ht1, List.map_append, List.map_append]; rfl⟩
          rw [upd_ne (ne_of_none e hM)]; exact sm _ _ e
        rintro H10 ⟨sm, hM10⟩
        rw [show (kT (rowOf cl p.2).2).length = (rowOf cl p.2).2.length by rw [kT, List.length_map], List.take_length] at hM10
        have su := Same.unlock h2 sm
        refine ⟨sm _ _ upd_same, M, _, rfl, SqL.of (by rw [upd_ne nM]; exact hM10), ?_⟩
        rw [all_map]
        have := k _ su
        rw [show fitP bk cl p = (rowOf cl p.2).2.all fun t => decide (t.1 ∈ (rowOf bk p.1).2.map (·.1)) by unfold fitP; rw [decide_eq_true c, if_neg d]; rfl] at this
        exact this
    · rw [show (!decide (V.str (rowOf bk p.1).1 = V.str (rowOf cl p.2).1)) = true by simpa using c]
      refine iteT ?_
      have := k H (Same.refl _)
      rw [show fitP bk cl p = false by unfold fitP; rw [decide_eq_false c]; rfl] at this
      exact this
theorem ok_shared {f : Addr} {fd : FuncData} (F : Fun K "shared_steps" "shared_steps" sNextOf f fd) : FnOk P w K mg base CX0 1 f fd ["books", "pair"] spNextOf := by
  refine F.ok scNx (fun vs H Q E h => ?_) (fun cdv A outer s H vs Q E0' hr h => ?_)
  · obtain ⟨B, z, b1, b2, bk, cl, p, rfl, _⟩ := h; rfl
  · obtain ⟨B, z, b1, b2, bk, cl, p, rfl, hB, ⟨kvs1, hb1, hR1⟩, ⟨kvs2, hb2, hR2⟩, hz, hp1, hp2, w1, w2, n1, n2, k⟩ := h
    have hu := hu_of hr
    refine ⟨_, pss_cons (ps_asg (pe_dget hu (pe_ix ix_tup (pv 0) pe_int (fun _ _ => rfl)) (pe_ix ix_tup (pv 1) pe_int (fun _ _ => rfl)) (fun _ _ => rfl)) (pg_tup rfl (pgs_cons (pg_name (i := 2) scNx.nd rfl (Or.inl rfl)) (pgs_cons (pg_name (i := 3) scNx.nd rfl (Or.inr rfl)) pgs_nil))))
      (pss_cons (ps_asg (pe_dget hu (pe_ix ix_tup (pv 0) pe_int (fun _ _ => rfl)) (pe_ix ix_tup (pv 1) pe_int (fun _ _ => rfl)) (fun _ _ => rfl)) (pg_tup rfl (pgs_cons (pg_name (i := 4) scNx.nd rfl (Or.inl rfl)) (pgs_cons (pg_name (i := 5) scNx.nd rfl (Or.inr rfl)) pgs_nil))))
      (pss_cons (ps_if (pt_cmpR op_ne (pv 2) (pv 4) rfl) (pss_one (ps_ret pe_dnewK)) pss_nil)
      (pss_one (ps_ret (pe_lock (pe_dc (own := [("word", 6)]) (g := gName 6) (tt := tTest (tDIn (tVar 6) (tVar 5))) (tk := tVar 6) (tv := tTup (tCons (tDGet (tVar 3) (tVar 6)) (tCons (tDGet (tVar 5) (tVar 6)) tNil))) rfl scNx.nd (pi_keys (pv 3))
            (blkOk_by (N := nxN) (sc := defScope sNextOf) (by decide +kernel)) (fun _ _ _ _ _ => pg_name (i := 6) scNx.nd rfl (Or.inl rfl)) (fun _ _ _ _ _ => pts_one (pt_cmp (pc_din hu (pv 6) (pv 5)) rfl)) (fun _ _ _ _ _ => pv 6) (fun _ _ _ _ _ => pe_tup (pa_cons (pe_dget hu (pv 3) (pv 6) (fun _ _ => rfl)) (pa_cons (pe_dget hu (pv 5) (pv 6) (fun _ _ => rfl)) pa_nil))))))))), ?_⟩
    obtain ⟨v1, ev1, ⟨t1, a1, rfl, ht1, h1⟩, m1⟩ := hR1.look hp1
    obtain ⟨v2, ev2, ⟨t2, a2, rfl, ht2, h2⟩, m2⟩ := hR2.look hp2
    have nd1 : ((rowOf bk p.1).2.map (·.1)).Nodup := n1 _ m1
    have l1 : (rowOf bk p.1).2.length ≤ 60 := w1.len2 _ m1
    have l2 : (rowOf cl p.2).2.length ≤ 60 := w2.len2 _ m2
    refine ⟨_, rfl, B, _, _, _, rfl, rfl, SqT.of hB, atI_nat (j := 0) rfl, _, rfl, z, _, _, _, rfl, rfl, SqT.of hz, atI_nat (j := 0) rfl, b1, _, rfl, .inl ⟨kvs1, .inr p.1, .inl hb1, rfl, ev1.symm⟩, t1, _, rfl, SqT.of ht1, rfl, _, _, rfl, _, _, rfl, rfl, ?_⟩
    refine ⟨_, rfl, B, _, _, _, rfl, rfl, SqT.of hB, atI_nat (j := 1) rfl, _, rfl, z, _, _, _, rfl, rfl, SqT.of hz, atI_nat (j := 1) rfl, b2, _, rfl, .inl ⟨kvs2, .inr p.2, .inl hb2, rfl, ev2.symm⟩, t2, _, rfl, SqT.of ht2, rfl, _, _, rfl, _, _, rfl, rfl, ?_⟩
    have h1 : TurnsAt H a1 (rowOf bk p.1).2 := h1
    have h2 : TurnsAt H a2 (rowOf cl p.2).2 := h2
    refine ⟨_, rfl, _, rfl, rfl, _, rfl, ?_⟩
    by_cases c : (rowOf bk p.1).1 = (rowOf cl p.2).1
    · rw [show (!decide (V.str (rowOf bk p.1).1 = V.str (rowOf cl p.2).1)) = false by rw [c]; simp]
      refine iteF ?_
      refine ⟨a1, _, h1, trivial, fun od2 => ?_⟩
      refine ⟨_, rfl, a1, od2, rfl, .inl ⟨kT (rowOf bk p.1).2, upd_same, fun D hD => ?_⟩⟩
      have nD : D ≠ a1 := fun e => by rw [e, upd_same] at hD; cases hD
      have oL : Rd (L2.upd H a1 (.frz od2 (.dK (kT (rowOf bk p.1).2)))) a1 (.dK (kT (rowOf bk p.1).2)) := rd_lock (.inl h1) h1 fun _ _ e => by cases e
      have tL : Rd (L2.upd H a1 (.frz od2 (.dK (kT (rowOf bk p.1).2)))) a2 (.dK (kT (rowOf cl p.2).2)) := rd_lock (.inl h2) h1 fun _ _ e => by cases e
      refine dc_it (walk_keys (d := a1) (o := od2) (kvs := kT (rowOf bk p.1).2)) (fun j H' => Same (L2.upd H a1 (.frz od2 (.dK (kT (rowOf bk p.1).2)))) H' ∧ ∃ kv2, H' D = some (.dK kv2) ∧ PRows (cut [D] H') kv2 ((((rowOf bk p.1).2.take j).filter fun t => decide (t.1 ∈ (rowOf cl p.2).2.map (·.1))).map fun t => (t.1, (goalT (rowOf bk p.1).2 t.1, goalT (rowOf cl p.2).2 t.1)))) ⟨Same.new hD, [], upd_same, .nil⟩ (fun j H' _ z => z.1 _ _ upd_same) ?_ ?_
      · rintro j x H12 H13 hj ⟨sm, kv2, hD12, hP⟩ ⟨rfl, kk, v0, hkv, rfl⟩
        obtain ⟨t1, ht1, rfl⟩ := kT_at hkv
        have tm : t1 ∈ (rowOf bk p.1).2 := List.mem_of_getElem? ht1
        have m1 : t1.1 ∈ (rowOf bk p.1).2.map (·.1) := List.mem_map_of_mem tm
        refine ⟨rfl, ?_⟩
        refine ⟨_, rfl, _, rfl, a2, _, rfl, .inl ⟨_, .inr t1.1, rd_same tL sm, rfl, rfl⟩, _, rfl, ?_⟩
        rw [kT_isSome]
        by_cases m2 : t1.1 ∈ (rowOf cl p.2).2.map (·.1)
        · refine (if_pos (decide_eq_true m2)).mpr ?_
          refine ⟨_, rfl, _, rfl, _, rfl, a1, _, rfl, .inl ⟨_, .inr t1.1, rd_same oL sm, rfl, (valV_goal m1).symm⟩, _, rfl, _, rfl, a2, _, rfl, .inl ⟨_, .inr t1.1, rd_same tL sm, rfl, (valV_goal m2).symm⟩, by show 2 ≤ sizeLine; decide, fun T1 hT1 => ?_⟩
          have g := Same.new (o := .tup [.str (goalT (rowOf bk p.1).2 t1.1), .str (goalT (rowOf cl p.2).2 t1.1)]) hT1
          have nT : T1 ≠ D := fun e => by rw [e, hD12] at hT1; cases hT1
          have l1 := kT_lt hkv
          have fresh : (Sum.inr t1.1 : Key) ∉ kv2.map (·.1) := fun z => by
            rw [hP.keys, List.map_map] at z
            obtain ⟨t0, ht0, e0⟩ := List.mem_map.mp z
            have e0 : t0.1 = t1.1 := Sum.inr.inj e0
            have nn := nd_take (ys := (rowOf bk p.1).2.map (·.1)) nd1 (i := j) (z := t1.1) (by rw [List.getElem?_map, ht1]; rfl)
            exact nn (by rw [← List.map_take, ← e0]; exact List.mem_map_of_mem (List.mem_filter.mp ht0).1)
          refine ⟨kv2, .inr t1.1, rfl, g _ _ hD12, ?_, fun c u e => ?_, _, upd_same, ?_⟩
          · rw [hP.len, List.length_map, sizeLine_eq]
            have := List.length_filter_le (fun t => decide (t.1 ∈ (rowOf cl p.2).2.map (·.1))) ((rowOf bk p.1).2.take j)
            rw [List.length_take] at this
            omega
          · rw [upd_ne (ne_of_none e hD)]; exact g _ _ (sm _ _ e)
          · rw [cut_upd (by simp), take_succ_get ht1, List.filter_append, List.filter_cons_of_pos (by exact decide_eq_true m2), List.map_append, D1.putK_new fresh]
            exact pair_app (hP.same (cut_same g)) ⟨rfl, T1, rfl, by rw [PAt, cut_out (by simpa using nT)]; exact upd_same⟩
        · refine (if_neg (by rw [decide_eq_false m2]; exact Bool.false_ne_true)).mpr ⟨sm, kv2, hD12, ?_⟩
          rw [take_succ_get ht1, List.filter_append, List.filter_cons_of_neg (by simpa using m2), List.filter_nil, List.append_nil]
          exact hP
      · rintro H12 ⟨sm, kv2, hD12, hP⟩
        rw [show (kT (rowOf bk p.1).2).length = (rowOf bk p.1).2.length by rw [kT, List.length_map], List.take_length] at hP
        have su2 := Same.unlock h1 sm
        refine ⟨sm _ _ upd_same, ?_⟩
        have hDf : H D = none := by rw [upd_ne nD] at hD; exact hD
        refine k _ D su2 hDf ?_
        rw [show nextP bk cl p = ((rowOf bk p.1).2.filter fun t => decide (t.1 ∈ (rowOf cl p.2).2.map (·.1))).map fun t => (t.1, (goalT (rowOf bk p.1).2 t.1, goalT (rowOf cl p.2).2 t.1)) by unfold nextP; rw [if_pos c]]
        refine ⟨kv2, by rw [upd_ne nD]; exact hD12, ?_⟩
        refine paired_imp (fun kv t ⟨e, z, e1, e2⟩ => ⟨e, z, e1, ?_⟩) hP
        have e2 := cut_le _ _ e2
        rw [PAt, upd_ne fun q => by rw [q, sm _ _ upd_same] at e2; cases e2]; exact e2
    · rw [show (!decide (V.str (rowOf bk p.1).1 = V.str (rowOf cl p.2).1)) = true by simpa using c]
      refine iteT fun R hR => ?_
      refine k _ R (Same.new hR) hR ?_
      rw [show nextP bk cl p = [] by unfold nextP; rw [if_neg c]]
      exact ⟨[], upd_same, .nil⟩
end
end D1
end L2
/-! talk_to -/
namespace L2
namespace D1
open PySem PySem.Spec PyProof.Rows D2 X5 X6
theorem qrows_some {H : Hp} {nx : Pr → List (Str × Pr)} {kvs : List (List Key × V)} {ns : List Pr} (h : QRows H nx kvs ns) (x : Pr) : (valV kvs (kP x)).isSome = decide (x ∈ ns) := by
  by_cases c : x ∈ ns
  · obtain ⟨a, e, _⟩ := h.look c
    rw [e, decide_eq_true c]; rfl
  · rw [valT_none c h.keys, decide_eq_false c]; rfl
theorem OptL.back {H H0 H' : Hp} {v : V} {o : Option (List Str)} (h : OptL H0 H' v o) (s : Same H H0) : OptL H H' v o := by
  cases o with
  | none => exact h
  | some way => obtain ⟨W, e, n, hw⟩ := h; exact ⟨W, e, s.free n, hw⟩
def spTalkTo (C : Addr) : Sp := fun vs H Q _ => ∃ (q1 q2 z : Addr) (bk cl : Bk) (st st' : Str) (q : Pr), vs = [.ref q1, .ref q2, .ref z] ∧ Two C H q1 q2 bk cl st st' ∧ DOk bk st ∧ DOk cl st' ∧ PAt H z q ∧ InP bk cl q ∧
  ∀ H' v, Same H H' → OptL H H' v (talkP (nextP (ordB bk) (ordB cl)) (st, st') q) → Q v H'
section
variable {P : Program} {w : World} {K : PySem.W.Frag} {mg : Str → Option Value} {base : Heap} {C : Addr}
abbrev CShortest (P : Program) (w : World) (K : PySem.W.Frag) (mg : Str → Option Value) (base : Heap) := Cal P w K mg base "shortest_way" 3 ["graph", "start", "goals"] spShortest
end
end D1
end L2
/-! is_talk, need_talk, pair_behind -/
namespace L2
namespace D1
open PySem PySem.Spec PyProof.Rows D2 X5 X6
abbrev sIsTalk : Stmt := top 26
def spNeedTalk : Sp := fun vs H Q _ => ∃ (L : Addr) (ss : List Str), vs = [.ref L] ∧ SL H L ss ∧ ss.length ≤ 1000 ∧ (∀ x ∈ ss, Wd x) ∧ ∀ H', Same H H' → Q .non H'
def spBehind (C : Addr) : Sp := fun vs H Q _ => ∃ (q1 q2 L : Addr) (bk cl : Bk) (st st' : Str) (way : List Str), vs = [.ref q1, .ref q2, .ref L] ∧ Two C H q1 q2 bk cl st st' ∧ DOk bk st ∧ DOk cl st' ∧ SL H L way ∧ way.length ≤ 1000 ∧ (∀ x ∈ way, Wd x) ∧
  ∀ H' v, Same H H' → OptAt H' v (afterP (ordB bk) (ordB cl) (st, st') way) → Q v H'
section
variable {P : Program} {w : World} {K : PySem.W.Frag} {mg : Str → Option Value} {base : Heap} {C : Addr}
abbrev CNeedTalk (P : Program) (w : World) (K : PySem.W.Frag) (mg : Str → Option Value) (base : Heap) := Cal P w K mg base "need_talk" 4 ["talk"] spNeedTalk
abbrev CAfter (P : Program) (w : World) (K : PySem.W.Frag) (mg : Str → Option Value) (base : Heap) := Cal P w K mg base "pair_after" 2 ["books", "pair", "words"] spPairAfter
theorem scIk : FnScope ["value"] ["value"] (defScope sIsTalk) := ⟨rfl, rfl, rfl, by decide +kernel, rfl, by decide +kernel, by decide +kernel⟩
theorem ok_istalk {f : Addr} {fd : FuncData} (F : Fun K "is_talk" "is_talk" sIsTalk f fd) (CN : CIsNames P w K mg base) : FnOk P w K mg base CX0 3 f fd ["value"] spIsNames := by
  refine F.ok scIk (fun vs H Q E h => ?_) (fun cdv A outer s H vs Q E hr h => ?_)
  · obtain ⟨L, ss, rfl, _⟩ := h; rfl
  · obtain ⟨L, ss, rfl, h1, h2, h3, k⟩ := h
    exact ⟨_, pss_one (ps_ret (pe_cal CN (hr.mono (by decide)) rfl (pa_cons (pv 0) pa_nil))), _, rfl, L, ss, rfl, h1, h2, h3, k⟩
end
end D1
end L2
/-! == of pairs -/
namespace L2
namespace D1
open PySem PySem.Spec PyProof.Rows D2 X5 X6
theorem sh_pr {p : Pr} (h : Wd p.1 ∧ Wd p.2) : SeqAt.shaped (.tuple [.str p.1, .str p.2]) = true := by
  have l := lay_pairs (ps := [p]) fun x hx => by rw [List.mem_singleton.mp hx]; exact h
  have l : PyData.canLayAll0 [.tuple [.str p.1, .str p.2]] = true := l
  rw [PyData.canLayAll0] at l
  unfold SeqAt.shaped
  rw [(Bool.and_eq_true_iff.mp l).1]
  rfl
theorem eqv_pr (p q : Pr) : PyData.eqv (.tuple [.str p.1, .str p.2]) (.tuple [.str q.1, .str q.2]) = decide (p = q) := by
  have h : PyData.eqv (.tuple [.str p.1, .str p.2]) (.tuple [.str q.1, .str q.2]) = (decide (p.1 = q.1) && decide (p.2 = q.2)) := by
    simp [PyData.eqv, PyData.eqvAll]
    rfl
  rw [h, Bool.eq_iff_iff]
  simp [Prod.ext_iff]
theorem eqv_non (q : Pr) : PyData.eqv .none (.tuple [.str q.1, .str q.2]) = false := by
  simp [PyData.eqv]
theorem afterP_inP {bk cl : Bk} (b : BB bk cl) : ∀ {way : List Str} {p q : Pr}, InP bk cl p → afterP bk cl p way = some q → InP bk cl q
  | [], p, q, hp, e => by rw [afterP] at e; rw [← Option.some.inj e]; exact hp
  | x :: r, p, q, hp, e => by
    rw [afterP] at e
    cases c : findP (nextP bk cl p) x with
    | none => rw [c] at e; cases e
    | some u =>
      rw [c] at e
      exact afterP_inP b (way := r) (nextP_in b hp _ (findP_mem c)) e
end D1
end L2
/-! the law's _law_led -/
namespace L2
namespace D1
open PySem PySem.Spec PyProof.Rows D2 X5 X6
theorem after_snoc {bk cl : Bk} : ∀ {way : List Str} {p : Pr} {x : Str}, afterP bk cl p (way ++ [x]) = (afterP bk cl p way).bind fun q => findP (nextP bk cl q) x
  | [], p, x => by
    show (match findP (nextP bk cl p) x with | none => none | some q => afterP bk cl q []) = findP (nextP bk cl p) x
    cases findP (nextP bk cl p) x <;> rfl
  | y :: r, p, x => by
    show (match findP (nextP bk cl p) y with | none => none | some q => afterP bk cl q (r ++ [x])) = (match findP (nextP bk cl p) y with | none => none | some q => afterP bk cl q r).bind _
    cases findP (nextP bk cl p) y with
    | none => rfl
    | some q => exact after_snoc (way := r)
def spLed : Sp := fun vs H Q _ => ∃ (S z L : Addr) (bk cl : Bk) (ns : List Pr) (p : Pr) (way : List Str), vs = [.ref S, .ref z, .ref L] ∧ QrAt H S (nextP bk cl) ns ∧ (∀ q, InP bk cl q → q ∈ ns) ∧ BB bk cl ∧ PAt H z p ∧ InP bk cl p ∧ SL H L way ∧
  ∀ v, OptAt H v (afterP bk cl p way) → Q v H
section
variable {P : Program} {w : World} {K : PySem.W.Frag} {mg : Str → Option Value} {base : Heap} {C : Addr}
abbrev leN : List Str := ["_law_steps", "_law_pair", "_law_talk", "_law_word_here"]
end
end D1
end L2
/-! graph_of_steps, node_behind -/
namespace L2
namespace D1
open PySem PySem.Spec PyProof.Rows D2 X5 X6
abbrev sNodeB : Stmt := top 13
abbrev sGraphS : Stmt := top 33
def spGraphS (C : Addr) : Sp := fun vs H Q _ => ∃ (q1 q2 : Addr) (bk cl : Bk) (st st' : Str), vs = [.ref q1, .ref q2] ∧ Two C H q1 q2 bk cl st st' ∧ DOk bk st ∧ DOk cl st' ∧
  ∀ H' R B G ns, Same H H' → H' R = some (.tup [.ref B, .ref G]) → BksAt H' B (ordB bk) (ordB cl) → QrAt H' G (nextP (ordB bk) (ordB cl)) ns → RnAll (nextP (ordB bk) (ordB cl)) (st, st') ns → Q (.ref R) H'
def spNodeB : Sp := fun vs H Q _ => ∃ (S z L : Addr) (bk cl : Bk) (ns : List Pr) (p : Pr) (way : List Str), vs = [.ref S, .ref z, .ref L] ∧ QrAt H S (nextP bk cl) ns ∧ RnAll (nextP bk cl) p ns ∧ PAt H z p ∧ SL H L way ∧
  ∀ v, OptAt H v (afterP bk cl p way) → Q v H
theorem after_stop {bk cl : Bk} : ∀ {way : List Str} {i : Nat} {p : Pr}, afterP bk cl p (way.take i) = none → afterP bk cl p way = none
  | [], i, p, h => by simpa using h
  | x :: r, 0, p, h => by cases h
  | x :: r, i + 1, p, h => by
    rw [List.take_succ_cons] at h
    unfold afterP at h ⊢
    cases e : findP (nextP bk cl p) x with
    | none => rfl
    | some q =>
      rw [e] at h
      exact after_stop (way := r) (i := i) h
theorem after_rn {bk cl : Bk} : ∀ {way : List Str} {p q r : Pr}, Rn (nextP bk cl) r p → afterP bk cl p way = some q → Rn (nextP bk cl) r q
  | [], p, q, r, h, e => by cases e; exact h
  | x :: w, p, q, r, h, e => by
    unfold afterP at e
    cases c : findP (nextP bk cl p) x with
    | none => rw [c] at e; cases e
    | some u =>
      rw [c] at e
      exact after_rn (way := w) (.next h (findP_mem c)) e
section
variable {P : Program} {w : World} {K : PySem.W.Frag} {mg : Str → Option Value} {base : Heap} {C : Addr}
theorem scGs : FnScope ["elder", "newer", "books"] ["elder", "newer"] (defScope sGraphS) := ⟨rfl, rfl, rfl, by decide +kernel, rfl, by decide +kernel, by decide +kernel⟩
theorem ok_graph {f fN : Addr} {fd : FuncData} (F : Fun K "graph_of_steps" "graph_of_steps" sGraphS f fd) (gN : mg "shared_steps" = some (.ref fN)) (CB : CBooksOf P w K mg base C) (CF : CFirst P w K mg base C) (CG : CGrown P w K mg base fN) : FnOk P w K mg base CX0 5 f fd ["elder", "newer"] (spGraphS C) := by
  refine F.ok scGs (fun vs H Q E h => ?_) (fun cdv A outer s H vs Q E hr h => ?_)
  · obtain ⟨q1, q2, bk, cl, st, st', rfl, _⟩ := h; rfl
  · obtain ⟨q1, q2, bk, cl, st, st', rfl, h12, o1, o2, k⟩ := h
    refine ⟨_, pss_cons (ps_set (i := 2) scGs.nd rfl (Or.inl rfl) (pe_cal CB (hr.mono (by decide)) rfl (pa_cons (pv 0) (pa_cons (pv 1) pa_nil))))
      (pss_one (ps_ret (pe_tup (pa_cons (pv 2) (pa_cons (pe_cal CG (hr.mono (by decide)) rfl (pa_cons (pe_glob (v := .ref fN) rfl gN rfl) (pa_cons (pv 2) (pa_cons (pe_lst (pa_cons (pe_cal CF (hr.mono (by decide)) rfl (pa_cons (pv 0) (pa_cons (pv 1) pa_nil))) pa_nil)) pa_nil)))) pa_nil))))), ?_⟩
    refine ⟨_, rfl, _, rfl, q1, q2, bk, cl, st, st', rfl, h12, o1, o2, fun H1 B s1 nB hB => ?_⟩
    refine ⟨_, rfl, _, rfl, _, rfl, _, rfl, q1, q2, bk, cl, st, st', rfl, h12.same s1, fun H2 z s2 nz hz => ⟨by show 1 ≤ sizeLine; decide, fun L hL => ?_⟩⟩
    have g := Same.new (o := .lst [.ref z]) hL
    refine ⟨B, L, z, ordB bk, ordB cl, (st, st'), rfl, (hB.same s2).same g, (o1.ord).bb o2.ord, upd_same, g _ _ hz, inP_ord.mpr ⟨o1.st, o2.st⟩, fun H3 G ns s3 nG hG hr => ⟨by show 2 ≤ sizeLine; decide, fun R hR => ?_⟩⟩
    have g4 := Same.new (o := .tup [.ref B, .ref G]) hR
    exact k _ R B G ns (Same.trans s1 (Same.trans s2 (Same.trans g (Same.trans s3 g4)))) upd_same ((((hB.same s2).same g).same s3).same g4) (hG.same g4) hr
abbrev nbN : List Str := ["graph", "start", "way", "node", "word"]
theorem scNb : FnScope nbN ["graph", "start", "way"] (defScope sNodeB) := ⟨rfl, rfl, rfl, by decide +kernel, rfl, by decide +kernel, by decide +kernel⟩
theorem ok_behind {f : Addr} {fd : FuncData} (F : Fun K "node_behind" "node_behind" sNodeB f fd) : FnOk P w K mg base CX0 1 f fd ["graph", "start", "way"] spNodeB := by
  refine F.ok scNb (fun vs H Q E h => ?_) (fun cdv A outer s H vs Q E hr h => ?_)
  · obtain ⟨S, z, L, bk, cl, ns, p, way, rfl, _⟩ := h; rfl
  · obtain ⟨S, z, L, bk, cl, ns, p, way, rfl, ⟨kvs, hS, hR⟩, ra, hz, hL, k⟩ := h
    have hu := hu_of hr
    refine ⟨_, pss_cons (ps_set (i := 3) scNb.nd rfl (Or.inl rfl) (pv 1))
      (pss_cons (ps_for PassesOwn.never rfl (pi_list (pv 2)) (pg_name (i := 4) scNb.nd rfl (Or.inl rfl))
        (pss_cons (ps_if (pt_cmp (pc_dnotin hu (pv 4) (pe_dget hu (pv 0) (pv 3) (fun _ _ => rfl))) rfl) (pss_one (ps_ret pe_non)) pss_nil)
        (pss_one (ps_set (i := 3) scNb.nd rfl (Or.inl rfl) (pe_dget hu (pe_dget hu (pv 0) (pv 3) (fun _ _ => rfl)) (pv 4) (fun _ _ => rfl))))))
      (pss_one (ps_ret (pv 3)))), ?_⟩
    refine ⟨_, rfl, _, rfl, L, rfl, ⟨_, hL.sq⟩, ?_⟩
    refine for_list (K := K) (a := L) (xs := way.map V.str) (fun i σ H' => ∃ y q v4, σ = [some (.ref S), some (.ref z), some (.ref L), some (.ref y), v4] ∧ H' = H ∧ PAt H y q ∧ afterP bk cl p (way.take i) = some q)
      ⟨z, p, none, rfl, rfl, hz, rfl⟩ (fun i σ H' _ ⟨_, _, _, _, e, _⟩ => by rw [e]; exact hL.sq) ?_ ?_
    · rintro i v σ H' hv ⟨y, q, v4, rfl, rfl, hy, ha⟩
      obtain ⟨x, hx, rfl⟩ := D1.get_map hv
      obtain ⟨a, va, kr, hak, pR⟩ := hR.look ((ra.2 q).mpr (after_rn .here ha))
      have dg : DGet H' S (.ref y) (some (.ref a)) := by rw [← va]; exact DGet.t (k := kP q) hS hy
      have e1 : afterP bk cl p (way.take (i + 1)) = findP (nextP bk cl q) x := by rw [take_succ_get hx, after_snoc, ha]; rfl
      refine ⟨_, rfl, _, rfl, _, rfl, S, _, rfl, dg, a, _, rfl, DGet.k (k := .inr x) hak, _, rfl, ?_⟩
      have := pR.val x
      cases hf : findP (nextP bk cl q) x with
      | none =>
        rw [hf] at this
        rw [this]
        refine iteT (k .non ?_)
        rw [after_stop (i := i + 1) (by rw [e1, hf])]; rfl
      | some u =>
        rw [hf] at this
        obtain ⟨z2, e2, h2⟩ := this
        have dw : DGet H' a (.str x) (some (.ref z2)) := by rw [← e2]; exact DGet.k (k := .inr x) hak
        rw [e2]
        refine iteF ⟨_, rfl, _, rfl, S, _, rfl, dg, _, rfl, a, _, rfl, dw, ?_⟩
        exact ⟨z2, u, _, rfl, rfl, h2, by rw [e1, hf]⟩
    · rintro σ H' ⟨y, q, v4, rfl, rfl, hy, ha⟩
      rw [List.length_map, List.take_length] at ha
      exact ⟨_, rfl, k _ (by rw [ha]; exact ⟨y, rfl, hy⟩)⟩
end
end D1
end L2
/-! how many words lead to one of some pairs -/
namespace L2
namespace D1
open PySem PySem.Spec PyProof.Rows D2 X5 X6
inductive WnE (nx : Pr → List (Str × Pr)) (q : Pr → Prop) : Nat → Pr → Prop
  | zero {x : Pr} : q x → WnE nx q 0 x
  | succ {n : Nat} {x : Pr} {t : Str × Pr} : t ∈ nx x → WnE nx q n t.2 → WnE nx q (n + 1) x
def IsDE (nx : Pr → List (Str × Pr)) (q : Pr → Prop) (x : Pr) (n : Nat) : Prop := WnE nx q n x ∧ ∀ m, m < n → ¬ WnE nx q m x
theorem IsDE.uniq {nx : Pr → List (Str × Pr)} {q : Pr → Prop} {x : Pr} {n m : Nat} (a : IsDE nx q x n) (b : IsDE nx q x m) : n = m := by
  rcases Nat.lt_trichotomy n m with h | h | h
  · exact absurd a.1 (b.2 n h)
  · exact h
  · exact absurd b.1 (a.2 m h)
theorem least_ofE {nx : Pr → List (Str × Pr)} {q : Pr → Prop} {x : Pr} : ∀ {n : Nat}, WnE nx q n x → ∃ m, m ≤ n ∧ IsDE nx q x m := by
  intro n
  induction n using Nat.strongRecOn with
  | ind n ih =>
    intro h
    by_cases c : ∃ m, m < n ∧ WnE nx q m x
    · obtain ⟨m, hm, w⟩ := c
      obtain ⟨k, hk, d⟩ := ih m hm w
      exact ⟨k, by omega, d⟩
    · exact ⟨n, Nat.le_refl _, h, fun m hm w => c ⟨m, hm, w⟩⟩
theorem isD_zeroE {nx : Pr → List (Str × Pr)} {q : Pr → Prop} {x : Pr} : IsDE nx q x 0 ↔ q x := by
  constructor
  · rintro ⟨h, _⟩
    cases h with
    | zero h => exact h
  · intro h; exact ⟨.zero h, fun m h => by omega⟩
theorem IsDE.step {nx : Pr → List (Str × Pr)} {q : Pr → Prop} {x : Pr} {n : Nat} (d : IsDE nx q x (n + 1)) : ∃ t ∈ nx x, IsDE nx q t.2 n := by
  obtain ⟨h, l⟩ := d
  cases h with
  | succ ht w => exact ⟨_, ht, w, fun m hm w' => l (m + 1) (by omega) (.succ ht w')⟩
open Classical in
noncomputable def farPE (nx : Pr → List (Str × Pr)) (q : Pr → Prop) (x : Pr) : Option Nat := if h : ∃ n, IsDE nx q x n then some (choose h) else none
theorem farP_someE {nx : Pr → List (Str × Pr)} {q : Pr → Prop} {x : Pr} {n : Nat} : farPE nx q x = some n ↔ IsDE nx q x n := by
  unfold farPE
  by_cases h : ∃ n, IsDE nx q x n
  · rw [dif_pos h]
    have c := Classical.choose_spec h
    constructor
    · intro e; rw [← Option.some.inj e]; exact c
    · intro d; rw [c.uniq d]
  · rw [dif_neg h]
    exact ⟨fun e => (by cases e), fun d => absurd ⟨n, d⟩ h⟩
noncomputable def farVE (nx : Pr → List (Str × Pr)) (q : Pr → Prop) (x : Pr) : Nat := (farPE nx q x).getD 0
theorem farV_ofE {nx : Pr → List (Str × Pr)} {q : Pr → Prop} {x : Pr} {n : Nat} (d : IsDE nx q x n) : farVE nx q x = n := by rw [farVE, farP_someE.mpr d]; rfl
structure LvE (nx : Pr → List (Str × Pr)) (q : Pr → Prop) (ns : List Pr) (r : Nat) (ks ls : List Pr) : Prop where
  nd : ks.Nodup
  sub : ∀ x ∈ ks, x ∈ ns
  kd : ∀ x ∈ ns, x ∈ ks ↔ ∃ n, n ≤ r ∧ IsDE nx q x n
  ld : ∀ x ∈ ns, x ∈ ls ↔ IsDE nx q x r
  ls : ∀ x ∈ ls, x ∈ ks
structure LjE (nx : Pr → List (Str × Pr)) (q : Pr → Prop) (ns : List Pr) (r : Nat) (ks0 done es ks cs : List Pr) : Prop where
  nd : ks.Nodup
  sub : ∀ x ∈ ks, x ∈ ns
  old : ∀ x ∈ ks0, x ∈ ks
  new : ∀ x ∈ ks, x ∈ ks0 ∨ x ∈ cs
  cd : ∀ x ∈ cs, x ∈ ks ∧ IsDE nx q x (r + 1)
  pr : ∀ y ∈ done, ∀ e ∈ ns, (∃ t ∈ nx e, t.2 = y) → e ∈ ks
  pe : ∀ e ∈ es, e ∈ ks
  len : ks.length = ks0.length + cs.length
theorem LvE.begin {nx : Pr → List (Str × Pr)} {q : Pr → Prop} {ns gl : List Pr} (nd : gl.Nodup) (sub : ∀ x ∈ gl, x ∈ ns) (h : ∀ x ∈ ns, x ∈ gl ↔ q x) : LvE nx q ns 0 gl gl := by
  refine ⟨nd, sub, fun x hx => ?_, fun x hx => (h x hx).trans isD_zeroE.symm, fun x hx => hx⟩
  rw [h x hx]
  constructor
  · exact fun z => ⟨0, Nat.le_refl _, isD_zeroE.mpr z⟩
  · rintro ⟨n, hn, d⟩
    obtain rfl : n = 0 := by omega
    exact isD_zeroE.mp d
theorem LvE.enter {nx : Pr → List (Str × Pr)} {q : Pr → Prop} {ns ks ls : List Pr} {r : Nat} (b : LvE nx q ns r ks ls) : LjE nx q ns r ks [] [] ks [] :=
  ⟨b.nd, b.sub, fun _ h => h, fun _ h => .inl h, (fun _ h => by cases h), (fun _ h => by cases h), (fun _ h => by cases h), rfl⟩
theorem LjE.find {nx : Pr → List (Str × Pr)} {q : Pr → Prop} {ns ks0 ls done es ks cs : List Pr} {r : Nat} (b : LjE nx q ns r ks0 done es ks cs) (b0 : LvE nx q ns r ks0 ls) {y e : Pr} (hy : IsDE nx q y r) (he : e ∈ ns) (ht : ∃ t ∈ nx e, t.2 = y) (n : e ∉ ks) :
    IsDE nx q e (r + 1) ∧ LjE nx q ns r ks0 done (es ++ [e]) (ks ++ [e]) (cs ++ [e]) := by
  obtain ⟨t, ht, rfl⟩ := ht
  have d : IsDE nx q e (r + 1) := by
    refine ⟨.succ ht hy.1, fun m hm w => ?_⟩
    obtain ⟨k, hk, d⟩ := least_ofE w
    exact n (b.old _ ((b0.kd e he).mpr ⟨k, by omega, d⟩))
  refine ⟨d, nodup_app b.nd n, ?_, fun x hx => List.mem_append_left _ (b.old x hx), ?_, ?_, fun y hy e' he' ht' => List.mem_append_left _ (b.pr y hy e' he' ht'), ?_, by rw [List.length_append, List.length_append, b.len]; rfl⟩
  · intro x hx
    rcases List.mem_append.mp hx with z | z
    · exact b.sub x z
    · rw [List.mem_singleton.mp z]; exact he
  · intro x hx
    rcases List.mem_append.mp hx with z | z
    · exact (b.new x z).elim .inl fun q => .inr (List.mem_append_left _ q)
    · exact .inr (List.mem_append_right _ z)
  · intro x hx
    rcases List.mem_append.mp hx with z | z
    · exact ⟨List.mem_append_left _ (b.cd x z).1, (b.cd x z).2⟩
    · rw [List.mem_singleton.mp z]; exact ⟨List.mem_append_right _ (List.mem_singleton.mpr rfl), d⟩
  · intro x hx
    rcases List.mem_append.mp hx with z | z
    · exact List.mem_append_left _ (b.pe x z)
    · exact List.mem_append_right _ z
theorem LjE.skip {nx : Pr → List (Str × Pr)} {q : Pr → Prop} {ns ks0 done es ks cs : List Pr} {r : Nat} (b : LjE nx q ns r ks0 done es ks cs) {e : Pr} (h : e ∈ ks) : LjE nx q ns r ks0 done (es ++ [e]) ks cs :=
  { b with pe := fun x hx => (List.mem_append.mp hx).elim (b.pe x) fun z => (List.mem_singleton.mp z) ▸ h }
theorem LjE.turn {nx : Pr → List (Str × Pr)} {q : Pr → Prop} {ns ks0 done ks cs : List Pr} {r : Nat} {y : Pr} (b : LjE nx q ns r ks0 done (befP nx y ns) ks cs) : LjE nx q ns r ks0 (done ++ [y]) [] ks cs :=
  { b with
    pr := fun x hx e he ht => by
      rcases List.mem_append.mp hx with z | z
      · exact b.pr x z e he ht
      · rw [List.mem_singleton.mp z] at ht
        exact b.pe e (mem_befP.mpr ⟨he, ht⟩)
    pe := fun _ h => by cases h }
theorem LjE.leave {nx : Pr → List (Str × Pr)} {q : Pr → Prop} {ns ks0 ls ks cs : List Pr} {r : Nat} (cl : ∀ x ∈ ns, ∀ t ∈ nx x, t.2 ∈ ns) (b0 : LvE nx q ns r ks0 ls) (b : LjE nx q ns r ks0 ls [] ks cs) : LvE nx q ns (r + 1) ks cs := by
  have far : ∀ x ∈ ns, IsDE nx q x (r + 1) → x ∈ ks := fun x hx d => by
    obtain ⟨t, ht, dt⟩ := d.step
    exact b.pr t.2 ((b0.ld _ (cl x hx t ht)).mpr dt) x hx ⟨t, ht, rfl⟩
  refine ⟨b.nd, b.sub, fun x hx => ⟨fun h => ?_, ?_⟩, fun x hx => ⟨fun h => (b.cd x h).2, fun d => ?_⟩, fun x hx => (b.cd x hx).1⟩
  · rcases b.new x h with z | z
    · obtain ⟨n, hn, d⟩ := (b0.kd x hx).mp z
      exact ⟨n, by omega, d⟩
    · exact ⟨r + 1, Nat.le_refl _, (b.cd x z).2⟩
  · rintro ⟨n, hn, d⟩
    by_cases c : n = r + 1
    · exact far x hx (c ▸ d)
    · exact b.old _ ((b0.kd x hx).mpr ⟨n, by omega, d⟩)
  · rcases b.new x (far x hx d) with z | z
    · obtain ⟨n, hn, d'⟩ := (b0.kd x hx).mp z
      have := d.uniq d'
      omega
    · exact z
theorem LvE.done {nx : Pr → List (Str × Pr)} {q : Pr → Prop} {ns ks : List Pr} {r : Nat} (cl : ∀ x ∈ ns, ∀ t ∈ nx x, t.2 ∈ ns) (b : LvE nx q ns r ks []) : ∀ x ∈ ns, x ∈ ks ↔ ∃ n, IsDE nx q x n := by
  have no : ∀ n, r ≤ n → ∀ x ∈ ns, ¬ IsDE nx q x n := by
    intro n
    induction n with
    | zero => intro h x hx d; obtain rfl : r = 0 := by omega
              exact absurd ((b.ld x hx).mpr d) (by simp)
    | succ n ih =>
      intro h x hx d
      by_cases c : r = n + 1
      · exact absurd ((b.ld x hx).mpr (c ▸ d)) (by simp)
      · obtain ⟨t, ht, dt⟩ := d.step
        exact ih (by omega) t.2 (cl x hx t ht) dt
  intro x hx
  rw [b.kd x hx]
  constructor
  · rintro ⟨n, _, d⟩; exact ⟨n, d⟩
  · rintro ⟨n, d⟩
    by_cases c : r ≤ n
    · exact absurd d (no n c x hx)
    · exact ⟨n, by omega, d⟩
end D1
end L2
/-! words_to -/
namespace L2
namespace D1
open PySem PySem.Spec PyProof.Rows D2 X5 X6
noncomputable def iKE (nx : Pr → List (Str × Pr)) (q : Pr → Prop) (ks : List Pr) : List (List Key × V) := ks.map fun x => (kP x, .int (farVE nx q x))
theorem iK_keysE (nx : Pr → List (Str × Pr)) (q : Pr → Prop) (ks : List Pr) : (iKE nx q ks).map (·.1) = ks.map kP := by rw [iKE, List.map_map]; rfl
theorem iK_valE {nx : Pr → List (Str × Pr)} {q : Pr → Prop} {ks : List Pr} {x : Pr} (h : x ∈ ks) : valV (iKE nx q ks) (kP x) = some (.int (farVE nx q x)) := by
  induction ks with
  | nil => cases h
  | cons y r ih =>
    by_cases c : y = x
    · subst c; exact valV_pos rfl
    · exact (valV_neg (fun e => c (kP_inj e))).trans (ih ((List.mem_cons.mp h).resolve_left fun e => c e.symm))
theorem iK_someE (nx : Pr → List (Str × Pr)) (q : Pr → Prop) (ks : List Pr) (x : Pr) : (valV (iKE nx q ks) (kP x)).isSome = decide (x ∈ ks) := by
  by_cases h : x ∈ ks
  · rw [iK_valE h, decide_eq_true h]; rfl
  · rw [valT_none h (iK_keysE nx q ks), decide_eq_false h]; rfl
theorem iK_putE {nx : Pr → List (Str × Pr)} {q : Pr → Prop} {ks : List Pr} {x : Pr} (h : x ∉ ks) : putK (iKE nx q ks) (kP x) (.int (farVE nx q x)) = iKE nx q (ks ++ [x]) := by
  rw [L2.putK_new _ (valT_none h (iK_keysE nx q ks)), iKE, iKE, List.map_append]; rfl
def spWordsToE : Sp := fun vs H Q _ => ∃ (G L : Addr) (nx : Pr → List (Str × Pr)) (ns gl : List Pr) (ys : List Addr) (q : Pr → Prop), vs = [.ref G, .ref L] ∧ QrAt H G nx ns ∧ ns.Nodup ∧ ns.length ≤ 3600 ∧ (∀ x ∈ ns, (nx x).length ≤ 60) ∧ (∀ x ∈ ns, ∀ t ∈ nx x, t.2 ∈ ns) ∧
  H L = some (.lst (ys.map V.ref)) ∧ PL H ys gl ∧ gl.Nodup ∧ (∀ x ∈ gl, x ∈ ns) ∧ (∀ x ∈ ns, x ∈ gl ↔ q x) ∧
  ∀ H' D ks, Same H H' → H D = none → H' D = some (.dT (iKE nx q ks)) → ks.length ≤ 3600 → (∀ x ∈ ns, x ∈ ks ↔ ∃ n, IsDE nx q x n) → ks.Nodup → (∀ x ∈ ks, x ∈ ns) → Q (.ref D) H'
section
variable {P : Program} {w : World} {K : PySem.W.Frag} {mg : Str → Option Value} {base : Heap} {C : Addr}
abbrev wtNE : List Str := ["graph", "goals", "before", "least", "layer", "coming", "node", "earlier", "goal"]
theorem scWtE : FnScope wtNE ["graph", "goals"] (defScope sWordsTo) := ⟨rfl, rfl, rfl, by decide +kernel, rfl, by decide +kernel, by decide +kernel⟩
theorem ok_wordstoE {f : Addr} {fd : FuncData} (F : Fun K "words_to" "words_to" sWordsTo f fd) (T : Free3 mg) (CB : CBefore P w K mg base) : FnOk P w K mg base CX0 2 f fd ["graph", "goals"] spWordsToE := by
  refine F.ok scWtE (fun vs H Q E h => ?_) (fun cdv A outer s H vs Q E hr h => ?_)
  · obtain ⟨G, L, nx, ns, gl, ys, q, rfl, _⟩ := h; rfl
  · obtain ⟨G, L, nx, ns, gl, ys, q, rfl, hG, nd, l36, l60, cl, hL, hy, gnd, gsub, ghd, k⟩ := h
    have hu := hu_of hr
    refine ⟨_, pss_cons (ps_set (i := 2) scWtE.nd rfl (Or.inl rfl) (pe_cal CB (hr.mono (by decide)) rfl (pa_cons (pv 0) pa_nil)))
      (pss_cons (ps_setDcT (i := 3) (own := [("goal", 8)]) (g := gName 8) (tt := tYes) (tk := tVar 8) (tv := tC (.int 0)) (Nat.lt_of_succ_lt hu) rfl scWtE.nd rfl rfl (sw_trueD rfl rfl (by rfl) (by decide +kernel)) (pi_list (pv 1)) (blkOk_by (N := wtNE) (sc := defScope sWordsTo) (by decide +kernel))
          (fun _ _ _ _ _ => pg_name (i := 8) scWtE.nd rfl (Or.inl rfl)) (fun _ _ _ _ _ => pts_nil) (fun _ _ _ _ _ => pv 8) (fun _ _ _ _ _ => pe_int))
      (pss_cons (ps_set (i := 4) scWtE.nd rfl (Or.inl rfl) (pe_callTy call_list_of (by rfl) T.list (by decide +kernel) (pa_cons (pv 1) pa_nil)))
      (pss_cons (ps_while PassesOwn.never (pt_truth (pv 4) (fun _ => rfl))
        (pss_cons (ps_set (i := 5) scWtE.nd rfl (Or.inl rfl) (pe_lst pa_nil))
        (pss_cons (ps_for PassesOwn.never rfl (pi_list (pv 4)) (pg_name (i := 6) scWtE.nd rfl (Or.inl rfl))
          (pss_one (ps_for PassesOwn.never rfl (pi_list (pe_dget hu (pv 2) (pv 6) (fun _ _ => rfl))) (pg_name (i := 7) scWtE.nd rfl (Or.inl rfl))
            (pss_one (ps_if (pt_cmp (pc_dnotin hu (pv 7) (pv 3)) rfl)
              (pss_cons (ps_dput hu (pv 3) (pv 7) (pe_op op_add (pe_dget hu (pv 3) (pv 6) (fun _ _ => rfl)) pe_int) rfl)
              (pss_one (ps_expr (pe_bm PySem.F.plainAttrs_list PySem.F.slot_list_append PySem.F.type_list_append mt_append (pv 5) (pa_cons (pv 7) pa_nil))))) pss_nil)))))
        (pss_one (ps_set (i := 4) scWtE.nd rfl (Or.inl rfl) (pv 5))))))
      (pss_one (ps_ret (pv 3)))))), ?_⟩
    refine ⟨_, rfl, G, nx, ns, rfl, hG, nd, l36, l60, cl, fun H1 D ls s1 nD hD ll hLs => ?_⟩
    have b00 : LvE nx q ns 0 gl gl := LvE.begin gnd gsub ghd
    have hL1 := s1 _ _ hL
    have hy1 := hy.same s1
    have lyl : ys.length = gl.length := paired_len hy
    refine ⟨_, rfl, L, rfl, ⟨_, SqL.of hL1⟩, fun M hM => ?_⟩
    refine dct_it (walk_list (a := L) (xs := ys.map V.ref)) (fun i H' => H' = L2.upd H1 M (.dT (iKE nx q (gl.take i)))) (by rw [List.take_zero]; rfl) (fun i H' _ e => by rw [e]; exact SqL.of (by rw [upd_ne (ne_of_none hL1 hM)]; exact hL1)) ?_ ?_
    · rintro i x H2 H3 hi rfl ⟨rfl, hx⟩
      obtain ⟨y, hyi, rfl⟩ := D1.get_map hx
      obtain ⟨x0, hx0, hax⟩ := paired_get hy1 hyi
      have hax : H1 y = _ := hax
      refine ⟨rfl, ?_⟩
      dsimp only [tYes]
      rw [if_pos rfl]
      have nn : x0 ∉ gl.take i := by have := not_before (gs := []) (ls := gl) (by simpa using b00.nd) hx0; simpa using this
      have e0 : V.int 0 = .int (farVE nx q x0) := by rw [farV_ofE ((b00.ld x0 (b00.sub _ (List.mem_of_getElem? hx0))).mp (List.mem_of_getElem? hx0))]; rfl
      have lg : gl.length ≤ 3600 := Nat.le_trans (pigeon gl ns gnd gsub) l36
      refine ⟨_, rfl, iKE nx q (gl.take i), kP x0, y, rfl, by rw [upd_ne (ne_of_none hax hM)]; exact hax, upd_same, by rw [iKE, List.length_map, List.length_take, sizeLine_eq]; omega, ?_⟩
      rw [updd2, e0, iK_putE nn, take_succ_get hx0]
    rintro H2 rfl
    rw [List.length_map, lyl, List.take_length]
    have hL2 : (L2.upd H1 M (.dT (iKE nx q gl))) L = some (.lst (ys.map V.ref)) := by rw [upd_ne (ne_of_none hL1 hM)]; exact hL1
    refine ⟨_, rfl, L, _, rfl, .inl (SqL.of hL2), fun L0 hL0 => ?_⟩
    have nML : M ≠ L0 := fun e => by rw [← e, upd_same] at hL0; cases hL0
    have hL0' : H1 L0 = none := upd_none' hL0
    have sS : Same H1 (cut [M, L0] (L2.upd (L2.upd H1 M (.dT (iKE nx q gl))) L0 (.lst (ys.map V.ref)))) := fun b o e => by
      have n1 : b ≠ M := ne_of_none e hM
      have n2 : b ≠ L0 := ne_of_none e hL0'
      rw [cut_out (by simp [n1, n2]), upd_ne n2, upd_ne n1]; exact e
    have hM0 : H M = none := s1.free hM
    refine ⟨fun m σ H' => ∃ (r : Nat) (ks ls0 : List Pr) (zs : List Addr) (Lr : Addr) (v5 v6 v7 : Option V), σ = [some (.ref G), some (.ref L), some (.ref D), some (.ref M), some (.ref Lr), v5, v6, v7, none] ∧ Same H1 (cut [M, Lr] H') ∧ H1 Lr = none ∧ H' M = some (.dT (iKE nx q ks)) ∧ H' Lr = some (.lst (zs.map V.ref)) ∧
        PL (cut [M, Lr] H') zs ls0 ∧ LvE nx q ns r ks ls0 ∧ m = 2 * (3601 - ks.length) + (if ls0 = [] then 0 else 1),
      ⟨_, 0, gl, gl, ys, L0, none, none, none, rfl, sS, hL0', by rw [upd_ne nML, upd_same], upd_same, hy1.same sS, b00, rfl⟩, ?_⟩
    rintro m σ H3 ⟨r, ks0, ls0, zs, Lr, v5, v6, v7, rfl, s3, nL, hM3, hL3, hz3, b0, rfl⟩
    refine ⟨_, rfl, _, .inl ⟨_, SqL.of hL3, rfl⟩, ?_⟩
    have lz : zs.length = ls0.length := paired_len hz3
    have lk0 : ks0.length ≤ 3600 := Nat.le_trans (pigeon ks0 ns b0.nd b0.sub) l36
    by_cases hls : ls0 = []
    · subst hls
      have : zs = [] := List.length_eq_zero_iff.mp lz
      subst this
      exact (if_neg (by decide)).mpr ⟨_, rfl, k H3 M ks0 (Same.trans s1 (Same.trans s3 cut_le)) hM0 hM3 lk0 (b0.done cl) b0.nd b0.sub⟩
    have npos : zs.isEmpty = false := by
      cases zs with
      | nil => exact absurd (List.length_eq_zero_iff.mp lz.symm) hls
      | cons _ _ => rfl
    refine (if_pos (by rw [List.isEmpty_map, npos]; rfl)).mpr ⟨_, fun σ' H' h => h, ?_⟩
    refine ⟨by decide, fun C0 hC0 => ?_⟩
    have nMC : M ≠ C0 := ne_of_none hM3 hC0
    have nLC : Lr ≠ C0 := ne_of_none hL3 hC0
    have nMLr : M ≠ Lr := fun e => by rw [e, hL3] at hM3; cases hM3
    have nC : H1 C0 = none := (Same.trans s3 cut_le).free hC0
    have sC : Same (cut [M, Lr] H3) (cut [M, Lr, C0] (L2.upd H3 C0 (.lst []))) := fun b o e => by
      obtain ⟨nb, e⟩ := cut_some e
      have n : b ≠ C0 := ne_of_none e hC0
      rw [cut_out (fun m => by
        rcases List.mem_cons.mp m with q | m
        · exact nb (by simp [q])
        rcases List.mem_cons.mp m with q | m
        · exact nb (by simp [q])
        · exact n (List.mem_singleton.mp m)), upd_ne n]
      exact e
    have hL4 : (L2.upd H3 C0 (.lst [])) Lr = some (.lst (zs.map V.ref)) := by rw [upd_ne nLC]; exact hL3
    refine ⟨_, rfl, Lr, rfl, ⟨_, SqL.of hL4⟩, ?_⟩
    refine for_list (K := K) (a := Lr) (xs := zs.map V.ref) (fun i σ H' => ∃ (ks cs : List Pr) (us : List Addr) (v6 v7 : Option V), σ = [some (.ref G), some (.ref L), some (.ref D), some (.ref M), some (.ref Lr), some (.ref C0), v6, v7, none] ∧ Same H1 (cut [M, Lr, C0] H') ∧ H' M = some (.dT (iKE nx q ks)) ∧ H' Lr = some (.lst (zs.map V.ref)) ∧ H' C0 = some (.lst (us.map V.ref)) ∧
        PL (cut [M, Lr, C0] H') zs ls0 ∧ PL (cut [M, Lr, C0] H') us cs ∧ LjE nx q ns r ks0 (ls0.take i) [] ks cs)
      ⟨ks0, [], [], v6, v7, rfl, Same.trans s3 sC, by rw [upd_ne nMC]; exact hM3, hL4, upd_same, hz3.same sC, .nil, by rw [List.take_zero]; exact b0.enter⟩
      (fun i σ H' _ ⟨_, _, _, _, _, _, _, _, z, _⟩ => SqL.of z) ?_ ?_
    · rintro i v σ H5 hv ⟨ks, cs, us, v6, v7, rfl, s5, hM5, hL5, hC5, hz5, hu5, b5⟩
      obtain ⟨zx, hzx, rfl⟩ := D1.get_map hv
      obtain ⟨x, hx, hax⟩ := paired_get hz5 hzx
      have xl : x ∈ ls0 := List.mem_of_getElem? hx
      have xm : x ∈ ns := b0.sub x (b0.ls x xl)
      have xd : IsDE nx q x r := (b0.ld x xm).mp xl
      obtain ⟨kk, l, e1, e2, e3⟩ := bK_look ll xm
      obtain ⟨bs, hl1, pb⟩ := hLs kk l x e2 e1
      have hD5 := cut_le _ _ (s5 _ _ hD)
      have hl5 := cut_le _ _ (s5 _ _ hl1)
      refine ⟨_, rfl, _, rfl, D, _, rfl, .inr ⟨bK ns ls, kP x, zx, .inl hD5, rfl, cut_le _ _ hax, e3.symm⟩, l, rfl, ⟨_, SqL.of hl5⟩, ?_⟩
      have lb : bs.length = (befP nx x ns).length := paired_len pb
      refine for_list (K := K) (a := l) (xs := bs.map V.ref) (fun j σ H' => ∃ (ks cs : List Pr) (us : List Addr) (v7 : Option V), σ = [some (.ref G), some (.ref L), some (.ref D), some (.ref M), some (.ref Lr), some (.ref C0), some (.ref zx), v7, none] ∧ Same H1 (cut [M, Lr, C0] H') ∧ H' M = some (.dT (iKE nx q ks)) ∧ H' Lr = some (.lst (zs.map V.ref)) ∧ H' C0 = some (.lst (us.map V.ref)) ∧
          PL (cut [M, Lr, C0] H') zs ls0 ∧ PL (cut [M, Lr, C0] H') us cs ∧ LjE nx q ns r ks0 (ls0.take i) ((befP nx x ns).take j) ks cs)
        ⟨ks, cs, us, v7, rfl, s5, hM5, hL5, hC5, hz5, hu5, by rw [List.take_zero]; exact b5⟩
        (fun j σ H' _ ⟨_, _, _, _, _, z, _⟩ => SqL.of (cut_le _ _ (z _ _ hl1))) ?_ ?_
      · rintro j v σ H7 hv7 ⟨ks, cs, us, v7, rfl, s7, hM7, hL7, hC7, hz7, hu7, b7⟩
        obtain ⟨zu, hzu, rfl⟩ := D1.get_map hv7
        obtain ⟨e, he, hae⟩ := paired_get pb hzu
        obtain ⟨en, et⟩ := mem_befP.mp (List.mem_of_getElem? he)
        have hzuc : PAt (cut [M, Lr, C0] H7) zu e := s7 _ _ (cut_le _ _ hae)
        have hzu7 : PAt H7 zu e := cut_le _ _ hzuc
        obtain ⟨zx2, hzx2, hax7⟩ : ∃ y, ls0[i]? = some y ∧ PAt (cut [M, Lr, C0] H7) zx y := paired_get hz7 hzx
        obtain rfl : x = zx2 := Option.some.inj (hx.symm.trans hzx2)
        have lk : ks.length ≤ 3600 := Nat.le_trans (pigeon ks ns b7.nd b7.sub) l36
        refine ⟨_, rfl, _, rfl, M, _, rfl, DGet.t (k := kP e) hM7 hzu7, _, rfl, ?_⟩
        rw [iK_someE]
        by_cases c : e ∈ ks
        · rw [decide_eq_true c]
          exact iteF ⟨ks, cs, us, _, rfl, s7, hM7, hL7, hC7, hz7, hu7, by rw [take_succ_get he]; exact b7.skip c⟩
        · rw [decide_eq_false c]
          obtain ⟨ed, b9⟩ := b7.find b0 xd en et c
          have gx : DGet H7 M (.ref zx) (some (.int (farVE nx q x))) := by
            rw [← iK_valE (b7.old x (b0.ls x xl))]
            exact DGet.t (k := kP x) hM7 (cut_le _ _ hax7)
          have ev : V.int ((farVE nx q x : Int) + 1) = .int (farVE nx q e) := by rw [farV_ofE xd, farV_ofE ed]; rfl
          have dp : DPut H7 M (.ref zu) (.int ((farVE nx q x : Int) + 1)) (L2.upd H7 M (.dT (iKE nx q (ks ++ [e])))) := by
            rw [ev, ← iK_putE c]
            exact DPut.t (k := kP e) hM7 hzu7 (by rw [iKE, List.length_map, sizeLine_eq]; omega)
          refine iteT ⟨_, rfl, _, rfl, M, _, rfl, gx, _, _, rfl, rfl, _, rfl, _, rfl, M, _, rfl, dp, ?_⟩
          have hC9 : (L2.upd H7 M (.dT (iKE nx q (ks ++ [e])))) C0 = some (.lst (us.map V.ref)) := by rw [upd_ne nMC.symm]; exact hC7
          have lus : us.length = cs.length := paired_len hu7
          have lcs := b7.len
          refine ⟨_, rfl, .inl ⟨rfl, _, SqL.of hC9⟩, _, rfl, C0, _, _, rfl, rfl, hC9, by rw [List.length_map, sizeLine_eq]; omega, ?_⟩
          have cc : cut [M, Lr, C0] (L2.upd (L2.upd H7 M (.dT (iKE nx q (ks ++ [e])))) C0 (.lst (us.map V.ref ++ [.ref zu]))) = cut [M, Lr, C0] H7 := by rw [cut_upd (by simp), cut_upd (by simp)]
          exact ⟨ks ++ [e], cs ++ [e], us ++ [zu], _, rfl, by rw [cc]; exact s7, by rw [upd_ne nMC, upd_same], by rw [upd_ne nLC, upd_ne nMLr.symm]; exact hL7, by rw [upd_same, List.map_append]; rfl, by rw [cc]; exact hz7, by rw [cc]; exact paired_snoc hu7 hzuc, by rw [take_succ_get he]; exact b9⟩
      · rintro σ H7 ⟨ks, cs, us, v7, rfl, s7, hM7, hL7, hC7, hz7, hu7, b7⟩
        rw [List.length_map, lb, List.take_length] at b7
        exact ⟨ks, cs, us, _, _, rfl, s7, hM7, hL7, hC7, hz7, hu7, by rw [take_succ_get hx]; exact b7.turn⟩
    · rintro σ H5 ⟨ks, cs, us, v6, v7, rfl, s5, hM5, hL5, hC5, hz5, hu5, b5⟩
      rw [List.length_map, lz, List.take_length] at b5
      have mo : Same (cut [M, Lr, C0] H5) (cut [M, C0] H5) := cut_mono fun b hb => by
        rcases List.mem_cons.mp hb with e | hb
        · simp [e]
        · simp [List.mem_singleton.mp hb]
      refine ⟨_, rfl, _, ?_, r + 1, ks, cs, us, C0, _, _, _, rfl, Same.trans s5 mo, nC, hM5, hC5, hu5.same mo, b5.leave cl b0, rfl⟩
      have l1 : ks.length ≤ 3600 := Nat.le_trans (pigeon ks ns b5.nd b5.sub) l36
      have l2 := b5.len
      rw [if_neg hls]
      by_cases h : cs = []
      · rw [if_pos h]; rw [h, List.length_nil] at l2; omega
      · rw [if_neg h]
        have : 0 < cs.length := List.length_pos_iff.mpr h
        omega
end
end D1
end L2
/-! word_nearer -/
namespace L2
namespace D1
open PySem PySem.Spec PyProof.Rows D2 X5 X6
noncomputable def nearPE (nx : Pr → List (Str × Pr)) (q : Pr → Prop) (n : Nat) (ts : List (Str × Pr)) : Option (Str × Pr) := ts.find? fun t => decide (farPE nx q t.2 = some n)
def spNearerE : Sp := fun vs H Q _ => ∃ (a M : Addr) (nx : Pr → List (Str × Pr)) (q : Pr → Prop) (ks : List Pr) (n : Nat) (ts : List (Str × Pr)) (t0 : Str × Pr), vs = [.ref a, .ref M, .int n] ∧ PTAt H a ts ∧ (ts.map (·.1)).Nodup ∧ H M = some (.dT (iKE nx q ks)) ∧ (∀ t ∈ ts, t.2 ∈ ks ↔ ∃ m, IsDE nx q t.2 m) ∧ nearPE nx q n ts = some t0 ∧
  ∀ H', Same H H' → Q (.str t0.1) H'
section
variable {P : Program} {w : World} {K : PySem.W.Frag} {mg : Str → Option Value} {base : Heap} {C : Addr}
abbrev neNE : List Str := ["turns", "least", "many", "word"]
theorem scNeE : FnScope neNE ["turns", "least", "many"] (defScope sNearer) := ⟨rfl, rfl, rfl, by decide +kernel, rfl, by decide +kernel, by decide +kernel⟩
theorem ok_nearerE {f : Addr} {fd : FuncData} (F : Fun K "word_nearer" "word_nearer" sNearer f fd) : FnOk P w K mg base CX0 1 f fd ["turns", "least", "many"] spNearerE := by
  refine F.ok scNeE (fun vs H Q E h => ?_) (fun cdv A outer s H vs Q E hr h => ?_)
  · obtain ⟨a, M, nx, q, ks, n, ts, t0, rfl, _⟩ := h; rfl
  · obtain ⟨a, M, nx, q, ks, n, ts, t0, rfl, ⟨kr, ha, pR⟩, nd, hM, hk, ht0, k⟩ := h
    have hu := hu_of hr
    refine ⟨_, pss_cons (ps_lock (ps_for PassesOwn.never rfl (pi_keys (pv 0)) (pg_name (i := 3) scNeE.nd rfl (Or.inl rfl))
        (pss_one (ps_if (pt_cmpR op_eq (pe_dget2 hu (pv 1) (pe_dget hu (pv 0) (pv 3) (fun _ _ => rfl)) (pe_op op_add (pv 2) pe_int) (by constructor <;> rfl)) (pv 2) (by rfl)) (pss_one (ps_ret (pv 3))) pss_nil))))
      (pss_one (ps_ret pe_non)), ?_⟩
    have lk : kr.length = ts.length := pR.len
    refine ⟨a, _, ha, trivial, fun od => ?_⟩
    refine ⟨_, rfl, a, od, rfl, .inl ⟨kr, upd_same, ?_⟩⟩
    have nMa : M ≠ a := fun e => by rw [e, ha] at hM; cases hM
    have hM1 : (L2.upd H a (.frz od (.dK kr))) M = some (.dT (iKE nx q ks)) := by rw [upd_ne nMa]; exact hM
    have bk : Same H (L2.upd (L2.upd H a (.frz od (.dK kr))) a (.dK kr)) := Same.unlock ha (Same.refl _)
    refine for_it (walk_keys (d := a) (o := od) (kvs := kr)) (fun i σ H' => ∃ v3, σ = [some (.ref a), some (.ref M), some (.int n), v3] ∧ H' = L2.upd H a (.frz od (.dK kr)) ∧ ∀ t ∈ ts.take i, decide (farPE nx q t.2 = some n) = false)
      ⟨none, rfl, rfl, fun t ht => by simp at ht⟩ (fun i σ H' _ ⟨_, _, e, _⟩ => by rw [e]; exact upd_same) ?_ ?_
    · rintro i v σ H2 H3 hi ⟨v3, rfl, rfl, hn⟩ ⟨rfl, kk, vv, hkv, rfl⟩
      obtain ⟨t, ht, ek, _⟩ := paired_get pR hkv
      have ek : kk = Sum.inr t.1 := ek
      subst ek
      obtain ⟨z, vz, hz⟩ := pR.get nd ht
      have hz : H z = _ := hz
      have nza : z ≠ a := fun e => by rw [e, ha] at hz; cases hz
      have hz1 : PAt (L2.upd H a (.frz od (.dK kr))) z t.2 := by show _ = _; rw [upd_ne nza]; exact hz
      have dg : DGet (L2.upd H a (.frz od (.dK kr))) M (.ref z) (valV (iKE nx q ks) (kP t.2)) := DGet.t (k := kP t.2) hM1 hz1
      have tm := List.mem_of_getElem? ht
      refine ⟨_, rfl, M, rfl, .inr ⟨_, .inl hM1⟩, _, rfl, _, rfl, a, _, rfl, .inl ⟨kr, .inr t.1, .inr ⟨od, upd_same⟩, rfl, vz.symm⟩, _, rfl, _, _, rfl, rfl, _, dg, _, rfl, ?_⟩
      have go : ∀ j : Int, (valV (iKE nx q ks) (kP t.2)).getD (.int ((n : Int) + 1)) = .int j → (decide (j = n) = decide (farPE nx q t.2 = some n)) →
          (scal ((valV (iKE nx q ks) (kP t.2)).getD (.int ((n : Int) + 1))) (.int n) = true ∧ (decide ((valV (iKE nx q ks) (kP t.2)).getD (.int ((n : Int) + 1)) = V.int n) = decide (farPE nx q t.2 = some n))) := fun j ej dj => by
        rw [ej]
        exact ⟨rfl, by rw [← dj]; exact decide_eq_decide.mpr ⟨fun e => V.int.inj e, fun e => by rw [e]⟩⟩
      obtain ⟨g1, g2⟩ : scal ((valV (iKE nx q ks) (kP t.2)).getD (.int ((n : Int) + 1))) (.int n) = true ∧ (decide ((valV (iKE nx q ks) (kP t.2)).getD (.int ((n : Int) + 1)) = V.int n) = decide (farPE nx q t.2 = some n)) := by
        by_cases c : t.2 ∈ ks
        · obtain ⟨m, d⟩ := (hk t tm).mp c
          refine go m (by rw [iK_valE c, farV_ofE d]; rfl) (decide_eq_decide.mpr ?_)
          rw [farP_someE.mpr d]
          exact ⟨fun e => by rw [show m = n by omega], fun e => by rw [Option.some.inj e]⟩
        · refine go (n + 1) (by rw [valT_none c (iK_keysE nx q ks)]; rfl) (decide_eq_decide.mpr ⟨fun e => by omega, fun e => absurd ((hk t tm).mpr ⟨n, farP_someE.mp e⟩) c⟩)
      refine ⟨g1, _, rfl, ?_⟩
      by_cases c : farPE nx q t.2 = some n
      · rw [g2, decide_eq_true c]
        refine iteT ⟨_, rfl, upd_same, ?_⟩
        have : nearPE nx q n ts = some t := find_at ht hn (decide_eq_true c)
        rw [this] at ht0
        rw [show kV (Sum.inr t.1) = V.str t0.1 by rw [← Option.some.inj ht0]; rfl]
        exact k _ bk
      · rw [g2, decide_eq_false c]
        refine iteF ⟨_, rfl, rfl, fun y hy => ?_⟩
        rw [take_succ_get ht] at hy
        rcases List.mem_append.mp hy with z | z
        · exact hn y z
        · rw [List.mem_singleton.mp z]; exact decide_eq_false c
    · rintro σ H2 ⟨v3, rfl, rfl, hn⟩
      rw [lk, List.take_length] at hn
      have h1 := List.find?_some ht0
      rw [hn t0 (List.mem_of_find?_eq_some ht0)] at h1
      cases h1
end
end D1
end L2
/-! shortest_way -/
namespace L2
namespace D1
open PySem PySem.Spec PyProof.Rows D2 X5 X6
noncomputable def wayPE (nx : Pr → List (Str × Pr)) (q : Pr → Prop) : Nat → Pr → List Str
  | 0, _ => []
  | n + 1, x => match nearPE nx q n (nx x) with
    | none => []
    | some t => t.1 :: wayPE nx q n t.2
noncomputable def talkPE (nx : Pr → List (Str × Pr)) (p : Pr) (q : Pr → Prop) : Option (List Str) := (farPE nx q p).map fun n => wayPE nx q n p
theorem near_ofE {nx : Pr → List (Str × Pr)} {q : Pr → Prop} {x : Pr} {n : Nat} (d : IsDE nx q x (n + 1)) : ∃ t, nearPE nx q n (nx x) = some t ∧ t ∈ nx x ∧ IsDE nx q t.2 n := by
  obtain ⟨t, ht, dt⟩ := d.step
  cases e : nearPE nx q n (nx x) with
  | none =>
    have := List.find?_eq_none.mp e t ht
    exact absurd (decide_eq_true (farP_someE.mpr dt)) this
  | some u =>
    have h1 := List.find?_some e
    exact ⟨u, rfl, List.mem_of_find?_eq_some e, farP_someE.mp (of_decide_eq_true h1)⟩
theorem wayP_succE {nx : Pr → List (Str × Pr)} {q : Pr → Prop} {x : Pr} {n : Nat} {t : Str × Pr} (e : nearPE nx q n (nx x) = some t) : wayPE nx q (n + 1) x = t.1 :: wayPE nx q n t.2 := by
  rw [wayPE, e]
theorem wayP_lenE {nx : Pr → List (Str × Pr)} {q : Pr → Prop} : ∀ {n : Nat} {x : Pr}, IsDE nx q x n → (wayPE nx q n x).length = n
  | 0, _, _ => rfl
  | n + 1, x, d => by
    obtain ⟨t, e, _, dt⟩ := near_ofE d
    rw [wayP_succE e, List.length_cons, wayP_lenE dt]
theorem far_listE {nx : Pr → List (Str × Pr)} {q : Pr → Prop} {ns : List Pr} (cl : ∀ x ∈ ns, ∀ t ∈ nx x, t.2 ∈ ns) : ∀ (n : Nat) {x : Pr}, x ∈ ns → IsDE nx q x n → ∃ l : List Pr, l.length = n + 1 ∧ l.Nodup ∧ ∀ y ∈ l, y ∈ ns ∧ ∃ m, m ≤ n ∧ IsDE nx q y m
  | 0, x, hx, d => ⟨[x], rfl, List.nodup_cons.mpr ⟨by simp, List.nodup_nil⟩, fun y hy => by rw [List.mem_singleton.mp hy]; exact ⟨hx, 0, Nat.le_refl _, d⟩⟩
  | n + 1, x, hx, d => by
    obtain ⟨t, ht, dt⟩ := d.step
    obtain ⟨l, e, nd, h⟩ := far_listE cl n (cl x hx t ht) dt
    refine ⟨x :: l, by rw [List.length_cons, e], List.nodup_cons.mpr ⟨fun m => ?_, nd⟩, fun y hy => ?_⟩
    · obtain ⟨_, k, hk, dk⟩ := h x m
      have := d.uniq dk
      omega
    · rcases List.mem_cons.mp hy with z | z
      · rw [z]; exact ⟨hx, n + 1, Nat.le_refl _, d⟩
      · obtain ⟨a, k, hk, dk⟩ := h y z
        exact ⟨a, k, by omega, dk⟩
theorem far_leE {nx : Pr → List (Str × Pr)} {q : Pr → Prop} {ns : List Pr} (cl : ∀ x ∈ ns, ∀ t ∈ nx x, t.2 ∈ ns) {n : Nat} {x : Pr} (hx : x ∈ ns) (d : IsDE nx q x n) : n + 1 ≤ ns.length := by
  obtain ⟨l, e, nd, h⟩ := far_listE cl n hx d
  rw [← e]; exact pigeon l ns nd fun y hy => (h y hy).1
def spShortestE : Sp := fun vs H Q _ => ∃ (G L z : Addr) (nx : Pr → List (Str × Pr)) (ns gl : List Pr) (ys : List Addr) (p : Pr) (q : Pr → Prop), vs = [.ref G, .ref z, .ref L] ∧ QrAt H G nx ns ∧ GOk nx ns ∧ PAt H z p ∧ p ∈ ns ∧
  H L = some (.lst (ys.map V.ref)) ∧ PL H ys gl ∧ gl.Nodup ∧ (∀ x ∈ gl, x ∈ ns) ∧ (∀ x ∈ ns, x ∈ gl ↔ q x) ∧
  ∀ H' v, Same H H' → OptL H H' v (talkPE nx p q) → Q v H'
section
variable {P : Program} {w : World} {K : PySem.W.Frag} {mg : Str → Option Value} {base : Heap} {C : Addr}
abbrev CWordsToE (P : Program) (w : World) (K : PySem.W.Frag) (mg : Str → Option Value) (base : Heap) := Cal P w K mg base "words_to" 2 ["graph", "goals"] spWordsToE
abbrev CNearerE (P : Program) (w : World) (K : PySem.W.Frag) (mg : Str → Option Value) (base : Heap) := Cal P w K mg base "word_nearer" 1 ["turns", "least", "many"] spNearerE
abbrev shNE : List Str := ["graph", "start", "goals", "least", "way", "node", "many", "word"]
theorem scSwE : FnScope shNE ["graph", "start", "goals"] (defScope sShortest) := ⟨rfl, rfl, rfl, by decide +kernel, rfl, by decide +kernel, by decide +kernel⟩
theorem ok_shortestE {f : Addr} {fd : FuncData} (F : Fun K "shortest_way" "shortest_way" sShortest f fd) (hm : mg "reversed" = none) (hrg : mg "range" = none) (CW : CWordsToE P w K mg base) (CN : CNearerE P w K mg base) : FnOk P w K mg base CX0 3 f fd ["graph", "start", "goals"] spShortestE := by
  refine F.ok scSwE (fun vs H Q E h => ?_) (fun cdv A outer s H vs Q E hr h => ?_)
  · obtain ⟨G, L, z, nx, ns, gl, ys, p, q, rfl, _⟩ := h; rfl
  · obtain ⟨G, L, z, nx, ns, gl, ys, p, q, rfl, hG, gk, hz, hp, hL, hy, gnd, gsub, ghd, k⟩ := h
    have hu := hu_of hr
    refine ⟨_, pss_cons (ps_set (i := 3) scSwE.nd rfl (Or.inl rfl) (pe_cal CW (hr.mono (by decide)) rfl (pa_cons (pv 0) (pa_cons (pv 2) pa_nil))))
      (pss_cons (ps_if (pt_cmp (pc_dnotin hu (pv 1) (pv 3)) rfl) (pss_one (ps_ret pe_non)) pss_nil)
      (pss_cons (ps_set (i := 4) scSwE.nd rfl (Or.inl rfl) (pe_lst pa_nil))
      (pss_cons (ps_set (i := 5) scSwE.nd rfl (Or.inl rfl) (pv 1))
      (pss_cons (ps_for PassesOwn.never rfl (pi_revR rfl hm (prg_1 rfl hrg (pe_dget hu (pv 3) (pv 1) (fun _ _ => rfl)))) (pg_name (i := 6) scSwE.nd rfl (Or.inl rfl))
        (pss_cons (ps_set (i := 7) scSwE.nd rfl (Or.inl rfl) (pe_cal CN (hr.mono (by decide)) rfl (pa_cons (pe_dget hu (pv 0) (pv 5) (fun _ _ => rfl)) (pa_cons (pv 3) (pa_cons (pv 6) pa_nil)))))
        (pss_cons (ps_expr (pe_bm PySem.F.plainAttrs_list PySem.F.slot_list_append PySem.F.type_list_append mt_append (pv 4) (pa_cons (pv 7) pa_nil)))
        (pss_one (ps_set (i := 5) scSwE.nd rfl (Or.inl rfl) (pe_dget hu (pe_dget hu (pv 0) (pv 5) (fun _ _ => rfl)) (pv 7) (fun _ _ => rfl)))))))
      (pss_one (ps_ret (pv 4))))))), ?_⟩
    refine ⟨_, rfl, _, rfl, G, L, nx, ns, gl, ys, q, rfl, hG, gk.nd, gk.len, gk.l60, gk.cl, hL, hy, gnd, gsub, ghd, fun H1 M ks s1 nM hM lk hks _ _ => ?_⟩
    obtain ⟨kvs, hG1, hR1⟩ := hG.same s1
    have hz1 : PAt H1 z p := s1 _ _ hz
    refine ⟨_, rfl, _, rfl, M, _, rfl, DGet.t (k := kP p) hM hz1, _, rfl, ?_⟩
    rw [iK_someE]
    by_cases c : p ∈ ks
    · obtain ⟨n, d⟩ := (hks p hp).mp c
      rw [decide_eq_true c]
      have vM : valV (iKE nx q ks) (kP p) = some (.int n) := by rw [iK_valE c, farV_ofE d]
      refine iteF ⟨by decide, fun W hW => ?_⟩
      have nW : H W = none := s1.free hW
      have sc0 : Same H1 (cut [W] (L2.upd H1 W (.lst []))) := fun b o e => by
        have n1 : b ≠ W := ne_of_none e hW
        rw [cut_out (by simp [n1]), upd_ne n1]; exact e
      have dg : DGet (L2.upd H1 W (.lst [])) M (.ref z) (some (.int n)) := by
        rw [← vM]
        exact DGet.t (k := kP p) (cut_le _ _ (sc0 _ _ hM)) (cut_le _ _ (sc0 _ _ hz1))
      have ln : n ≤ 3600 := by have := far_leE gk.cl hp d; have := gk.len; omega
      refine ⟨_, rfl, _, rfl, _, rfl, M, _, rfl, dg, n, rfl, by decide, by decide, by omega, by omega, ?_⟩
      have en : ((n : Int) - 0).toNat = n := by omega
      rw [en]
      refine for_it walk_rangeC (fun i σ H' => ∃ (x : Pr) (zx : Addr) (way : List Str) (v6 v7 : Option V), σ = [some (.ref G), some (.ref z), some (.ref L), some (.ref M), some (.ref W), some (.ref zx), v6, v7] ∧ Same H1 (cut [W] H') ∧ SL H' W way ∧ PAt (cut [W] H') zx x ∧ x ∈ ns ∧ IsDE nx q x (n - i) ∧ way ++ wayPE nx q (n - i) x = wayPE nx q n p)
        ⟨p, z, [], none, none, rfl, sc0, upd_same, sc0 _ _ hz1, hp, d, rfl⟩ (fun _ _ _ _ _ => trivial) ?_ ?_
      · rintro i v σ H3 H4 hi ⟨x, zx, way, v6, v7, rfl, s3, hW3, hzx, hx, dx, ew⟩ ⟨rfl, rfl⟩
        obtain ⟨m, em⟩ : ∃ m, n - i = m + 1 := ⟨n - i - 1, by omega⟩
        have em' : n - (i + 1) = m := by omega
        have ev : (0 + ((n : Nat) : Int) - 1 + (i : Nat) * (-1)) = (m : Int) := by omega
        rw [em] at dx ew
        obtain ⟨t0, ht0, tm, dt⟩ := near_ofE dx
        obtain ⟨a, va, ha⟩ := hR1.look hx
        have hG3 := cut_le _ _ (s3 _ _ hG1)
        have hM3 := cut_le _ _ (s3 _ _ hM)
        have ha3c := ha.same s3
        have hzx3 := cut_le _ _ hzx
        have dga : DGet H4 G (.ref zx) (some (.ref a)) := by rw [← va]; exact DGet.t (k := kP x) hG3 hzx3
        refine ⟨_, rfl, _, rfl, G, _, rfl, dga, _, rfl, _, rfl, a, M, nx, q, ks, m, nx x, t0, by show [V.ref a, V.ref M, V.int (0 + ((n : Nat) : Int) - 1 + (i : Nat) * (-1))] ++ [] = _; rw [ev]; rfl, ha3c.same cut_le, gk.wn x hx, hM3, fun t ht => hks t.2 (gk.cl x hx t ht), ht0, fun H5 s5 => ?_⟩
        have s35 : Same (cut [W] H4) (cut [W] H5) := cut_same s5
        have hW5 : SL H5 W way := hW3.same s5
        have lw : way.length ≤ 3600 := by
          have := congrArg List.length ew
          rw [List.length_append, wayP_lenE d] at this
          omega
        refine ⟨_, rfl, .inl ⟨rfl, _, hW5.sq⟩, _, rfl, W, _, _, rfl, rfl, hW5, by rw [List.length_map, sizeLine_eq]; omega, ?_⟩
        have cc : cut [W] (L2.upd H5 W (.lst (way.map V.str ++ [.str t0.1]))) = cut [W] H5 := cut_upd (by simp)
        have s6 : Same (cut [W] H5) (cut [W] (L2.upd H5 W (.lst (way.map V.str ++ [.str t0.1])))) := by rw [cc]; exact Same.refl _
        have hW6 : SL (L2.upd H5 W (.lst (way.map V.str ++ [.str t0.1]))) W (way ++ [t0.1]) := by rw [SL, upd_same, List.map_append]; rfl
        generalize (L2.upd H5 W (.lst (way.map V.str ++ [.str t0.1]))) = H6 at s6 hW6
        have s36 := Same.trans s35 s6
        have s16 := Same.trans s3 s36
        obtain ⟨kr, ea, pR⟩ := id (ha.same s16)
        obtain ⟨j, hj⟩ := List.getElem?_of_mem tm
        obtain ⟨u, vu, hu'⟩ := pR.get (gk.wn x hx) hj
        have dgx : DGet H6 G (.ref zx) (some (.ref a)) := by rw [← va]; exact DGet.t (k := kP x) (cut_le _ _ (s16 _ _ hG1)) (cut_le _ _ (s36 _ _ hzx))
        have dgu : DGet H6 a (.str t0.1) (some (.ref u)) := by rw [← vu]; exact DGet.k (k := .inr t0.1) (cut_le _ _ ea)
        refine ⟨_, rfl, _, rfl, G, _, rfl, dgx, _, rfl, a, _, rfl, dgu, ?_⟩
        refine ⟨t0.2, u, way ++ [t0.1], _, _, rfl, s16, hW6, hu', gk.cl x hx t0 tm, by rw [em']; exact dt, ?_⟩
        rw [em', ← ew, wayP_succE ht0, List.append_assoc]; rfl
      · rintro σ H3 ⟨x, zx, way, v6, v7, rfl, s3, hW3, hzx, hx, dx, ew⟩
        rw [Nat.sub_self] at ew
        refine ⟨_, rfl, k H3 (.ref W) (Same.trans s1 (Same.trans s3 cut_le)) ?_⟩
        rw [talkPE, farP_someE.mpr d]
        refine ⟨W, rfl, nW, ?_⟩
        show SL H3 W (wayPE nx q n p)
        rw [← ew, wayPE, List.append_nil]; exact hW3
    · rw [decide_eq_false c]
      refine iteT (k H1 .non s1 ?_)
      have : farPE nx q p = none := by
        cases e : farPE nx q p with
        | none => rfl
        | some n => exact absurd ((hks p hp).mpr ⟨n, farP_someE.mp e⟩) c
      rw [talkPE, this]; rfl
end
end D1
end L2
/-! unfit_talk, is_unfit_talk -/
namespace L2
namespace D1
open PySem PySem.Spec PyProof.Rows D2 X5 X6
abbrev sUnfit : Stmt := top 34
abbrev sIsUnfit : Stmt := top 35
/-- what does not fit -/
def noB (bk cl : Bk) (x : Pr) : Bool := !fitP bk cl x
def NoP (bk cl : Bk) (x : Pr) : Prop := noB bk cl x = true
/-- whether a talk leads to what does not fit -/
def unfB (bk cl : Bk) (p : Pr) (way : List Str) : Bool := match afterP bk cl p way with
  | none => false
  | some q => noB bk cl q
theorem bks_lock {H : Hp} {B G : Addr} {bk cl : Bk} {kvs : List (List Key × V)} {o : HO} (e : H G = some (.dT kvs)) (h : BksAt H B bk cl) : BksAt (L2.upd H G o) B bk cl := by
  have out : ∀ {c : Addr} {u : HO}, H c = some u → (∀ ks, u ≠ .dT ks) → L2.upd H G o c = some u := fun {c u} ec n => by
    rw [upd_ne (fun q => by rw [q, e] at ec; exact n _ (Option.some.inj ec).symm)]; exact ec
  have row : ∀ {kvs : List (Key × V)} {b : Bk}, Rows H kvs b → Rows (L2.upd H G o) kvs b := fun {kvs b} r =>
    paired_imp (fun kv x ⟨e1, t, a, ev, ht, ha⟩ => ⟨e1, t, a, ev, out ht (fun _ q => by cases q), out ha (fun _ q => by cases q)⟩) r
  obtain ⟨b1, b2, e0, ⟨k1, h1, r1⟩, k2, h2, r2⟩ := h
  exact ⟨b1, b2, out e0 (fun _ q => by cases q), ⟨k1, out h1 (fun _ q => by cases q), row r1⟩, k2, out h2 (fun _ q => by cases q), row r2⟩
theorem no_ns {bk cl : Bk} {ns : List Pr} (nd : ns.Nodup) : (ns.filter (noB bk cl)).Nodup ∧ (∀ x ∈ ns.filter (noB bk cl), x ∈ ns) ∧ ∀ x ∈ ns, x ∈ ns.filter (noB bk cl) ↔ NoP bk cl x :=
  ⟨nd.sublist List.filter_sublist, fun x hx => (List.mem_filter.mp hx).1, fun x hx => by rw [List.mem_filter]; exact ⟨fun h => h.2, fun h => ⟨hx, h⟩⟩⟩
theorem gok_all {bk cl : Bk} (bb : BB bk cl) {p : Pr} (hp : InP bk cl p) {ns : List Pr} (r : RnAll (nextP bk cl) p ns) : GOk (nextP bk cl) ns ∧ (∀ x ∈ ns, InP bk cl x) ∧ p ∈ ns := by
  have inn : ∀ x ∈ ns, InP bk cl x := fun x hx => ((r.2 x).mp hx).inP bb hp
  exact ⟨⟨r.1, pigeonP bb r.1 inn, fun x hx => nextP_len bb (inn x hx), fun x hx t ht => (r.2 _).mpr (.next ((r.2 x).mp hx) ht), fun x hx => nextP_nd bb (inn x hx)⟩, inn, (r.2 p).mpr .here⟩
def spUnfit (C : Addr) : Sp := fun vs H Q _ => ∃ (q1 q2 : Addr) (bk cl : Bk) (st st' : Str), vs = [.ref q1, .ref q2] ∧ Two C H q1 q2 bk cl st st' ∧ DOk bk st ∧ DOk cl st' ∧
  ∀ H' v, Same H H' → OptL H H' v (talkPE (nextP (ordB bk) (ordB cl)) (st, st') (NoP (ordB bk) (ordB cl))) → Q v H'
def spIsUnfit (C : Addr) : Sp := fun vs H Q _ => ∃ (q1 q2 L : Addr) (bk cl : Bk) (st st' : Str) (way : List Str), vs = [.ref q1, .ref q2, .ref L] ∧ Two C H q1 q2 bk cl st st' ∧ DOk bk st ∧ DOk cl st' ∧ SL H L way ∧ way.length ≤ 1000 ∧ (∀ x ∈ way, Wd x) ∧
  ∀ H', Same H H' → Q (.bl (unfB (ordB bk) (ordB cl) (st, st') way)) H'
def tNoF : TT := fun σ H Q => ∃ (B z : Addr) (bk cl : Bk) (p : Pr), σ[2]? = some (some (.ref B)) ∧ σ[4]? = some (some (.ref z)) ∧ BksAt H B bk cl ∧ PAt H z p ∧ InP bk cl p ∧ BB bk cl ∧ ∀ H', Same H H' → Q (noB bk cl p) H'
section
variable {P : Program} {w : World} {K : PySem.W.Frag} {mg : Str → Option Value} {base : Heap} {C : Addr}
abbrev CFit (P : Program) (w : World) (K : PySem.W.Frag) (mg : Str → Option Value) (base : Heap) := Cal P w K mg base "is_fitting" 1 ["books", "pair"] spFit
abbrev CGraphS (P : Program) (w : World) (K : PySem.W.Frag) (mg : Str → Option Value) (base : Heap) (C : Addr) := Cal P w K mg base "graph_of_steps" 5 ["elder", "newer"] (spGraphS C)
abbrev CShortE (P : Program) (w : World) (K : PySem.W.Frag) (mg : Str → Option Value) (base : Heap) := Cal P w K mg base "shortest_way" 3 ["graph", "start", "goals"] spShortestE
abbrev CNodeB (P : Program) (w : World) (K : PySem.W.Frag) (mg : Str → Option Value) (base : Heap) := Cal P w K mg base "node_behind" 1 ["graph", "start", "way"] spNodeB
abbrev ufN : List Str := ["elder", "newer", "books", "graph", "pair"]
theorem scUf : FnScope ufN ["elder", "newer"] (defScope sUnfit) := ⟨rfl, rfl, rfl, by decide +kernel, rfl, by decide +kernel, by decide +kernel⟩
theorem ok_unfit {f : Addr} {fd : FuncData} (F : Fun K "unfit_talk" "unfit_talk" sUnfit f fd) (CG : CGraphS P w K mg base C) (CF : CFirst P w K mg base C) (CI : CFit P w K mg base) (CS : CShortE P w K mg base) : FnOk P w K mg base CX0 6 f fd ["elder", "newer"] (spUnfit C) := by
  refine F.ok scUf (fun vs H Q E h => ?_) (fun cdv A outer s H vs Q E0' hr h => ?_)
  · obtain ⟨q1, q2, bk, cl, st, st', rfl, _⟩ := h; rfl
  · obtain ⟨q1, q2, bk, cl, st, st', rfl, h12, o1, o2, k⟩ := h
    refine ⟨_, pss_cons (ps_asg (pe_cal CG (hr.mono (by decide)) rfl (pa_cons (pv 0) (pa_cons (pv 1) pa_nil))) (pg_tup rfl (pgs_cons (pg_name (i := 2) scUf.nd rfl (Or.inr rfl)) (pgs_cons (pg_name (i := 3) scUf.nd rfl (Or.inl rfl)) pgs_nil))))
      (pss_one (ps_ret (pe_cal CS (hr.mono (by decide)) rfl (pa_cons (pv 3) (pa_cons (pe_cal CF (hr.mono (by decide)) rfl (pa_cons (pv 0) (pa_cons (pv 1) pa_nil))) (pa_cons (pe_lock (pe_lc (own := [("pair", 4)]) (g := gName 4) (tt := tNoF) (te := tVar 4) rfl scUf.nd (pi_keys (pv 3))
      (blkOk_by (N := ufN) (sc := defScope sUnfit) (by decide +kernel)) (fun _ _ _ _ _ => pg_name (i := 4) scUf.nd rfl (Or.inl rfl))
      (fun _ _ _ _ _ => pts_one (pt_imp (t' := tNoF) (pt_not (pt_val (pe_cal CI (hr.mono (by decide)) rfl (pa_cons (pv 2) (pa_cons (pv 4) pa_nil))))) (by
        rintro σ H Q ⟨B, z, bk, cl, p, e0, e2, hB, hz, hp, bb, k⟩
        exact ⟨_, e0, _, e2, B, z, bk, cl, p, rfl, hB, hz, hp, bb, fun H' s => ⟨_, rfl, k H' s⟩⟩))) (fun _ _ _ _ _ => pv 4))) pa_nil)))))), ?_⟩
    have bb := (o1.ord).bb o2.ord
    have ipo : InP (ordB bk) (ordB cl) (st, st') := inP_ord.mpr ⟨o1.st, o2.st⟩
    refine ⟨_, rfl, _, rfl, q1, q2, bk, cl, st, st', rfl, h12, o1, o2, fun H1 R B G ns s1 hR hB hG ra => ?_⟩
    refine ⟨R, _, rfl, SqT.of hR, rfl, _, _, rfl, _, _, rfl, rfl, ?_⟩
    refine ⟨_, rfl, _, rfl, _, rfl, q1, q2, bk, cl, st, st', rfl, h12.same s1, fun H2 z s2 nz hz => ?_⟩
    obtain ⟨gk, inn, pm⟩ := gok_all bb ipo ra
    have hB2 := hB.same s2
    have hG2 := hG.same s2
    obtain ⟨kvs, hG, hQ⟩ := id hG2
    have l36 : ns.length ≤ 3600 := gk.len
    have lk : kvs.length = ns.length := hQ.len
    refine ⟨G, _, hG, trivial, fun od => ⟨_, rfl, G, od, rfl, .inr ⟨kvs, upd_same, fun M hM => ?_⟩⟩⟩
    have nM : M ≠ G := fun e => by rw [e, upd_same] at hM; cases hM
    have hBL := bks_lock (o := .frz od (.dT kvs)) hG hB2
    refine lc_it (walk_keysT (d := G) (o := od) (kvs := kvs)) (fun j H' => Same (L2.upd H2 G (.frz od (.dT kvs))) H' ∧ ∃ zs : List Addr, H' M = some (.lst (zs.map V.ref)) ∧ PL (cut [M] H') zs ((ns.take j).filter (noB (ordB bk) (ordB cl)))) ⟨Same.new hM, [], upd_same, .nil⟩ (fun j H' _ z => z.1 _ _ upd_same) ?_ ?_
    · rintro j xv H3 H4 hj ⟨sm, zs, hM3, hz3⟩ ⟨rfl, k0, v0, q, hkv, rfl, hq⟩
      obtain ⟨x, hx, ek, _⟩ := paired_get hQ hkv
      have ek : k0 = kP x := ek
      subst ek
      have hq : H4 q = some (.tup [.str x.1, .str x.2]) := hq
      have jl : j < ns.length := (List.getElem?_eq_some_iff.mp hx).1
      have nq : q ≠ M := fun e => by rw [e, hM3] at hq; cases hq
      have lz : zs.length ≤ 3600 := by
        rw [paired_len hz3]
        have := List.length_filter_le (noB (ordB bk) (ordB cl)) (ns.take j)
        rw [List.length_take] at this
        omega
      refine ⟨rfl, B, q, ordB bk, ordB cl, x, rfl, rfl, hBL.same sm, hq, inn x (List.mem_of_getElem? hx), bb, fun H5 s5 => ?_⟩
      cases c : noB (ordB bk) (ordB cl) x with
      | true =>
        refine iteT ⟨_, rfl, _, s5 _ _ hM3, by rw [List.length_map, sizeLine_eq]; omega, fun c' u e => ?_, zs ++ [q], by rw [upd_same, List.map_append]; rfl, ?_⟩
        · rw [upd_ne (ne_of_none e hM)]; exact s5 _ _ (sm _ _ e)
        · rw [cut_upd (by simp), filt_yes hx c]
          exact paired_snoc (hz3.same (cut_same s5)) (by rw [PAt, cut_out (by simpa using nq)]; exact s5 _ _ hq)
      | false =>
        refine iteF ⟨Same.trans sm s5, zs, s5 _ _ hM3, ?_⟩
        rw [filt_no hx c]; exact hz3.same (cut_same s5)
    · rintro H3 ⟨sm, zs, hM3, hz3⟩
      rw [lk, List.take_length] at hz3
      have fG := sm _ _ upd_same
      have su := Same.unlock hG sm
      have nM0 : H2 M = none := by rw [upd_ne nM] at hM; exact hM
      refine ⟨fG, ?_⟩
      have hM4 : (L2.upd H3 G (.dT kvs)) M = some (.lst (zs.map V.ref)) := by rw [upd_ne nM]; exact hM3
      have hz4 := (pl_unlock (u := .dT kvs) fG hz3).same cut_le
      generalize L2.upd H3 G (.dT kvs) = H4 at su hM4 hz4
      obtain ⟨e1, e2, e3⟩ := no_ns (bk := ordB bk) (cl := ordB cl) gk.nd
      have s12 := Same.trans s1 s2
      refine ⟨G, M, z, _, ns, _, zs, (st, st'), NoP (ordB bk) (ordB cl), rfl, hG2.same su, gk, su _ _ hz, pm, hM4, hz4, e1, e2, e3, fun H5 v s5 hv => k H5 v (Same.trans s12 (Same.trans su s5)) ?_⟩
      cases ht : talkPE (nextP (ordB bk) (ordB cl)) (st, st') (NoP (ordB bk) (ordB cl)) with
      | none => rw [ht] at hv; exact hv
      | some way =>
        rw [ht] at hv
        obtain ⟨W, e, nW, hW⟩ := hv
        exact ⟨W, e, (Same.trans s12 su).free nW, hW⟩
abbrev iuN : List Str := ["elder", "newer", "value", "books", "graph", "behind"]
theorem scIu : FnScope iuN ["elder", "newer", "value"] (defScope sIsUnfit) := ⟨rfl, rfl, rfl, by decide +kernel, rfl, by decide +kernel, by decide +kernel⟩
theorem ok_isunfit {f : Addr} {fd : FuncData} (F : Fun K "is_unfit_talk" "is_unfit_talk" sIsUnfit f fd) (CG : CGraphS P w K mg base C) (CF : CFirst P w K mg base C) (CI : CFit P w K mg base) (CT : CIsTalk P w K mg base) (CB : CNodeB P w K mg base) : FnOk P w K mg base CX0 6 f fd ["elder", "newer", "value"] (spIsUnfit C) := by
  refine F.ok scIu (fun vs H Q E h => ?_) (fun cdv A outer s H vs Q E0' hr h => ?_)
  · obtain ⟨q1, q2, L, bk, cl, st, st', way, rfl, _⟩ := h; rfl
  · obtain ⟨q1, q2, L, bk, cl, st, st', way, rfl, h12, o1, o2, hL, lw, hw, k⟩ := h
    refine ⟨_, pss_cons (ps_asg (pe_cal CG (hr.mono (by decide)) rfl (pa_cons (pv 0) (pa_cons (pv 1) pa_nil))) (pg_tup rfl (pgs_cons (pg_name (i := 3) scIu.nd rfl (Or.inl rfl)) (pgs_cons (pg_name (i := 4) scIu.nd rfl (Or.inl rfl)) pgs_nil))))
      (pss_cons (ps_if (pt_not (pt_val (pe_cal CT (hr.mono (by decide)) rfl (pa_cons (pv 2) pa_nil)))) (pss_one (ps_ret pe_bl)) pss_nil)
      (pss_cons (ps_set (i := 5) scIu.nd rfl (Or.inl rfl) (pe_cal CB (hr.mono (by decide)) rfl (pa_cons (pv 4) (pa_cons (pe_cal CF (hr.mono (by decide)) rfl (pa_cons (pv 0) (pa_cons (pv 1) pa_nil))) (pa_cons (pv 2) pa_nil)))))
      (pss_one (ps_ret (pe_and (pe_cmp (pc_notN (pv 5)) rfl) (pe_one (pe_not (pe_cal CI (hr.mono (by decide)) rfl (pa_cons (pv 3) (pa_cons (pv 5) pa_nil)))))))))), ?_⟩
    have bb := (o1.ord).bb o2.ord
    have ipo : InP (ordB bk) (ordB cl) (st, st') := inP_ord.mpr ⟨o1.st, o2.st⟩
    refine ⟨_, rfl, _, rfl, q1, q2, bk, cl, st, st', rfl, h12, o1, o2, fun H1 R B G ns s1 hR hB hG ra => ?_⟩
    refine ⟨R, _, rfl, SqT.of hR, rfl, _, _, rfl, _, _, rfl, rfl, ?_⟩
    refine ⟨_, rfl, L, way, rfl, hL.same s1, lw, hw, fun H2 s2 => ⟨_, rfl, iteF ?_⟩⟩
    have s12 := Same.trans s1 s2
    refine ⟨_, rfl, _, rfl, _, rfl, q1, q2, bk, cl, st, st', rfl, h12.same s12, fun H3 z s3 nz hz => ?_⟩
    have s13 := Same.trans s12 s3
    refine ⟨_, rfl, G, z, L, _, _, ns, (st, st'), way, rfl, hG.same (Same.trans s2 s3), ra, hz, hL.same s13, fun v hv => ?_⟩
    have kk := fun H' s => k H' s
    unfold unfB at kk
    cases ha : afterP (ordB bk) (ordB cl) (st, st') way with
    | none =>
      rw [ha] at hv kk
      have hv : v = .non := hv
      subst hv
      exact ⟨_, rfl, _, rfl, iteF (kk H3 s13)⟩
    | some y =>
      rw [ha] at hv kk
      obtain ⟨zy, rfl, hy⟩ := hv
      have iy : InP (ordB bk) (ordB cl) y := (after_rn .here ha).inP bb ipo
      exact ⟨_, rfl, _, rfl, iteT ⟨_, rfl, _, rfl, B, zy, _, _, y, rfl, hB.same (Same.trans s2 s3), hy, iy, bb, fun H4 s4 => ⟨_, rfl, kk H4 (Same.trans s13 s4)⟩⟩⟩
end
end D1
end L2
/-! is_names -/
namespace L2
namespace D1
open PySem PySem.Spec PyProof.Rows D2 X5 X6
abbrev sIsNames : Stmt := top 4
section
variable {P : Program} {w : World} {K : PySem.W.Frag} {mg : Str → Option Value} {base : Heap}
theorem scIns : FnScope ["value", "word"] ["value"] (defScope sIsNames) := ⟨rfl, rfl, rfl, by decide +kernel, rfl, by decide +kernel, by decide +kernel⟩
theorem ok_isnames {f : Addr} {fd : FuncData} (F : Fun K "is_names" "is_names" sIsNames f fd) (T : Free3 mg) (CN : CIsName P w K mg base) : FnOk P w K mg base CX0 2 f fd ["value"] spIsNames := by
  refine F.ok scIns (fun vs H Q E h => ?_) (fun cdv A outer s H vs Q E hr h => ?_)
  · obtain ⟨L, ss, rfl, _⟩ := h; rfl
  · obtain ⟨L, ss, rfl, hL, ll, aw, k⟩ := h
    refine ⟨_, pss_one (ps_ret (pe_and (pe_callB call_isi (by rfl) T.isi (by decide +kernel) (pa_cons (pv 0) (pa_cons (pe_bltn (v := .ty "list") rfl T.list (by decide +kernel) rfl) pa_nil))) (pe_one (pe_callB (cr_all rfl) (by rfl) T.all (by decide +kernel) (pa_cons (pe_lc (own := [("word", 1)]) (g := gName 1) (tt := tYes) rfl scIns.nd (pi_list (pv 0))
        (blkOk_by (N := ["value", "word"]) (sc := defScope sIsNames) (by decide +kernel)) (fun _ _ _ _ _ => pg_name (i := 1) scIns.nd rfl (Or.inl rfl)) (fun _ _ _ _ _ => pts_nil)
        (fun _ _ _ _ _ => pe_cal CN (hr.mono (by decide)) rfl (pa_cons (pv 1) pa_nil))) pa_nil))))), ?_⟩
    refine ⟨_, rfl, _, .ty "list", .type "list", .type "list", true, rfl, .ty _, .base (.lst hL), kit_ty (by decide +kernel), _, rfl, ?_⟩
    refine iteT ⟨_, rfl, L, rfl, ⟨_, hL.sq⟩, fun D hD => ?_⟩
    have nLD : L ≠ D := ne_of_none hL hD
    refine lc_list (K := K) (a := L) (xs := ss.map V.str) (fun i H' => Same H H' ∧ H' D = some (.lst ((List.replicate i true).map V.bl))) ⟨Same.new hD, upd_same⟩ (fun i H' _ z => (hL.same z.1).sq) ?_ ?_
    · rintro i v H1 hv ⟨sm, hl⟩
      obtain ⟨z, hz, rfl⟩ := D1.get_map hv
      refine ⟨rfl, ?_⟩
      dsimp only [tYes]
      rw [if_pos rfl]
      refine ⟨_, rfl, z, rfl, aw z (List.mem_of_getElem? hz), fun H2 s2 => ?_⟩
      have li : i < ss.length := (List.getElem?_eq_some_iff.mp hz).1
      refine ⟨_, s2 _ _ hl, by rw [List.length_map, List.length_replicate, sizeLine_eq]; omega, ?_, ?_⟩
      · intro b u e
        rw [upd_ne (ne_of_none e hD)]; exact s2 _ _ (sm _ _ e)
      · rw [upd_same, repl_snoc]
    · rintro H1 ⟨sm, hl⟩
      refine ⟨D, _, rfl, SqL.of hl, ?_⟩
      rw [all_true]
      exact k H1 sm
end
end D1
end L2
/-! what is no talk -/
namespace L2
namespace D1
open PySem PySem.Spec PyProof.Rows D2 X5 X6
structure OddC (K : PySem.W.Frag) (C : Addr) : Prop where
  ins : C8.InsC K C
  nl : PySem.W.kitOne K (.ref C) (.type "list") = some false
  ns : PySem.W.kitOne K (.ref C) (.type "str") = some false
def BadS (x : Str) : Prop := x.length = 0 ∨ (1 ≤ x.length ∧ x.length ≤ 8 ∧ (x.cps.toList.all fun c => decide (c ∈ abc.cps.toList)) = false)
def OddN (K : PySem.W.Frag) (H : Hp) (v : V) : Prop := (∃ t : Value, TyX K H v t ∧ PySem.W.kitOne K t (.type "str") = some false) ∨ ∃ x : Str, v = .str x ∧ BadS x
/-- what is no list of words -/
def OddV (K : PySem.W.Frag) (H : Hp) (v : V) : Prop := (∃ t : Value, TyX K H v t ∧ PySem.W.kitOne K t (.type "list") = some false) ∨ ∃ a x, v = .ref a ∧ H a = some (.lst [x]) ∧ OddN K H x
theorem tyx_same {K : PySem.W.Frag} {H H' : Hp} {v : V} {t : Value} (h : TyX K H v t) (s : Same H H') : TyX K H' v t := by
  cases h with
  | base h =>
    cases h with
    | non => exact .base .non
    | bl x => exact .base (.bl x)
    | int x => exact .base (.int x)
    | str x => exact .base (.str x)
    | flt x => exact .base (.flt x)
    | lst e => exact .base (.lst (s _ _ e))
    | frz e => exact .base (.frz (s _ _ e))
    | tup e => exact .base (.tup (s _ _ e))
    | dK e => exact .base (.dK (s _ _ e))
    | dT e => exact .base (.dT (s _ _ e))
    | ins e cl ha hn htk hm => exact .base (.ins (s _ _ e) cl ha hn htk hm)
  | byt b => exact .byt b
  | set e => exact .set (s _ _ e)
  | kList e c => exact .kList e c
  | kTuple e c => exact .kTuple e c
  | kDict e c => exact .kDict e c
  | fTuple e => exact .fTuple (s _ _ e)
  | fDict e => exact .fDict (s _ _ e)
theorem OddN.same {K : PySem.W.Frag} {H H' : Hp} {v : V} (h : OddN K H v) (s : Same H H') : OddN K H' v := h.imp (fun ⟨t, a, b⟩ => ⟨t, tyx_same a s, b⟩) id
theorem OddV.same {K : PySem.W.Frag} {H H' : Hp} {v : V} (h : OddV K H v) (s : Same H H') : OddV K H' v := h.imp (fun ⟨t, a, b⟩ => ⟨t, tyx_same a s, b⟩) fun ⟨a, x, e, h, o⟩ => ⟨a, x, e, s _ _ h, o.same s⟩
def spNameO (K : PySem.W.Frag) : Sp := fun vs H Q _ => ∃ v, vs = [v] ∧ OddN K H v ∧ ∀ H', Same H H' → Q (.bl false) H'
def spNamesO (K : PySem.W.Frag) : Sp := fun vs H Q _ => ∃ v, vs = [v] ∧ OddV K H v ∧ ∀ H', Same H H' → Q (.bl false) H'
def spIsUnfitO (C : Addr) (K : PySem.W.Frag) : Sp := fun vs H Q _ => ∃ (q1 q2 : Addr) (v : V) (bk cl : Bk) (st st' : Str), vs = [.ref q1, .ref q2, v] ∧ Two C H q1 q2 bk cl st st' ∧ DOk bk st ∧ DOk cl st' ∧ OddV K H v ∧ ∀ H', Same H H' → Q (.bl false) H'
section
variable {P : Program} {w : World} {K : PySem.W.Frag} {mg : Str → Option Value} {base : Heap} {C : Addr}
abbrev CNameO (P : Program) (w : World) (K : PySem.W.Frag) (mg : Str → Option Value) (base : Heap) := Cal P w K mg base "is_name" 1 ["value"] (spNameO K)
abbrev CNamesO (P : Program) (w : World) (K : PySem.W.Frag) (mg : Str → Option Value) (base : Heap) := Cal P w K mg base "is_names" 2 ["value"] (spNamesO K)
abbrev CTalkO (P : Program) (w : World) (K : PySem.W.Frag) (mg : Str → Option Value) (base : Heap) := Cal P w K mg base "is_talk" 3 ["value"] (spNamesO K)
theorem ok_nameO {f : Addr} {fd : FuncData} (F : Fun K "is_name" "is_name" sIsName f fd) (T : Free3 mg) : FnOk P w K mg base CX0 1 f fd ["value"] (spNameO K) := by
  obtain ⟨tL, eL⟩ := T.lets
  obtain ⟨tM, eM⟩ := T.most
  refine F.ok scIn (fun vs H Q E h => ?_) (fun cdv A outer s H vs Q E hr h => ?_)
  · obtain ⟨v, rfl, _⟩ := h; rfl
  · obtain ⟨v, rfl, hv, k⟩ := h
    refine ⟨_, pss_cons (ps_if (PW.pt (pw_or (pt_not (pt_val (pe_callB call_isi (by rfl) T.isi (by decide +kernel) (pa_cons (pv 0) (pa_cons (pe_bltn (v := .ty "str") rfl T.str (by decide +kernel) rfl) pa_nil))))) (pw_or1 (pt_not (pt_chain op_le op_le pe_int (pe_callB call_len_str (by rfl) T.len PySem.boot_len (pa_cons (pv 0) pa_nil)) (pe_glob (v := .int 8) rfl eM ⟨_, rfl⟩)))))) (pss_one (ps_ret pe_bl)) pss_nil)
      (pss_one (ps_ret (pe_callB (cr_all rfl) (by rfl) T.all (by decide +kernel) (pa_cons (pe_lc (own := [("letter", 1)]) (g := gName 1) (tt := tYes) rfl scIn.nd (pi_str (pv 0))
        (blkOk_by (N := ["value", "letter"]) (sc := defScope sIsName) (by decide +kernel)) (fun _ _ _ _ _ => pg_name (i := 1) scIn.nd rfl (Or.inl rfl)) (fun _ _ _ _ _ => pts_nil)
        (fun _ _ _ _ _ => pe_cmpR op_in_sign (pv 1) (pe_glob (v := .str abc) rfl eL ⟨_, rfl⟩) rfl)) pa_nil)))), ?_⟩
    rcases hv with ⟨t, ty, ks⟩ | ⟨x, rfl, bx⟩
    · exact ⟨_, rfl, _, .ty "str", t, .type "str", false, rfl, .ty _, ty, ks, _, rfl, iteT (k H (Same.refl _))⟩
    · refine ⟨_, rfl, _, .ty "str", .type "str", .type "str", true, rfl, .ty _, .base (.str _), kit_ty (by decide +kernel), _, rfl, iteF ?_⟩
      rcases bx with bx | ⟨l1, l2, bx⟩
      · refine ⟨_, rfl, x, rfl, by rw [sizeLine_eq]; omega, _, _, rfl, rfl, _, rfl, ?_⟩
        rw [decide_eq_false (show ¬ (1 : Int) ≤ x.length by omega)]
        exact iteF ⟨_, rfl, iteT (k H (Same.refl _))⟩
      · refine ⟨_, rfl, x, rfl, by rw [sizeLine_eq]; omega, _, _, rfl, rfl, _, rfl, ?_⟩
        rw [decide_eq_true (show (1 : Int) ≤ x.length by omega)]
        refine iteT ⟨_, _, rfl, rfl, _, rfl, ?_⟩
        rw [decide_eq_true (show (x.length : Int) ≤ 8 by omega)]
        refine iteF ⟨_, rfl, x, rfl, fun D hD => ?_⟩
        refine lc_it (walk_str (z := x)) (fun i H' => Same H H' ∧ H' D = some (.lst (((x.cps.toList.take i).map fun c => decide (c ∈ abc.cps.toList)).map V.bl))) ⟨Same.new hD, upd_same⟩ (fun _ _ _ _ => trivial) ?_ ?_
        · rintro i v H1 H2 hi ⟨sm, hl⟩ ⟨rfl, c, hc, rfl⟩
          refine ⟨rfl, ?_⟩
          dsimp only [tYes]
          rw [if_pos rfl]
          rw [← Array.getElem?_toList] at hc
          have hl0 : x.cps.toList.length = x.length := rfl
          refine ⟨_, rfl, c, abc, rfl, rfl, _, hl, by rw [List.length_map, List.length_map, List.length_take, sizeLine_eq]; omega, ?_, ?_⟩
          · intro b u e
            rw [upd_ne (ne_of_none e hD)]; exact sm _ _ e
          · rw [upd_same, take_succ_get hc, List.map_append, List.map_append]; rfl
        · rintro H1 ⟨sm, hl⟩
          refine ⟨D, _, rfl, SqL.of hl, ?_⟩
          rw [all_map, show x.cps.toList.take x.cps.size = x.cps.toList from List.take_of_length_le (by rw [Array.length_toList]; exact Nat.le_refl _), bx]
          exact k H1 sm
theorem ok_namesO {f : Addr} {fd : FuncData} (F : Fun K "is_names" "is_names" sIsNames f fd) (T : Free3 mg) (CN : CNameO P w K mg base) : FnOk P w K mg base CX0 2 f fd ["value"] (spNamesO K) := by
  refine F.ok scIns (fun vs H Q E h => ?_) (fun cdv A outer s H vs Q E hr h => ?_)
  · obtain ⟨v, rfl, _⟩ := h; rfl
  · obtain ⟨v, rfl, hv, k⟩ := h
    refine ⟨_, pss_one (ps_ret (pe_and (pe_callB call_isi (by rfl) T.isi (by decide +kernel) (pa_cons (pv 0) (pa_cons (pe_bltn (v := .ty "list") rfl T.list (by decide +kernel) rfl) pa_nil))) (pe_one (pe_callB (cr_all rfl) (by rfl) T.all (by decide +kernel) (pa_cons (pe_lc (own := [("word", 1)]) (g := gName 1) (tt := tYes) (te := tCall (spNameO K) [] E0 (tCons (tVar 1) tNil)) rfl scIns.nd (pi_list (pv 0))
        (blkOk_by (N := ["value", "word"]) (sc := defScope sIsNames) (by decide +kernel)) (fun _ _ _ _ _ => pg_name (i := 1) scIns.nd rfl (Or.inl rfl)) (fun _ _ _ _ _ => pts_nil)
        (fun _ _ _ _ _ => pe_cal CN (hr.mono (by decide)) rfl (pa_cons (pv 1) pa_nil))) pa_nil))))), ?_⟩
    rcases hv with ⟨t, ty, kb⟩ | ⟨a, x, rfl, ha, ox⟩
    · exact ⟨_, rfl, _, .ty "list", t, .type "list", false, rfl, .ty _, ty, kb, _, rfl, iteF (k H (Same.refl _))⟩
    · refine ⟨_, rfl, _, .ty "list", .type "list", .type "list", true, rfl, .ty _, .base (.lst ha), kit_ty (by decide +kernel), _, rfl, ?_⟩
      refine iteT ⟨_, rfl, a, rfl, ⟨_, SqL.of ha⟩, fun D hD => ?_⟩
      refine lc_list (K := K) (a := a) (xs := [x]) (fun i H' => Same H H' ∧ ∃ bs : List Bool, bs.length = i ∧ (i = 1 → bs = [false]) ∧ H' D = some (.lst (bs.map V.bl))) ⟨Same.new hD, [], rfl, (fun e => by cases e), upd_same⟩ (fun i H' _ z => SqL.of (z.1 _ _ ha)) ?_ ?_
      · rintro i v H1 hv ⟨sm, bs, lb, _, hl⟩
        have hi : i = 0 := by
          have := (List.getElem?_eq_some_iff.mp hv).1
          have : i < 1 := this
          omega
        subst hi
        obtain rfl : v = x := (Option.some.inj hv).symm
        obtain rfl : bs = [] := List.length_eq_zero_iff.mp lb
        refine ⟨rfl, ?_⟩
        dsimp only [tYes]
        rw [if_pos rfl]
        refine ⟨_, rfl, _, rfl, ox.same sm, fun H2 s2 => ⟨_, s2 _ _ hl, by show 0 < sizeLine; decide, fun c u e => ?_, [false], rfl, fun _ => rfl, by rw [upd_same]; rfl⟩⟩
        rw [upd_ne (ne_of_none e hD)]; exact s2 _ _ (sm _ _ e)
      · rintro H1 ⟨sm, bs, lb, e1, hl⟩
        obtain rfl := e1 rfl
        exact ⟨D, _, rfl, SqL.of hl, k H1 sm⟩
theorem ok_talkO {f : Addr} {fd : FuncData} (F : Fun K "is_talk" "is_talk" sIsTalk f fd) (CN : CNamesO P w K mg base) : FnOk P w K mg base CX0 3 f fd ["value"] (spNamesO K) := by
  refine F.ok scIk (fun vs H Q E h => ?_) (fun cdv A outer s H vs Q E hr h => ?_)
  · obtain ⟨v, rfl, _⟩ := h; rfl
  · obtain ⟨v, rfl, hv, k⟩ := h
    exact ⟨_, pss_one (ps_ret (pe_cal CN (hr.mono (by decide)) rfl (pa_cons (pv 0) pa_nil))), _, rfl, v, rfl, hv, k⟩
theorem ok_isunfitO {f : Addr} {fd : FuncData} (F : Fun K "is_unfit_talk" "is_unfit_talk" sIsUnfit f fd) (CG : CGraphS P w K mg base C) (CF : CFirst P w K mg base C) (CI : CFit P w K mg base) (CT : CTalkO P w K mg base) (CB : CNodeB P w K mg base) : FnOk P w K mg base CX0 6 f fd ["elder", "newer", "value"] (spIsUnfitO C K) := by
  refine F.ok scIu (fun vs H Q E h => ?_) (fun cdv A outer s H vs Q E0' hr h => ?_)
  · obtain ⟨q1, q2, v, bk, cl, st, st', rfl, _⟩ := h; rfl
  · obtain ⟨q1, q2, v, bk, cl, st, st', rfl, h12, o1, o2, hv, k⟩ := h
    refine ⟨_, pss_cons (ps_asg (pe_cal CG (hr.mono (by decide)) rfl (pa_cons (pv 0) (pa_cons (pv 1) pa_nil))) (pg_tup rfl (pgs_cons (pg_name (i := 3) scIu.nd rfl (Or.inl rfl)) (pgs_cons (pg_name (i := 4) scIu.nd rfl (Or.inl rfl)) pgs_nil))))
      (pss_cons (ps_if (pt_not (pt_val (pe_cal CT (hr.mono (by decide)) rfl (pa_cons (pv 2) pa_nil)))) (pss_one (ps_ret pe_bl)) pss_nil)
      (pss_cons (ps_set (i := 5) scIu.nd rfl (Or.inl rfl) (pe_cal CB (hr.mono (by decide)) rfl (pa_cons (pv 4) (pa_cons (pe_cal CF (hr.mono (by decide)) rfl (pa_cons (pv 0) (pa_cons (pv 1) pa_nil))) (pa_cons (pv 2) pa_nil)))))
      (pss_one (ps_ret (pe_and (pe_cmp (pc_notN (pv 5)) rfl) (pe_one (pe_not (pe_cal CI (hr.mono (by decide)) rfl (pa_cons (pv 3) (pa_cons (pv 5) pa_nil)))))))))), ?_⟩
    refine ⟨_, rfl, _, rfl, q1, q2, bk, cl, st, st', rfl, h12, o1, o2, fun H1 R B G ns s1 hR hB hG ra => ?_⟩
    refine ⟨R, _, rfl, SqT.of hR, rfl, _, _, rfl, _, _, rfl, rfl, ?_⟩
    exact ⟨_, rfl, v, rfl, hv.same s1, fun H2 s2 => ⟨_, rfl, iteT (k H2 (Same.trans s1 s2))⟩⟩
end
end D1
end L2
/-! the law's _law_name -/
namespace L2
namespace D1
open PySem PySem.Spec PyProof.Rows D2 X5 X6
abbrev sName : Stmt := top 57
def let26 (i : Nat) : Str := ⟨#[97 + i]⟩
/-- the n-th name -/
def nameP (n : Nat) : Str := let26 (n / 26 % 26) ++ let26 (n % 26)
theorem abc_let : ∀ i : Fin 26, atI (Str.ofString "abcdefghijklmnopqrstuvwxyz").cps.toList ((i.val : Nat) : Int) = some (97 + i.val) := by decide +kernel
theorem abc_letN {i : Nat} (h : i < 26) : atI (Str.ofString "abcdefghijklmnopqrstuvwxyz").cps.toList (i : Int) = some (97 + i) := abc_let ⟨i, h⟩
def spName : Sp := fun vs H Q _ => ∃ n : Nat, vs = [.int n] ∧ n < 676 ∧ Q (.str (nameP n)) H
section
variable {P : Program} {w : World} {K : PySem.W.Frag} {mg : Str → Option Value} {base : Heap} {C : Addr}
theorem scNa : FnScope ["_law_number"] ["_law_number"] (defScope sName) := ⟨rfl, rfl, rfl, by decide +kernel, rfl, by decide +kernel, by decide +kernel⟩
theorem ok_name {f : Addr} {fd : FuncData} (F : Fun K "_law_name" "_law_name" sName f fd) : FnOk P w K mg base CX0 1 f fd ["_law_number"] spName := by
  refine F.ok scNa (fun vs H Q E h => ?_) (fun cdv A outer s H vs Q E hr h => ?_)
  · obtain ⟨n, rfl, _⟩ := h; rfl
  · obtain ⟨n, rfl, hn, k⟩ := h
    refine ⟨_, pss_one (ps_ret (pe_op op_add_str (pe_ix ix_str pe_str (pe_op op_mod (pe_op op_fdiv (pv 0) pe_int) pe_int) (fun _ _ => rfl)) (pe_ix ix_str pe_str (pe_op op_mod (pv 0) pe_int) (fun _ _ => rfl)))), ?_⟩
    have e1 : ((n : Int) / 26 % 26) = ((n / 26 % 26 : Nat) : Int) := by omega
    have e2 : ((n : Int) % 26) = ((n % 26 : Nat) : Int) := by omega
    refine ⟨_, rfl, _, _, rfl, rfl, ⟨by decide, by decide⟩, _, _, rfl, rfl, (by show (0 : Int) < 26; decide), _, _, 97 + n / 26 % 26, rfl, rfl, by decide +kernel, ?_, _, rfl, _, _, rfl, rfl, (by show (0 : Int) < 26; decide), _, _, 97 + n % 26, rfl, rfl, by decide +kernel, ?_, _, _, rfl, rfl, ?_, k⟩
    · rw [e1]; exact abc_letN (Nat.mod_lt _ (by decide))
    · rw [e2]; exact abc_letN (Nat.mod_lt _ (by decide))
    · show 1 + 1 ≤ sizeLine
      decide
end
end D1
end L2
/-! the law's kinds and next pairs: data -/
namespace L2
namespace D1
open PySem PySem.Spec PyProof.Rows D2 X5 X6
structure Free4 (mg : Str → Option Value) : Prop extends Free3 mg where
  any : mg "any" = none
def bothW (bk cl : Bk) (p : Pr) (ws : List Str) : List (Str × Pr) := ws.map fun w => (w, (goalT (rowOf bk p.1).2 w, goalT (rowOf cl p.2).2 w))
theorem map_ordT {β : Type} (f : Str × Str → β) (ts : List (Str × Str)) : (ordT ts).map f = (srt (ts.map (·.1))).map fun k => f (k, goalT ts k) := by rw [ordT, List.map_map]; rfl
theorem key_ordT {ts : List (Str × Str)} {x : Str} : x ∈ (ordT ts).map (·.1) ↔ x ∈ ts.map (·.1) := by rw [ordT_keys]; exact (srt_perm _).mem_iff
theorem all_ord {ts us : List (Str × Str)} : (((ordT ts).all fun t => decide (t.1 ∈ (ordT us).map (·.1))) = true) ↔ ∀ t ∈ ts, t.1 ∈ us.map (·.1) := by
  rw [List.all_eq_true]
  constructor
  · intro h t ht
    have : t.1 ∈ (ordT ts).map (·.1) := key_ordT.mpr (List.mem_map_of_mem ht)
    obtain ⟨u, hu, e⟩ := List.mem_map.mp this
    rw [← e]; exact key_ordT.mp (of_decide_eq_true (h u hu))
  · intro h t ht
    have : t.1 ∈ ts.map (·.1) := key_ordT.mp (List.mem_map_of_mem ht)
    obtain ⟨u, hu, e⟩ := List.mem_map.mp this
    exact decide_eq_true (key_ordT.mpr (by rw [← e]; exact h u hu))
section
variable {bk cl : Bk} {st st' : Str} {p : Pr}
/-- the words of the steps of a pair, as the law has them -/
def stepW (bk cl : Bk) (p : Pr) : List Str := (srt ((rowOf bk p.1).2.map (·.1))).filter fun w => decide (w ∈ (rowOf cl p.2).2.map (·.1)) && decide ((rowOf bk p.1).1 = (rowOf cl p.2).1)
theorem nextP_ord (o1 : DOk bk st) (o2 : DOk cl st') (hp : InP bk cl p) : nextP (ordB bk) (ordB cl) p = bothW bk cl p (stepW bk cl p) := by
  unfold nextP stepW
  rw [rowOf_ord o1.nd hp.1, rowOf_ord o2.nd hp.2]
  dsimp only
  by_cases c : (rowOf bk p.1).1 = (rowOf cl p.2).1
  · rw [if_pos c]
    have e1 : (ordT (rowOf bk p.1).2).filter (fun t => decide (t.1 ∈ (ordT (rowOf cl p.2).2).map (·.1))) = ((srt ((rowOf bk p.1).2.map (·.1))).filter (fun w => decide (w ∈ (rowOf cl p.2).2.map (·.1)) && decide ((rowOf bk p.1).1 = (rowOf cl p.2).1))).map fun k => (k, goalT (rowOf bk p.1).2 k) := by
      rw [show ordT (rowOf bk p.1).2 = (srt ((rowOf bk p.1).2.map (·.1))).map (fun k => (k, goalT (rowOf bk p.1).2 k)) from rfl, List.filter_map]
      congr 1
      refine List.filter_congr fun w _ => ?_
      show decide (w ∈ (ordT (rowOf cl p.2).2).map (·.1)) = _
      rw [decide_eq_true c, Bool.and_true]
      exact decide_eq_decide.mpr key_ordT
    rw [e1, List.map_map]
    refine List.map_congr_left fun w hw => ?_
    obtain ⟨hw, hd⟩ := List.mem_filter.mp hw
    rw [decide_eq_true c, Bool.and_true] at hd
    have m := (srt_perm _).mem_iff.mp hw
    show (w, (goalT (ordT (rowOf bk p.1).2) w, goalT (ordT (rowOf cl p.2).2) w)) = _
    rw [goalT_ordT m, goalT_ordT (of_decide_eq_true hd)]
  · rw [if_neg c]
    have : (srt ((rowOf bk p.1).2.map (·.1))).filter (fun w => decide (w ∈ (rowOf cl p.2).2.map (·.1)) && decide ((rowOf bk p.1).1 = (rowOf cl p.2).1)) = [] := by
      rw [decide_eq_false c]
      exact List.filter_eq_nil_iff.mpr fun w _ => by simp
    rw [this]; rfl
theorem fitP_ord (o1 : DOk bk st) (o2 : DOk cl st') (hp : InP bk cl p) : fitP (ordB bk) (ordB cl) p = fitP bk cl p := by
  unfold fitP
  rw [rowOf_ord o1.nd hp.1, rowOf_ord o2.nd hp.2]
  dsimp only
  congr 1
  have h : ∀ {ts us : List (Str × Str)}, ((ordT ts).all fun t => decide (t.1 ∈ (ordT us).map (·.1))) = ts.all fun t => decide (t.1 ∈ us.map (·.1)) := fun {ts us} => by
    rw [Bool.eq_iff_iff, all_ord, List.all_eq_true]
    exact ⟨fun h t ht => decide_eq_true (h t ht), fun h t ht => of_decide_eq_true (h t ht)⟩
  rw [h, h]
theorem kinds_of (ok : DOk bk st) {s : Str} (h : s ∈ bk.map (·.1)) : (rowOf bk s).1 = "says" ∨ (rowOf bk s).1 = "hears" ∨ (rowOf bk s).1 = "done" := flip_kind (ok.rs _ (row_mem h)).2.1
theorem some_turn (ok : DOk bk st) {s : Str} (h : s ∈ bk.map (·.1)) (n : (rowOf bk s).1 ≠ "done") : (rowOf bk s).2 ≠ [] := by
  rcases (ok.rs _ (row_mem h)).2.1 with ⟨a, _⟩ | ⟨_, b, _⟩
  · exact absurd a n
  · exact b
theorem srt_ne {l : List Str} (h : l ≠ []) : srt l ≠ [] := fun e => h (by have := (srt_perm l).length_eq; rw [e] at this; exact List.length_eq_zero_iff.mp this.symm)
end
theorem two_kinds {x y a b : Str} (hx : x = "says" ∨ x = "hears" ∨ x = "done") (hy : y = "says" ∨ y = "hears" ∨ y = "done") (hab : a = "says" ∧ b = "hears" ∨ a = "hears" ∧ b = "says") : SeqAt.shaped (dW [x, y]) = true ∧ SeqAt.shaped (dW [a, b]) = true ∧ PyData.eqv (dW [x, y]) (dW [a, b]) = decide (x = a ∧ y = b) := by
  rcases hx with rfl | rfl | rfl <;> rcases hy with rfl | rfl | rfl <;> rcases hab with ⟨rfl, rfl⟩ | ⟨rfl, rfl⟩ <;> exact ⟨by decide +kernel, by decide +kernel, by decide +kernel⟩
end D1
end L2
/-! the law's _law_fits -/
namespace L2
namespace D1
open PySem PySem.Spec PyProof.Rows D2 X5 X6
abbrev sLFits : Stmt := top 65
def spLFits : Sp := fun vs H Q _ => ∃ (W1 W2 z : Addr) (bk cl : Bk) (st st' : Str) (p : Pr), vs = [.ref W1, .ref W2, .ref z] ∧ WorldAt H W1 bk st ∧ WorldAt H W2 cl st' ∧ DOk bk st ∧ DOk cl st' ∧ PAt H z p ∧ InP bk cl p ∧ ∀ H', Same H H' → Q (.bl (fitP bk cl p)) H'
theorem done_none {bk : Bk} {st : Str} (ok : DOk bk st) {s : Str} (h : s ∈ bk.map (·.1)) (n1 : (rowOf bk s).1 ≠ "says") (n2 : (rowOf bk s).1 ≠ "hears") : (rowOf bk s).2 = [] := by
  rcases (ok.rs _ (row_mem h)).2.1 with ⟨_, e⟩ | ⟨a | a, _⟩
  · exact e
  · exact absurd a n1
  · exact absurd a n2
section
variable {P : Program} {w : World} {K : PySem.W.Frag} {mg : Str → Option Value} {base : Heap}
abbrev ftN : List Str := ["_law_elder", "_law_newer_here", "_law_pair", "_law_first", "_law_second", "_law_word_here"]
theorem scLf : FnScope ftN ["_law_elder", "_law_newer_here", "_law_pair"] (defScope sLFits) := ⟨rfl, rfl, rfl, by decide +kernel, rfl, by decide +kernel, by decide +kernel⟩
theorem ok_lfits {f : Addr} {fd : FuncData} (F : Fun K "_law_fits" "_law_fits" sLFits f fd) (T : Free3 mg) : FnOk P w K mg base CX0 1 f fd ["_law_elder", "_law_newer_here", "_law_pair"] spLFits := by
  refine F.ok scLf (fun vs H Q E h => ?_) (fun cdv A outer s H vs Q E0' hr h => ?_)
  · obtain ⟨W1, W2, z, bk, cl, st, st', p, rfl, _⟩ := h; rfl
  · obtain ⟨W1, W2, z, bk, cl, st, st', p, rfl, ⟨b1, hW1, kvs1, hb1, hR1⟩, ⟨b2, hW2, kvs2, hb2, hR2⟩, o1, o2, hz, ⟨hp1, hp2⟩, k⟩ := h
    have hu := hu_of hr
    refine ⟨_, pss_cons (ps_asg (pe_tup (pa_cons (pe_dget hu (pe_ix ix_list (pv 0) pe_int (fun _ _ => rfl)) (pe_ix ix_tup (pv 2) pe_int (fun _ _ => rfl)) (fun _ _ => rfl)) (pa_cons (pe_dget hu (pe_ix ix_list (pv 1) pe_int (fun _ _ => rfl)) (pe_ix ix_tup (pv 2) pe_int (fun _ _ => rfl)) (fun _ _ => rfl)) pa_nil))) (pg_tup rfl (pgs_cons (pg_name (i := 3) scLf.nd rfl (Or.inr rfl)) (pgs_cons (pg_name (i := 4) scLf.nd rfl (Or.inr rfl)) pgs_nil))))
      (pss_cons (ps_if (pt_cmpR op_ne (pe_ix ix_tup (pv 3) pe_int (fun _ _ => rfl)) (pe_ix ix_tup (pv 4) pe_int (fun _ _ => rfl)) rfl) (pss_one (ps_ret pe_bl)) pss_nil)
      (pss_cons (ps_if (pt_cmpR op_eq (pe_ix ix_tup (pv 3) pe_int (fun _ _ => rfl)) pe_str rfl) (pss_one (ps_ret (pe_callB (cr_all rfl) (by rfl) T.all (by decide +kernel) (pa_cons (pe_lock (pe_lc (own := [("_law_word_here", 5)]) (g := gName 5) (tt := tYes) (te := tDIn (tVar 5) (tOp (rIxT K) (tVar 3) (tC (.int 1)))) rfl scLf.nd (pi_keys (pe_ix ix_tup (pv 4) pe_int (fun _ _ => rfl)))
            (blkOk_by (N := ftN) (sc := defScope sLFits) (by decide +kernel)) (fun _ _ _ _ _ => pg_name (i := 5) scLf.nd rfl (Or.inl rfl)) (fun _ _ _ _ _ => pts_nil) (fun _ _ _ _ _ => pe_cmp (pc_din hu (pv 5) (pe_ix ix_tup (pv 3) pe_int (fun _ _ => rfl))) rfl))) pa_nil)))) pss_nil)
      (pss_one (ps_ret (pe_callB (cr_all rfl) (by rfl) T.all (by decide +kernel) (pa_cons (pe_lock (pe_lc (own := [("_law_word_here", 5)]) (g := gName 5) (tt := tYes) (te := tDIn (tVar 5) (tOp (rIxT K) (tVar 4) (tC (.int 1)))) rfl scLf.nd (pi_keys (pe_ix ix_tup (pv 3) pe_int (fun _ _ => rfl)))
            (blkOk_by (N := ftN) (sc := defScope sLFits) (by decide +kernel)) (fun _ _ _ _ _ => pg_name (i := 5) scLf.nd rfl (Or.inl rfl)) (fun _ _ _ _ _ => pts_nil) (fun _ _ _ _ _ => pe_cmp (pc_din hu (pv 5) (pe_ix ix_tup (pv 4) pe_int (fun _ _ => rfl))) rfl))) pa_nil)))))), ?_⟩
    obtain ⟨v1, ev1, ⟨t1, a1, rfl, ht1, h1⟩, m1⟩ := hR1.look hp1
    obtain ⟨v2, ev2, ⟨t2, a2, rfl, ht2, h2⟩, m2⟩ := hR2.look hp2
    have l1 : (rowOf bk p.1).2.length ≤ 60 := o1.len2 _ m1
    have l2 : (rowOf cl p.2).2.length ≤ 60 := o2.len2 _ m2
    refine ⟨_, rfl, W1, _, _, _, rfl, rfl, SqL.of hW1, atI_nat (j := 0) rfl, _, rfl, z, _, _, _, rfl, rfl, SqT.of hz, atI_nat (j := 0) rfl, b1, _, rfl, .inl ⟨kvs1, .inr p.1, .inl hb1, rfl, ev1.symm⟩, ?_⟩
    refine ⟨_, rfl, W2, _, _, _, rfl, rfl, SqL.of hW2, atI_nat (j := 0) rfl, _, rfl, z, _, _, _, rfl, rfl, SqT.of hz, atI_nat (j := 1) rfl, b2, _, rfl, .inl ⟨kvs2, .inr p.2, .inl hb2, rfl, ev2.symm⟩, ?_⟩
    refine ⟨by show 2 ≤ sizeLine; decide, fun T0 hT0 => ⟨T0, _, rfl, SqT.of upd_same, rfl, _, _, rfl, _, _, rfl, rfl, ?_⟩⟩
    have g1 := Same.new (o := .tup [.ref t1, .ref t2]) hT0
    generalize L2.upd H T0 (.tup [.ref t1, .ref t2]) = H1 at g1
    have h1 : TurnsAt H1 a1 (rowOf bk p.1).2 := g1 _ _ h1
    have h2 : TurnsAt H1 a2 (rowOf cl p.2).2 := g1 _ _ h2
    have ht1 := g1 _ _ ht1
    have ht2 := g1 _ _ ht2
    unfold TurnsAt at h1 h2
    refine ⟨_, rfl, t1, _, _, _, rfl, rfl, SqT.of ht1, atI_nat (j := 0) rfl, _, rfl, t2, _, _, _, rfl, rfl, SqT.of ht2, atI_nat (j := 0) rfl, rfl, _, rfl, ?_⟩
    by_cases c : (rowOf bk p.1).1 = (rowOf cl p.2).1
    · rw [show (!decide (V.str (rowOf bk p.1).1 = V.str (rowOf cl p.2).1)) = false by rw [c]; simp]
      refine iteF ⟨_, rfl, t1, _, _, _, rfl, rfl, SqT.of ht1, atI_nat (j := 0) rfl, rfl, _, rfl, ?_⟩
      by_cases d : (rowOf bk p.1).1 = "says"
      · rw [show decide (V.str (rowOf bk p.1).1 = V.str "says") = true by rw [d]; simp]
        refine iteT ?_
        refine ⟨a2, _, h2, trivial, fun od => ?_⟩
        have kta : (L2.upd H1 a2 (.frz od (.dK (kT (rowOf cl p.2).2)))) t2 = _ := (upd_ne (fun e => by rw [e, h2] at ht2; cases ht2)).trans ht2
        have ktb : (L2.upd H1 a2 (.frz od (.dK (kT (rowOf cl p.2).2)))) t1 = _ := (upd_ne (fun e => by rw [e, h2] at ht1; cases ht1)).trans ht1
        refine ⟨_, rfl, t2, _, _, _, rfl, rfl, SqT.of kta, atI_nat (j := 1) rfl, a2, od, rfl, .inl ⟨kT (rowOf cl p.2).2, upd_same, fun M hM => ?_⟩⟩
        have nM : M ≠ a2 := fun e => by rw [e, upd_same] at hM; cases hM
        have hhL : Rd (L2.upd H1 a2 (.frz od (.dK (kT (rowOf cl p.2).2)))) a1 (.dK (kT (rowOf bk p.1).2)) := rd_lock (.inl h1) h2 fun _ _ e => by cases e
        refine lc_it (walk_keys (d := a2) (o := od) (kvs := kT (rowOf cl p.2).2)) (fun j H' => Same (L2.upd H1 a2 (.frz od (.dK (kT (rowOf cl p.2).2)))) H' ∧ H' M = some (.lst ((((rowOf cl p.2).2.take j).map fun t => decide (t.1 ∈ (rowOf bk p.1).2.map (·.1))).map V.bl))) ⟨Same.new hM, upd_same⟩ (fun j H' _ z => z.1 _ _ upd_same) ?_ ?_
        · rintro j x H10 H11 hj ⟨sm, hM10⟩ ⟨rfl, kk, v0, hkv, rfl⟩
          obtain ⟨u1, hu1, rfl⟩ := kT_at hkv
          refine ⟨rfl, ?_⟩
          dsimp only [tYes]
          rw [if_pos rfl]
          refine ⟨_, rfl, _, rfl, t1, _, _, _, rfl, rfl, SqT.of (sm _ _ ktb), atI_nat (j := 1) rfl, a1, _, rfl, .inl ⟨kT (rowOf bk p.1).2, .inr u1.1, rd_same hhL sm, rfl, rfl⟩, ?_⟩
          rw [kT_isSome]
          have l1 := kT_lt hkv
          refine ⟨_, hM10, by rw [List.length_map, List.length_map, List.length_take, sizeLine_eq]; omega, fun c u e => ?_, by rw [upd_same, take_succ_get hu1, List.map_append, List.map_append]; rfl⟩
          rw [upd_ne (ne_of_none e hM)]; exact sm _ _ e
        rintro H10 ⟨sm, hM10⟩
        rw [show (kT (rowOf cl p.2).2).length = (rowOf cl p.2).2.length by rw [kT, List.length_map], List.take_length] at hM10
        have su := Same.unlock h2 sm
        refine ⟨sm _ _ upd_same, M, _, rfl, SqL.of (by rw [upd_ne nM]; exact hM10), ?_⟩
        rw [all_map]
        have := k _ (Same.trans g1 su)
        rw [show fitP bk cl p = (rowOf cl p.2).2.all fun t => decide (t.1 ∈ (rowOf bk p.1).2.map (·.1)) by unfold fitP; rw [decide_eq_true c, if_neg (by rw [d]; decide +kernel)]; rfl] at this
        exact this
      · rw [show decide (V.str (rowOf bk p.1).1 = V.str "says") = false by simpa using d]
        refine iteF ?_
        refine ⟨a1, _, h1, trivial, fun od => ?_⟩
        have kta : (L2.upd H1 a1 (.frz od (.dK (kT (rowOf bk p.1).2)))) t1 = _ := (upd_ne (fun e => by rw [e, h1] at ht1; cases ht1)).trans ht1
        have ktb : (L2.upd H1 a1 (.frz od (.dK (kT (rowOf bk p.1).2)))) t2 = _ := (upd_ne (fun e => by rw [e, h1] at ht2; cases ht2)).trans ht2
        refine ⟨_, rfl, t1, _, _, _, rfl, rfl, SqT.of kta, atI_nat (j := 1) rfl, a1, od, rfl, .inl ⟨kT (rowOf bk p.1).2, upd_same, fun M hM => ?_⟩⟩
        have nM : M ≠ a1 := fun e => by rw [e, upd_same] at hM; cases hM
        have hhL : Rd (L2.upd H1 a1 (.frz od (.dK (kT (rowOf bk p.1).2)))) a2 (.dK (kT (rowOf cl p.2).2)) := rd_lock (.inl h2) h1 fun _ _ e => by cases e
        refine lc_it (walk_keys (d := a1) (o := od) (kvs := kT (rowOf bk p.1).2)) (fun j H' => Same (L2.upd H1 a1 (.frz od (.dK (kT (rowOf bk p.1).2)))) H' ∧ H' M = some (.lst ((((rowOf bk p.1).2.take j).map fun t => decide (t.1 ∈ (rowOf cl p.2).2.map (·.1))).map V.bl))) ⟨Same.new hM, upd_same⟩ (fun j H' _ z => z.1 _ _ upd_same) ?_ ?_
        · rintro j x H10 H11 hj ⟨sm, hM10⟩ ⟨rfl, kk, v0, hkv, rfl⟩
          obtain ⟨u1, hu1, rfl⟩ := kT_at hkv
          refine ⟨rfl, ?_⟩
          dsimp only [tYes]
          rw [if_pos rfl]
          refine ⟨_, rfl, _, rfl, t2, _, _, _, rfl, rfl, SqT.of (sm _ _ ktb), atI_nat (j := 1) rfl, a2, _, rfl, .inl ⟨kT (rowOf cl p.2).2, .inr u1.1, rd_same hhL sm, rfl, rfl⟩, ?_⟩
          rw [kT_isSome]
          have l1 := kT_lt hkv
          refine ⟨_, hM10, by rw [List.length_map, List.length_map, List.length_take, sizeLine_eq]; omega, fun c u e => ?_, by rw [upd_same, take_succ_get hu1, List.map_append, List.map_append]; rfl⟩
          rw [upd_ne (ne_of_none e hM)]; exact sm _ _ e
        rintro H10 ⟨sm, hM10⟩
        rw [show (kT (rowOf bk p.1).2).length = (rowOf bk p.1).2.length by rw [kT, List.length_map], List.take_length] at hM10
        have su := Same.unlock h1 sm
        refine ⟨sm _ _ upd_same, M, _, rfl, SqL.of (by rw [upd_ne nM]; exact hM10), ?_⟩
        rw [all_map]
        have := k _ (Same.trans g1 su)
        rw [show fitP bk cl p = (rowOf bk p.1).2.all fun t => decide (t.1 ∈ (rowOf cl p.2).2.map (·.1)) by
          unfold fitP
          rw [decide_eq_true c]
          by_cases e : (rowOf bk p.1).1 = "hears"
          · rw [if_pos e]; rfl
          · rw [if_neg e, done_none o1 hp1 d e, done_none o2 hp2 (by rw [← c]; exact d) (by rw [← c]; exact e)]; rfl] at this
        exact this
    · rw [show (!decide (V.str (rowOf bk p.1).1 = V.str (rowOf cl p.2).1)) = true by simpa using c]
      refine iteT ?_
      have := k H1 g1
      rw [show fitP bk cl p = false by unfold fitP; rw [decide_eq_false c]; rfl] at this
      exact this
end
end D1
end L2
/-! the law's _law_pair_kind -/
namespace L2
namespace D1
open PySem PySem.Spec PyProof.Rows D2 X5 X6
/-- a world whose book may stand locked -/
def WorldR (H : Hp) (W : Addr) (bk : Bk) (st : Str) : Prop := ∃ b, Rd H W (.lst [.ref b, .str st]) ∧ BookR H b bk
theorem WorldR.same {H H' : Hp} {W : Addr} {bk : Bk} {st : Str} (h : WorldR H W bk st) (s : Same H H') : WorldR H' W bk st := let ⟨b, e, r⟩ := h; ⟨b, rd_same e s, r.same s⟩
theorem WorldAt.r {H : Hp} {W : Addr} {bk : Bk} {st : Str} (h : WorldAt H W bk st) : WorldR H W bk st := let ⟨b, e, r⟩ := h; ⟨b, .inl e, r.r⟩
def spLKind : Sp := fun vs H Q _ => ∃ (W1 W2 z : Addr) (bk cl : Bk) (st st' : Str) (p : Pr), vs = [.ref W1, .ref W2, .ref z] ∧ WorldR H W1 bk st ∧ WorldR H W2 cl st' ∧ DOk bk st ∧ DOk cl st' ∧ PAt H z p ∧ InP bk cl p ∧
  ∀ H', Same H H' → Q (.str (kindP (ordB bk) (ordB cl) p)) H'
section
variable {P : Program} {w : World} {K : PySem.W.Frag} {mg : Str → Option Value} {base : Heap}
abbrev lkN : List Str := ["_law_mine", "_law_theirs", "_law_pair", "_law_first", "_law_second", "_law_word_here"]
theorem dec_str (x y : Str) : decide (V.str x = V.str y) = decide (x = y) := by
  by_cases h : x = y
  · rw [h, decide_eq_true rfl, decide_eq_true rfl]
  · rw [decide_eq_false h, decide_eq_false fun q => h (V.str.inj q)]
theorem iteBoth {a : Bool} {A B : Prop} (f : a = true → B → A) (b : B) : if a = true then A else B := by
  cases a with
  | true => exact f rfl b
  | false => exact b
end
end D1
end L2
/-! the law's _law_next_pairs -/
namespace L2
namespace D1
open PySem PySem.Spec PyProof.Rows D2 X5 X6
def spLNext : Sp := fun vs H Q _ => ∃ (W1 W2 z : Addr) (bk cl : Bk) (st st' : Str) (p : Pr), vs = [.ref W1, .ref W2, .ref z] ∧ WorldR H W1 bk st ∧ WorldR H W2 cl st' ∧ DOk bk st ∧ DOk cl st' ∧ PAt H z p ∧ InP bk cl p ∧
  ∀ H' R, Same H H' → H R = none → PTAt H' R (nextP (ordB bk) (ordB cl) p) → Q (.ref R) H'
/-- the words of one of two rows, in order -/
def tSrt : TE := fun σ H Q => ∃ (t1 t2 a1 a2 : Addr) (k1 k2 : Str) (ts1 ts2 : List (Str × Str)) (ws : List Str), σ[3]? = some (some (.ref t1)) ∧ σ[4]? = some (some (.ref t2)) ∧ H t1 = some (.tup [.str k1, .ref a1]) ∧ H t2 = some (.tup [.str k2, .ref a2]) ∧ TurnsAt H a1 ts1 ∧ TurnsAt H a2 ts2 ∧ ts1.length ≤ 60 ∧ ts2.length ≤ 60 ∧
  ((k1 = "says" ∧ ws = srt (ts1.map (·.1))) ∨ (k1 ≠ "says" ∧ ws = srt (ts2.map (·.1)))) ∧ ∀ q, H q = none → Q (.ref q) (L2.upd H q (.lst (ws.map V.str)))
section
variable {P : Program} {w : World} {K : PySem.W.Frag} {mg : Str → Option Value} {base : Heap}
abbrev CLKind (P : Program) (w : World) (K : PySem.W.Frag) (mg : Str → Option Value) (base : Heap) := Cal P w K mg base "_law_pair_kind" 1 ["_law_mine", "_law_theirs", "_law_pair"] spLKind
abbrev lnN : List Str := ["_law_mine", "_law_theirs", "_law_pair", "_law_first", "_law_second", "_law_words_here", "_law_word_here"]
end
end D1
end L2
/-! the law's _law_all_steps -/
namespace L2
namespace D1
open PySem PySem.Spec PyProof.Rows D2 X5 X6
def spLAll : Sp := fun vs H Q _ => ∃ (W1 W2 : Addr) (bk cl : Bk) (st st' : Str), vs = [.ref W1, .ref W2] ∧ WorldAt H W1 bk st ∧ WorldAt H W2 cl st' ∧ DOk bk st ∧ DOk cl st' ∧
  ∀ H' R, Same H H' → H R = none → QrAt H' R (nextP (ordB bk) (ordB cl)) (allP bk cl) → Q (.ref R) H'
def pairsT (ss gs : List Str) : List Pr := ss.flatMap fun s => gs.map fun t => (s, t)
theorem pairsT_snoc (ss gs : List Str) (s : Str) : pairsT (ss ++ [s]) gs = pairsT ss gs ++ gs.map fun t => (s, t) := by
  rw [pairsT, List.flatMap_append, List.flatMap_cons, List.flatMap_nil, List.append_nil]; rfl
theorem mem_pairsT {ss gs : List Str} {p : Pr} : p ∈ pairsT ss gs ↔ p.1 ∈ ss ∧ p.2 ∈ gs := by
  unfold pairsT
  rw [List.mem_flatMap]
  constructor
  · rintro ⟨s, hs, h⟩
    obtain ⟨t, ht, rfl⟩ := List.mem_map.mp h
    exact ⟨hs, ht⟩
  · rintro ⟨a, b⟩
    exact ⟨p.1, a, List.mem_map.mpr ⟨p.2, b, rfl⟩⟩
theorem pairsT_nd {gs : List Str} (hg : gs.Nodup) : ∀ {ss : List Str}, ss.Nodup → (pairsT ss gs).Nodup
  | [], _ => List.nodup_nil
  | s :: r, h => by
    have h' := List.nodup_cons.mp h
    show (gs.map (fun t => (s, t)) ++ pairsT r gs).Nodup
    refine List.nodup_append.mpr ⟨?_, pairsT_nd hg h'.2, fun x hx y hy e => ?_⟩
    · exact List.Pairwise.map (fun t => (s, t)) (fun a b n e => n (Prod.ext_iff.mp e).2) hg
    · obtain ⟨t, ht, rfl⟩ := List.mem_map.mp hx
      have := (mem_pairsT.mp hy).1
      rw [← e] at this
      exact h'.1 this
theorem pairsT_len (ss gs : List Str) : (pairsT ss gs).length = ss.length * gs.length := by
  unfold pairsT
  exact len_flat _ gs.length _ fun x _ => by rw [List.length_map]
theorem allP_eq (bk cl : Bk) : allP bk cl = pairsT (bk.map (·.1)) (cl.map (·.1)) := rfl
theorem cut_comm {S : List Addr} {H : Hp} {d : Addr} {o : HO} (n : d ∉ S) : cut S (L2.upd H d o) = L2.upd (cut S H) d o := by
  funext c
  by_cases h : c ∈ S
  · have q : c ≠ d := fun e => n (e ▸ h)
    rw [cut_in h, upd_ne q, cut_in h]
  · rw [cut_out h]
    by_cases e : c = d
    · rw [e, upd_same, upd_same]
    · rw [upd_ne e, upd_ne e, cut_out h]
theorem kn_same {A B : Hp} {c : Addr} (s : Same A B) (h : A c ≠ none) : B c ≠ none := fun e => by
  cases hA : A c with
  | none => exact h hA
  | some o => rw [s _ _ hA] at e; cases e
theorem kn_upd {H : Hp} {c d : Addr} {o : HO} (h : H c ≠ none) : L2.upd H d o c ≠ none := fun e => by
  by_cases z : c = d
  · rw [z, upd_same] at e; cases e
  · rw [upd_ne z] at e; exact h e
theorem rows_lock {H : Hp} {d : Addr} {u : HO} {od : Obj} (hd : H d = some u) (n : (∃ kvs bk', u = .dK kvs ∧ Rows H kvs bk' ∧ bk' ≠ []) ∨ ∃ ys, u = .lst ys) {kv2 : List (Key × V)} {bk2 : Bk} (h : Rows H kv2 bk2) : Rows (L2.upd H d (.frz od u)) kv2 bk2 := by
  refine paired_imp (fun kv r ⟨e, t, a, ev, ht, ha⟩ => ⟨e, t, a, ev, ?_, ?_⟩) h
  · rw [upd_ne fun z => ?_]; exact ht
    rw [z, hd] at ht
    rcases n with ⟨_, _, rfl, _⟩ | ⟨_, rfl⟩ <;> cases ht
  · have na : a ≠ d := by
      rcases n with ⟨kvs, bk', rfl, hr, ne⟩ | ⟨ys, rfl⟩
      · exact book_ne hd hr ne ha
      · exact fun z => by rw [TurnsAt, z, hd] at ha; cases ha
    rw [TurnsAt, upd_ne na]; exact ha
/-- two worlds whose books may stand locked -/
structure TwoW (H : Hp) (W1 W2 b1 b2 : Addr) (kvs1 kvs2 : List (Key × V)) (bk cl : Bk) (st st' : Str) : Prop where
  w1 : Rd H W1 (.lst [.ref b1, .str st])
  d1 : Rd H b1 (.dK kvs1)
  r1 : Rows H kvs1 bk
  w2 : Rd H W2 (.lst [.ref b2, .str st'])
  d2 : Rd H b2 (.dK kvs2)
  r2 : Rows H kvs2 cl
section
variable {W1 W2 b1 b2 : Addr} {kvs1 kvs2 : List (Key × V)} {bk cl : Bk} {st st' : Str}
theorem TwoW.same {H H' : Hp} (h : TwoW H W1 W2 b1 b2 kvs1 kvs2 bk cl st st') (s : Same H H') : TwoW H' W1 W2 b1 b2 kvs1 kvs2 bk cl st st' := ⟨rd_same h.w1 s, rd_same h.d1 s, h.r1.same s, rd_same h.w2 s, rd_same h.d2 s, h.r2.same s⟩
theorem TwoW.lock {H : Hp} (h : TwoW H W1 W2 b1 b2 kvs1 kvs2 bk cl st st') {d : Addr} {u : HO} {od : Obj} (hd : H d = some u) (n : (∃ kvs bk', u = .dK kvs ∧ Rows H kvs bk' ∧ bk' ≠ []) ∨ ∃ ys, u = .lst ys) : TwoW (L2.upd H d (.frz od u)) W1 W2 b1 b2 kvs1 kvs2 bk cl st st' := by
  have hm : ∀ x y, u ≠ .frz x y := fun x y e => by
    rcases n with ⟨_, _, rfl, _⟩ | ⟨_, rfl⟩ <;> cases e
  exact ⟨rd_lock h.w1 hd hm, rd_lock h.d1 hd hm, rows_lock hd n h.r1, rd_lock h.w2 hd hm, rd_lock h.d2 hd hm, rows_lock hd n h.r2⟩
end
/-- a lock for a dict that may stand locked -/
theorem pick_lock {H : Hp} {b W : Addr} {kvs : List (Key × V)} {xs : List V} (hb : Rd H b (.dK kvs)) (hW : H W = some (.lst xs)) : ∃ d u, (d = b ∨ d = W) ∧ H d = some u ∧ Mut (some u) ∧ (u = .dK kvs ∨ ∃ ys, u = .lst ys) ∧ ∀ od, ∃ o2, (L2.upd H d (.frz od u)) b = some (.frz o2 (.dK kvs)) := by
  rcases hb with hb | ⟨o1, hb⟩
  · exact ⟨b, _, .inl rfl, hb, trivial, .inl rfl, fun od => ⟨od, upd_same⟩⟩
  · refine ⟨W, _, .inr rfl, hW, trivial, .inr ⟨_, rfl⟩, fun od => ⟨o1, ?_⟩⟩
    rw [upd_ne (fun e => by rw [e, hW] at hb; cases hb)]; exact hb
/-- rows whose dicts are unknown to H0 -/
def QN (H0 H : Hp) (nx : Pr → List (Str × Pr)) : List (List Key × V) → List Pr → Prop := Paired fun kv n => kv.1 = kP n ∧ ∃ a, kv.2 = .ref a ∧ H0 a = none ∧ PTAt H a (nx n)
theorem QN.q {H0 H : Hp} {nx : Pr → List (Str × Pr)} {kvs : List (List Key × V)} {ns : List Pr} (h : QN H0 H nx kvs ns) : QRows H nx kvs ns := paired_imp (fun _ _ ⟨e, a, ea, _, q⟩ => ⟨e, a, ea, q⟩) h
theorem QN.same {H0 H H' : Hp} {nx : Pr → List (Str × Pr)} {kvs : List (List Key × V)} {ns : List Pr} (h : QN H0 H nx kvs ns) (s : Same H H') : QN H0 H' nx kvs ns := paired_imp (fun _ _ ⟨e, a, ea, na, q⟩ => ⟨e, a, ea, na, q.same s⟩) h
theorem QN.upd {S : List Addr} {H0 H : Hp} {nx : Pr → List (Str × Pr)} {kvs : List (List Key × V)} {ns : List Pr} {d : Addr} {o : HO} (h : QN H0 (cut S H) nx kvs ns) (h0 : H0 d ≠ none) (hd : ∀ xs, H d ≠ some (.tup xs)) : QN H0 (cut S (L2.upd H d o)) nx kvs ns := by
  refine paired_imp (fun _ _ ⟨e, a, ea, na, kr, hk, pr⟩ => ⟨e, a, ea, na, kr, ?_, paired_imp (fun _ _ ⟨e1, z, e2, e3⟩ => ⟨e1, z, e2, ?_⟩) pr⟩) h
  · obtain ⟨n1, e1⟩ := cut_some hk
    have q : a ≠ d := fun z => h0 (z ▸ na)
    rw [cut_out n1, upd_ne q]; exact e1
  · have e3 : cut S H z = _ := e3
    obtain ⟨n1, e4⟩ := cut_some e3
    show cut S _ z = _
    have q : z ≠ d := fun q => hd _ (q ▸ e4)
    rw [cut_out n1, upd_ne q]; exact e4
section
variable {P : Program} {w : World} {K : PySem.W.Frag} {mg : Str → Option Value} {base : Heap}
abbrev CLNext (P : Program) (w : World) (K : PySem.W.Frag) (mg : Str → Option Value) (base : Heap) := Cal P w K mg base "_law_next_pairs" 2 ["_law_mine", "_law_theirs", "_law_pair"] spLNext
abbrev laN : List Str := ["_law_mine", "_law_theirs", "_law_found", "_law_state", "_law_guest"]
end
end D1
end L2
/-! {(..): v} -/
namespace L2
namespace X5
open PySem PySem.Spec PyProof.Rows
section
variable {X : Cx} {k v : Expr} {tk tv : TE} {pos : Pos}
/-- a display of one pair, its key a tuple -/
def tDisp1T (tk tv : TE) : TE := fun σ H Q => ∀ p, H p = none → tk σ (upd H p (.dT [])) fun y H2 => tv σ H2 fun z H3 => H3 p = some (.dT []) ∧ ∃ (b : Addr) (ks : List Key), y = .ref b ∧ H3 b = some (.tup (ks.map kV)) ∧ Q (.ref p) (upd H3 p (.dT [(ks, z)]))
theorem pe_disp1T (hu : X.A.units < cLine) (hk : PE X k tk) (hv : PE X v tv) : PE X (.Dict [some k] [v] pos) (tDisp1T tk tv) := by
  refine ⟨fun pins s σ H Q I q => ?_⟩
  have hn := I.hok.fresh (Nat.le_refl s.heap.objs.size)
  have I1 := I.laid (a := s.heap.objs.size) (o := .dT []) (h' := s.heap.push { cls := .type "dict", data := .dict #[] }) (t' := s.toks) (fun _ _ q => Heap.get?_push_of_some _ q) (Nat.le_refl _) (dt_empty s.heap I.big)
  refine wpAny_Dict_any rfl rfl (fun z => by cases z) (by show 1 ≤ 15; decide) (thn ((pps_cons (pos := pos) hk hv pps_nil).run pins _ σ _ (fun ps H2 => match ps with
    | [(x, y)] => H2 s.heap.objs.size = some (.dT []) ∧ ∃ (b : Addr) (ks : List Key), x = .ref b ∧ H2 b = some (.tup (ks.map kV)) ∧ Q (.ref s.heap.objs.size) (upd H2 s.heap.objs.size (.dT [(ks, y)]))
    | _ => False) I1 (q _ hn)) fun ws s2 ⟨ps, H2, I2, rel, h2⟩ => ?_)
  match ps, rel, h2 with
  | [], _, h2 => exact h2.elim
  | _ :: _ :: _, _, h2 => exact h2.elim
  | [(x, y)], .cons (b := wv) ⟨r1, r2⟩ .nil, ⟨e, b, ks, ex, eb, q2⟩ =>
    subst ex
    obtain ⟨w1, w2⟩ := wv
    obtain rfl : w1 = Value.ref b := r1
    unfold storeAll
    rw [List.forIn_cons]
    refine wpAny_bind (wpAny_bind (put_tup hu I2 e (by rw [List.length_nil, sizeLine_eq]; omega) eb r2 fun s3 I3 => wpAny_pure ?_))
    dsimp only
    rw [List.forIn_nil]
    exact wpAny_pure ⟨V.ref s.heap.objs.size, _, I3, rfl, q2⟩
end
end X5
end L2
/-! the law's _law_closed -/
namespace L2
namespace D1
open PySem PySem.Spec PyProof.Rows D2 X5 X6
def spLClosed : Sp := fun vs H Q _ => ∃ (G z : Addr) (bk cl : Bk) (ns : List Pr) (p : Pr), vs = [.ref G, .ref z] ∧ QrAt H G (nextP bk cl) ns ∧ (∀ q, InP bk cl q → q ∈ ns) ∧ BB bk cl ∧ PAt H z p ∧ InP bk cl p ∧
  ∀ H' R ys gs, Same H H' → H R = none → H' R = some (.lst (ys.map V.ref)) → PL H' ys gs → RnAll (nextP bk cl) p gs → Q (.ref R) H'
section
variable {P : Program} {w : World} {K : PySem.W.Frag} {mg : Str → Option Value} {base : Heap}
abbrev lcN : List Str := ["_law_steps", "_law_first", "_law_found", "_law_known", "_law_at", "_law_goals", "_law_word_here"]
end
end D1
end L2
/-! the law's _law_pairs_come, _law_all_pairs -/
namespace L2
namespace D1
open PySem PySem.Spec PyProof.Rows D2 X5 X6
def spLCome : Sp := fun vs H Q _ => ∃ (W1 W2 : Addr) (bk cl : Bk) (st st' : Str), vs = [.ref W1, .ref W2] ∧ WorldAt H W1 bk st ∧ WorldAt H W2 cl st' ∧ DOk bk st ∧ DOk cl st' ∧
  ∀ H' R (ys : List (Addr × Pr)), Same H H' → H R = none → H' R = some (.lst (ys.map fun z => .ref z.1)) → X6.Prs H' ys → (ys.map (·.2)).Pairwise lePS → RnAll (nextP (ordB bk) (ordB cl)) (st, st') (ys.map (·.2)) → Q (.ref R) H'
def spLPairs : Sp := fun vs H Q _ => ∃ (W1 W2 : Addr) (bk cl : Bk) (st st' : Str), vs = [.ref W1, .ref W2] ∧ WorldAt H W1 bk st ∧ WorldAt H W2 cl st' ∧ DOk bk st ∧ DOk cl st' ∧
  ∀ H' R zs, Same H H' → H R = none → H' R = some (.lst (zs.map V.ref)) → PL H' zs (pairsT (srt (bk.map (·.1))) (srt (cl.map (·.1)))) → Q (.ref R) H'
theorem pair_app2 {α β : Type} {R : α → β → Prop} : ∀ {l l2 : List α} {m m2 : List β}, Paired R l m → Paired R l2 m2 → Paired R (l ++ l2) (m ++ m2)
  | _, _, _, _, .nil, h => h
  | _, _, _, _, .cons x r, h => .cons x (pair_app2 r h)
theorem pl_zip {H : Hp} : ∀ {ys : List Addr} {gs : List Pr}, PL H ys gs → (ys.zip gs).map (fun z => V.ref z.1) = ys.map V.ref ∧ (ys.zip gs).map (·.2) = gs ∧ X6.Prs H (ys.zip gs)
  | _, _, .nil => ⟨rfl, rfl, fun z h => by cases h⟩
  | _, _, .cons h r => by
    obtain ⟨a, b, c⟩ := pl_zip r
    refine ⟨by rw [List.zip_cons_cons, List.map_cons, a]; rfl, by rw [List.zip_cons_cons, List.map_cons, b], fun z hz => ?_⟩
    rw [List.zip_cons_cons] at hz
    rcases List.mem_cons.mp hz with e | e
    · rw [e]; exact h
    · exact c z e
theorem ord_all {bk cl : Bk} : ∀ q : Pr, InP (ordB bk) (ordB cl) q → q ∈ allP bk cl := fun q h => mem_allP (inP_ord.mp h)
section
variable {P : Program} {w : World} {K : PySem.W.Frag} {mg : Str → Option Value} {base : Heap}
abbrev CLAll (P : Program) (w : World) (K : PySem.W.Frag) (mg : Str → Option Value) (base : Heap) := Cal P w K mg base "_law_all_steps" 3 ["_law_mine", "_law_theirs"] spLAll
abbrev CLClosed (P : Program) (w : World) (K : PySem.W.Frag) (mg : Str → Option Value) (base : Heap) := Cal P w K mg base "_law_closed" 1 ["_law_steps", "_law_first"] spLClosed
abbrev lpN : List Str := ["_law_mine", "_law_theirs", "_law_found", "_law_state", "_law_guest"]
end
end D1
end L2
/-! the law's _law_viable: some list of words -/
namespace L2
namespace D1
open PySem PySem.Spec PyProof.Rows D2 X5 X6
abbrev sViable : Stmt := top 55
def trD (ss : List Str) : List (Key × V) := ss.map fun s => (Sum.inr s, V.bl true)
theorem trD_keys (ss : List Str) : (trD ss).map (·.1) = ss.map Sum.inr := by rw [trD, List.map_map]; rfl
theorem trD_put (ss : List Str) (s : Str) : putK (trD ss) (.inr s) (.bl true) = trD (if s ∈ ss then ss else ss ++ [s]) := by
  by_cases h : s ∈ ss
  · rw [if_pos h]
    unfold putK
    rw [if_pos (show ((trD ss).any fun kv => decide (kv.1 = Sum.inr s)) = true from List.any_eq_true.mpr ⟨(Sum.inr s, V.bl true), List.mem_map.mpr ⟨s, h, rfl⟩, decide_eq_true rfl⟩), trD, List.map_map]
    refine List.map_congr_left fun x _ => ?_
    show (if (Sum.inr x : Key) = Sum.inr s then (Sum.inr x, V.bl true) else (Sum.inr x, V.bl true)) = _
    split <;> rfl
  · rw [if_neg h, D1.putK_new, trD, trD, List.map_append]
    · rfl
    · rw [trD_keys]
      exact fun m => by obtain ⟨x, hx, e⟩ := List.mem_map.mp m; exact h (Sum.inr.inj e ▸ hx)
theorem pigeonS : ∀ (l ns : List Str), l.Nodup → (∀ x ∈ l, x ∈ ns) → l.length ≤ ns.length := fun l ns nd h => pigeon l ns nd h
def spViable : Sp := fun vs H Q _ => ∃ (W : Addr) (bk : Bk) (st : Str), vs = [.ref W] ∧ WorldAt H W bk st ∧ DOk bk st ∧ ∀ H' R xs, Same H H' → H R = none → SL H' R xs → xs.length ≤ 60 → Q (.ref R) H'
abbrev viN : List Str := ["_law_world_here", "_law_kept", "_law_turn", "_law_near", "_law_many", "_law_state", "_law_kind", "_law_turns_here", "_law_goals", "_law_is_near", "_law_word_here", "_law_goal"]
def tVt : TT := fun σ H Q => ∃ (W Kp N GL : Addr) (v2 v7 : Option V) (many : Int) (s k : Str) (b : Bool) (gs ks : List Str), σ = [some (.ref W), some (.ref Kp), v2, some (.ref N), some (.int many), some (.str s), some (.str k), v7, some (.ref GL), some (.bl b), none, none] ∧ SL H GL gs ∧ gs.length ≤ 60 ∧ H Kp = some (.dK (trD ks)) ∧ ∀ b H', Same H H' → Q b H'
section
variable {P : Program} {w : World} {K : PySem.W.Frag} {mg : Str → Option Value} {base : Heap}
theorem scVi : FnScope viN ["_law_world_here"] (defScope sViable) := ⟨rfl, rfl, rfl, by decide +kernel, rfl, by decide +kernel, by decide +kernel⟩
theorem ok_viable {f : Addr} {fd : FuncData} (F : Fun K "_law_viable" "_law_viable" sViable f fd) (T : Free4 mg) : FnOk P w K mg base CX0 1 f fd ["_law_world_here"] spViable := by
  refine F.ok scVi (fun vs H Q E h => ?_) (fun cdv A outer s H vs Q E0' hr h => ?_)
  · obtain ⟨W, bk, st, rfl, _⟩ := h; rfl
  · obtain ⟨W, bk, st, rfl, ⟨b, hW, kvs, hb, hR⟩, ok, k⟩ := h
    have hu := hu_of hr
    refine ⟨_, pss_cons (ps_set (i := 1) scVi.nd rfl (Or.inr rfl) (pe_callTy (call_dictP rfl) (by rfl) T.dict (by decide +kernel) (pa_cons (pe_lock (pe_lc (own := [("_law_state", 5)]) (g := gName 5) (tt := tYes) (te := tTup (tCons (tVar 5) (tCons (tC (.bl true)) tNil))) rfl scVi.nd (pi_keys (pe_ix ix_list (pv 0) pe_int (fun _ _ => rfl)))
        (blkOk_by (N := viN) (sc := defScope sViable) (by decide +kernel)) (fun _ _ _ _ _ => pg_name (i := 5) scVi.nd rfl (Or.inl rfl)) (fun _ _ _ _ _ => pts_nil) (fun _ _ _ _ _ => pe_tup (pa_cons (pv 5) (pa_cons pe_bl pa_nil))))) pa_nil)))
      (pss_cons (ps_for PassesOwn.never rfl (pi_range1 rfl T.range (pa_cons (pe_op op_add (pe_callB call_lenD (by rfl) T.len PySem.boot_len (pa_cons (pe_ix ix_list (pv 0) pe_int (fun _ _ => rfl)) pa_nil)) pe_int) pa_nil)) (pg_name (i := 2) scVi.nd rfl (Or.inl rfl))
        (pss_cons (ps_asg (pe_tup (pa_cons pe_dnewK (pa_cons (pe_un un_neg pe_int) pa_nil))) (pg_tup rfl (pgs_cons (pg_name (i := 3) scVi.nd rfl (Or.inr rfl)) (pgs_cons (pg_name (i := 4) scVi.nd rfl (Or.inl rfl)) pgs_nil))))
        (pss_cons (ps_while PassesOwn.never (pt_cmpR op_lt (pv 4) (pe_callB call_lenD (by rfl) T.len PySem.boot_len (pa_cons (pv 3) pa_nil)) (nomark _))
          (pss_cons (ps_set (i := 4) scVi.nd rfl (Or.inl rfl) (pe_callB call_lenD (by rfl) T.len PySem.boot_len (pa_cons (pv 3) pa_nil)))
          (pss_one (ps_for PassesOwn.never rfl (pi_list (pe_lock (pe_lc (own := [("_law_state", 5)]) (g := gName 5) (tt := tTest (tDNotIn (tVar 5) (tVar 3))) (te := tVar 5) rfl scVi.nd (pi_keys (pv 1))
              (blkOk_by (N := viN) (sc := defScope sViable) (by decide +kernel)) (fun _ _ _ _ _ => pg_name (i := 5) scVi.nd rfl (Or.inl rfl)) (fun _ _ _ _ _ => pts_one (pt_cmp (pc_dnotin hu (pv 5) (pv 3)) rfl)) (fun _ _ _ _ _ => pv 5)))) (pg_name (i := 5) scVi.nd rfl (Or.inl rfl))
            (pss_cons (ps_asg (pe_dget hu (pe_ix ix_list (pv 0) pe_int (fun _ _ => rfl)) (pv 5) (fun _ _ => rfl)) (pg_tup rfl (pgs_cons (pg_name (i := 6) scVi.nd rfl (Or.inl rfl)) (pgs_cons (pg_name (i := 7) scVi.nd rfl (Or.inr rfl)) pgs_nil))))
            (pss_cons (ps_lock (ps_setLc (i := 8) (own := [("_law_word_here", 10)]) (g := gName 10) (tt := tYes) (te := tDGet (tVar 7) (tVar 10)) rfl scVi.nd rfl rfl (sw_true rfl rfl rfl rfl) (pi_keys (pv 7))
              (blkOk_by (N := viN) (sc := defScope sViable) (by decide +kernel)) (fun _ _ _ _ _ => pg_name (i := 10) scVi.nd rfl (Or.inl rfl)) (fun _ _ _ _ _ => pts_nil) (fun _ _ _ _ _ => pe_dget hu (pv 7) (pv 10) (fun _ _ => rfl))))
            (pss_cons (ps_set (i := 9) scVi.nd rfl (Or.inl rfl) (pe_callB (cr_any rfl) (by rfl) T.any (by decide +kernel) (pa_cons (pe_lc (own := [("_law_goal", 11)]) (g := gName 11) (tt := tYes) (te := tDIn (tVar 11) (tVar 3)) rfl scVi.nd (pi_list (pv 8))
              (blkOk_by (N := viN) (sc := defScope sViable) (by decide +kernel)) (fun _ _ _ _ _ => pg_name (i := 11) scVi.nd rfl (Or.inl rfl)) (fun _ _ _ _ _ => pts_nil) (fun _ _ _ _ _ => pe_cmp (pc_din hu (pv 11) (pv 3)) rfl)) pa_nil)))
            (pss_one (ps_if (pt_imp (t' := tVt) (PW.pt (pw_or (pt_cmpR op_eq (pv 6) pe_str (nomark _)) (pw_or1 (PW.pt (pw_and (pt_val (pv 9)) (pw_and1 (PW.pt (pw_or (pt_cmpR op_eq (pv 6) pe_str (nomark _)) (pw_or1 (pt_val (pe_callB (cr_all rfl) (by rfl) T.all (by decide +kernel) (pa_cons (pe_lc (own := [("_law_goal", 11)]) (g := gName 11) (tt := tYes) (te := tDIn (tVar 11) (tVar 1)) rfl scVi.nd (pi_list (pv 8))
              (blkOk_by (N := viN) (sc := defScope sViable) (by decide +kernel)) (fun _ _ _ _ _ => pg_name (i := 11) scVi.nd rfl (Or.inl rfl)) (fun _ _ _ _ _ => pts_nil) (fun _ _ _ _ _ => pe_cmp (pc_din hu (pv 11) (pv 1)) rfl)) pa_nil)))))))))))) ?sub1)
              (pss_one (ps_dput hu (pv 3) (pv 5) pe_bl rfl)) pss_nil)))))))))
        (pss_cons (ps_if (pt_cmpR op_eq (pe_callB call_lenD (by rfl) T.len PySem.boot_len (pa_cons (pv 3) pa_nil)) (pe_callB call_lenD (by rfl) T.len PySem.boot_len (pa_cons (pv 1) pa_nil)) (nomark _)) (pss_one (ps_ret (pe_callB (call_sortedD rfl) (by rfl) T.sorted (by decide +kernel) (pa_cons (pv 3) pa_nil)))) pss_nil)
        (pss_one (ps_set (i := 1) scVi.nd rfl (Or.inr rfl) (pv 3)))))))
      (pss_one (ps_ret (pe_callB (call_sortedD rfl) (by rfl) T.sorted (by decide +kernel) (pa_cons (pv 1) pa_nil))))), ?_⟩
    case sub1 =>
      rintro σ H Q ⟨W, Kp, N, GL, v2, v7, many, s, kd, b, gs, ks, rfl, hL, lg, hK, k⟩
      refine ⟨_, rfl, rfl, _, rfl, ite2 (fun _ => k _ _ (Same.refl _)) (fun _ => ⟨_, rfl, b, rfl, ite2 (fun _ => ⟨_, rfl, rfl, _, rfl, ite2 (fun _ => k _ _ (Same.refl _)) (fun _ => ⟨_, rfl, GL, rfl, ⟨_, hL.sq⟩, fun M hM => ?_⟩)⟩) (fun _ => k _ _ (Same.refl _))⟩)⟩
      refine lc_list (K := K) (a := GL) (xs := gs.map V.str) (fun i H' => Same H H' ∧ ∃ bs : List Bool, bs.length = i ∧ H' M = some (.lst (bs.map V.bl))) ⟨Same.new hM, [], rfl, upd_same⟩ (fun i H' _ z => (hL.same z.1).sq) ?_ ?_
      · rintro i x H2 hx ⟨s2, bs, lb, hM2⟩
        obtain ⟨g, hg, rfl⟩ := D1.get_map hx
        have li : i < gs.length := (List.getElem?_eq_some_iff.mp hg).1
        refine ⟨rfl, ?_⟩
        dsimp only [tYes]
        rw [if_pos rfl]
        refine ⟨_, rfl, _, rfl, Kp, _, rfl, .inl ⟨trD ks, .inr g, .inl (s2 _ _ hK), rfl, rfl⟩, _, hM2, by rw [List.length_map, sizeLine_eq]; omega, fun c u e => ?_, bs ++ [_], by rw [List.length_append, lb]; rfl, by rw [upd_same, List.map_append]; rfl⟩
        rw [upd_ne (ne_of_none e hM)]; exact s2 _ _ e
      · rintro H2 ⟨s2, bs, lb, hM2⟩
        exact ⟨M, bs, rfl, SqL.of hM2, _, rfl, k _ _ s2⟩
    have l60 := ok.len
    have ekv : kvs.map (·.1) = (bk.map (·.1)).map Sum.inr := by rw [hR.keys, List.map_map]; rfl
    have lkv : kvs.length = bk.length := hR.len
    -- the first dict
    refine ⟨b, _, hb, trivial, fun od => ?_⟩
    have nWb : W ≠ b := fun e => by rw [e, hb] at hW; cases hW
    have hWL : (L2.upd H b (.frz od (.dK kvs))) W = some (.lst [.ref b, .str st]) := by rw [upd_ne nWb]; exact hW
    refine ⟨_, rfl, W, _, _, _, rfl, rfl, SqL.of hWL, atI_nat (j := 0) rfl, b, od, rfl, .inl ⟨kvs, upd_same, fun M hM => ?_⟩⟩
    have nM : M ≠ b := fun e => by rw [e, upd_same] at hM; cases hM
    refine lc_it (walk_keys (d := b) (o := od) (kvs := kvs)) (fun i H' => Same (L2.upd H b (.frz od (.dK kvs))) H' ∧ ∃ ps : List Addr, H' M = some (.lst (ps.map V.ref)) ∧ Paired (fun p (kv : Key × V) => (cut [M] H') p = some (.tup [kV kv.1, kv.2])) ps (trD ((bk.map (·.1)).take i))) ⟨Same.new hM, [], upd_same, .nil⟩ (fun i H' _ z => z.1 _ _ upd_same) ?_ ?_
    · rintro i x H2 H3 hi ⟨sm, ps, hM2, hps⟩ ⟨rfl, kk, v0, hkv, rfl⟩
      obtain ⟨r, hr', rfl, _⟩ := hR.at hkv
      have hs : (bk.map (·.1))[i]? = some r.1 := by rw [List.getElem?_map, hr']; rfl
      have hil : i < bk.length := (List.getElem?_eq_some_iff.mp hr').1
      refine ⟨rfl, ?_⟩
      dsimp only [tYes]
      rw [if_pos rfl]
      refine ⟨_, rfl, by show 2 ≤ sizeLine; decide, fun T1 hT1 => ?_⟩
      have g := Same.new (o := .tup [kV (Sum.inr r.1), .bl true]) hT1
      have nT : T1 ≠ M := fun e => by rw [e, hM2] at hT1; cases hT1
      have lps : ps.length = i := by
        have := paired_len hps
        rw [trD, List.length_map, List.length_take, List.length_map] at this
        omega
      refine ⟨_, g _ _ hM2, by rw [List.length_map, sizeLine_eq]; omega, fun c u e => ?_, ps ++ [T1], by rw [upd_same, List.map_append]; rfl, ?_⟩
      · rw [upd_ne (ne_of_none e hM)]; exact g _ _ (sm _ _ e)
      · rw [cut_upd (by simp), take_succ_get hs, trD, List.map_append]
        have hp' := paired_imp (fun p (kv : Key × V) (e : (cut [M] H3) p = some (.tup [kV kv.1, kv.2])) => cut_same g _ _ e) hps
        exact pair_app hp' (by rw [cut_out (by simpa using nT)]; exact upd_same)
    rintro H2 ⟨sm, ps, hM2, hps⟩
    rw [lkv, ← List.length_map (·.1), List.take_length] at hps
    have su := Same.unlock hb sm
    have hp3 : Paired (fun p (kv : Key × V) => SqT K (L2.upd H2 b (.dK kvs)) p [kV kv.1, kv.2]) ps (trD (bk.map (·.1))) := paired_imp (fun p kv e => SqT.of (unl_at (sm _ _ upd_same) (cut_le _ _ e))) hps
    refine ⟨sm _ _ upd_same, M, ps, _, rfl, SqL.of (by rw [upd_ne nM]; exact hM2), hp3, fun K0 hK0 => ?_⟩
    rw [merge_id2 (by rw [trD_keys]; exact inr_nd' ok.nd)]
    have s3 := Same.trans su (Same.new (o := .dK (trD (bk.map (·.1)))) hK0)
    have eK3 : (L2.upd (L2.upd H2 b (.dK kvs)) K0 (.dK (trD (bk.map (·.1))))) K0 = some (.dK (trD (bk.map (·.1)))) := upd_same
    have nK0 : H K0 = none := su.free hK0
    generalize L2.upd (L2.upd H2 b (.dK kvs)) K0 (.dK (trD (bk.map (·.1)))) = H3 at s3 eK3
    clear hps hp3 hM2 su sm hWL hM
    -- the end of either return
    have fin : ∀ (H' : Hp) (D : Addr) (ss : List Str), Same H H' → H' D = some (.dK (trD ss)) → ss.Nodup → (∀ x ∈ ss, x ∈ bk.map (·.1)) → ∃ (a : Addr) (kvs : List (Key × V)) (ks : List Str), [V.ref D] = [.ref a] ∧ Rd H' a (.dK kvs) ∧ kvs.map (·.1) = ks.map Sum.inr ∧ ks.length < 64 ∧ ∀ ys q, ys.Perm ks → sortedS ys = true → H' q = none → Q (.ref q) (L2.upd H' q (.lst (ys.map V.str))) := fun H' D ss s hD nd sub => by
      have l := pigeonS ss _ nd sub
      rw [List.length_map] at l
      refine ⟨D, _, ss, rfl, .inl hD, trD_keys ss, by omega, fun ys q pm so hq => ?_⟩
      exact k _ q ys (Same.trans s (Same.new hq)) (s.free hq) upd_same (by rw [pm.length_eq]; omega)
    refine ⟨_, rfl, W, _, _, _, rfl, rfl, SqL.of (s3 _ _ hW), atI_nat (j := 0) rfl, b, kvs, rfl, s3 _ _ hb, _, _, rfl, rfl, (kvs.length : Int) + 1, rfl, by omega, by omega, ?_⟩
    refine for_range (n := ((kvs.length : Int) + 1).toNat) (fun i σ H' => ∃ (Kp : Addr) (ks : List Str) (v2 v3 v4 v5 v6 v7 v8 v9 : Option V), σ = [some (.ref W), some (.ref Kp), v2, v3, v4, v5, v6, v7, v8, v9, none, none] ∧ Same H H' ∧ H Kp = none ∧ H' Kp = some (.dK (trD ks)) ∧ ks.Nodup ∧ (∀ x ∈ ks, x ∈ bk.map (·.1)))
      ⟨K0, _, none, none, none, none, none, none, none, none, rfl, s3, nK0, eK3, ok.nd, fun x hx => hx⟩ ?_ ?_
    · rintro i σ H4 hi ⟨Kp, ks, v2, v3, v4, v5, v6, v7, v8, v9, rfl, s4, nK, hK, ndk, subk⟩
      have lks : ks.length ≤ 60 := by have := pigeonS ks _ ndk subk; rw [List.length_map] at this; omega
      refine fun N hN => ⟨_, rfl, by show 2 ≤ sizeLine; decide, fun T0 hT0 => ⟨T0, _, rfl, SqT.of upd_same, rfl, _, _, rfl, _, _, rfl, rfl, ?_⟩⟩
      have nKN : Kp ≠ N := ne_of_none hK hN
      have hN0 : H N = none := s4.free hN
      have g1 := Same.new (o := .dK []) hN
      have eN1 : (L2.upd H4 N (.dK [])) N = some (.dK (trD [])) := upd_same
      generalize L2.upd H4 N (.dK []) = H5 at g1 eN1 hT0
      have g2 := Same.new (o := .tup [.ref N, .int (-1)]) hT0
      have eN2 := g2 _ _ eN1
      generalize L2.upd H5 T0 (.tup [.ref N, .int (-1)]) = H6 at g2 eN2
      have s6 : Same H4 (cut [N] H6) := fun c u e => by
        have n := ne_of_none e hN
        rw [cut_out (by simpa using n)]; exact g2 _ _ (g1 _ _ e)
      clear g1 g2 eN1 hT0
      refine ⟨fun m σ H' => ∃ (many : Int) (ns : List Str) (v5 v6 v7 v8 v9 : Option V), σ = [some (.ref W), some (.ref Kp), some (.int (0 + (i : Int))), some (.ref N), some (.int many), v5, v6, v7, v8, v9, none, none] ∧ Same H4 (cut [N] H') ∧ H' N = some (.dK (trD ns)) ∧ ns.Nodup ∧ (∀ x ∈ ns, x ∈ bk.map (·.1)) ∧ m = (61 - many).toNat,
        ⟨_, -1, [], v5, v6, v7, v8, v9, rfl, s6, eN2, List.nodup_nil, fun x hx => (by cases hx), rfl⟩, ?_⟩
      rintro m σ H7 ⟨many, ns, v5, v6, v7, v8, v9, rfl, s7, hN7, ndn, subn, rfl⟩
      have lns : ns.length ≤ 60 := by have := pigeonS ns _ ndn subn; rw [List.length_map] at this; omega
      have ltr : ∀ ss : List Str, (trD ss).length = ss.length := fun ss => by rw [trD, List.length_map]
      refine ⟨_, rfl, _, rfl, N, _, rfl, hN7, _, _, rfl, rfl, _, rfl, ?_⟩
      rw [ltr]
      rcases (Classical.em (many < ns.length)).symm with hm | hm
      · refine (if_neg (by rw [decide_eq_false hm]; decide)).mpr ⟨_, rfl, N, _, rfl, hN7, _, rfl, Kp, _, rfl, cut_le _ _ (s7 _ _ hK), rfl, _, rfl, ite2 (fun _ => ?_) (fun _ => ?_)⟩
        · exact ⟨_, rfl, fin _ _ _ (Same.trans s4 (Same.trans s7 cut_le)) hN7 ndn subn⟩
        · exact ⟨_, rfl, N, ns, _, _, _, _, _, _, _, _, rfl, Same.trans s4 (Same.trans s7 cut_le), hN0, hN7, ndn, subn⟩
      refine (if_pos (decide_eq_true hm)).mpr ⟨_, fun σ' H' h => h, ?_⟩
      refine ⟨_, rfl, N, _, rfl, hN7, ?_⟩
      rw [ltr]
      have hK7c := s7 _ _ hK
      obtain ⟨nKc, hK7⟩ := cut_some hK7c
      refine ⟨Kp, _, hK7, trivial, fun od => ?_⟩
      have hNL : (L2.upd H7 Kp (.frz od (.dK (trD ks)))) N = some (.dK (trD ns)) := by rw [upd_ne nKN.symm]; exact hN7
      refine ⟨_, rfl, Kp, od, rfl, .inl ⟨trD ks, upd_same, fun M hM => ?_⟩⟩
      have nM : M ≠ Kp := fun e => by rw [e, upd_same] at hM; cases hM
      have hM7 : H7 M = none := by rw [upd_ne nM] at hM; exact hM
      refine lc_it (walk_keys (d := Kp) (o := od) (kvs := trD ks)) (fun j H' => Same (L2.upd H7 Kp (.frz od (.dK (trD ks)))) H' ∧ ∃ xs : List Str, SL H' M xs ∧ (∀ x ∈ xs, x ∈ ks) ∧ xs.length ≤ j) ⟨Same.new hM, [], upd_same, fun x hx => (by cases hx), Nat.le_refl _⟩ (fun j H' _ z => z.1 _ _ upd_same) ?_ ?_
      · rintro j x H8 H9 hj ⟨sm, xs, hM8, sub, lx⟩ ⟨rfl, kk, v0, hkv, rfl⟩
        rw [trD, List.getElem?_map] at hkv
        obtain ⟨sx, hs, e⟩ := Option.map_eq_some_iff.mp hkv
        cases e
        rw [ltr] at hj
        refine ⟨rfl, _, rfl, _, rfl, N, _, rfl, .inl ⟨trD ns, .inr sx, .inl (sm _ _ hNL), rfl, rfl⟩, _, rfl, ite2 (fun _ => ?_) (fun _ => ⟨sm, xs, hM8, sub, by omega⟩)⟩
        refine ⟨_, rfl, _, hM8, by rw [List.length_map, sizeLine_eq]; omega, fun c u e => ?_, xs ++ [sx], by rw [SL, upd_same, List.map_append]; rfl, fun x hx => ?_, by rw [List.length_append]; show xs.length + 1 ≤ j + 1; omega⟩
        · rw [upd_ne (ne_of_none e hM)]; exact sm _ _ e
        · rcases List.mem_append.mp hx with z | z
          · exact sub x z
          · rw [List.mem_singleton.mp z]; exact List.mem_of_getElem? hs
      rintro H8 ⟨sm, xs, hM8, sub, lx⟩
      rw [ltr] at lx
      have su := Same.unlock hK7 sm
      have hM9 : SL (L2.upd H8 Kp (.dK (trD ks))) M xs := by rw [SL, upd_ne nM]; exact hM8
      refine ⟨sm _ _ upd_same, M, rfl, ⟨_, hM9.sq⟩, ?_⟩
      have hN9 : (L2.upd H8 Kp (.dK (trD ks))) N = some (.dK (trD ns)) := su _ _ hN7
      generalize L2.upd H8 Kp (.dK (trD ks)) = H9 at su hM9 hN9
      have nMN : M ≠ N := fun e => by rw [e, hN7] at hM7; cases hM7
      have s9 : Same H4 (cut [N] H9) := Same.trans s7 (cut_same su)
      have hM9c : SL (cut [N] H9) M xs := by rw [SL, cut_out (by simpa using nMN)]; exact hM9
      refine for_list (K := K) (a := M) (xs := xs.map V.str) (fun j σ H' => ∃ (ns2 : List Str) (v5 v6 v7 v8 v9 : Option V), σ = [some (.ref W), some (.ref Kp), some (.int (0 + (i : Int))), some (.ref N), some (.int ns.length), v5, v6, v7, v8, v9, none, none] ∧ Same (cut [N] H9) (cut [N] H') ∧ H' N = some (.dK (trD ns2)) ∧ ns2.Nodup ∧ (∀ x ∈ ns2, x ∈ bk.map (·.1)))
        ⟨ns, _, _, _, _, _, rfl, Same.refl _, hN9, ndn, subn⟩ (fun j σ H' _ ⟨_, _, _, _, _, _, _, z, _⟩ => (SL.same (SL.same hM9c z) cut_le).sq) ?_ ?_
      · rintro j x σ H10 hx ⟨ns2, v5, v6, v7, v8, v9, rfl, s10, hN10, nd2, sub2⟩
        obtain ⟨sx, hs, rfl⟩ := D1.get_map hx
        have snm := subk _ (sub _ (List.mem_of_getElem? hs))
        have sH : Same H (cut [N] H10) := Same.trans s4 (Same.trans s9 s10)
        have hW10 := cut_le _ _ (sH _ _ hW)
        have hb10 := cut_le _ _ (sH _ _ hb)
        have hR10 := (hR.same sH)
        obtain ⟨v, ev, ⟨t1, a1, rfl, ht1, h1⟩, m1⟩ := hR10.look snm
        have lts : (rowOf bk sx).2.length ≤ 60 := ok.len2 _ m1
        refine ⟨_, rfl, W, _, _, _, rfl, rfl, SqL.of hW10, atI_nat (j := 0) rfl, _, rfl, b, _, rfl, .inl ⟨kvs, .inr sx, .inl hb10, rfl, ev.symm⟩, t1, _, rfl, SqT.of (cut_le _ _ ht1), rfl, _, _, rfl, _, _, rfl, rfl, ?_⟩
        obtain ⟨n1, h1'⟩ := cut_some h1
        have n1N : a1 ≠ N := fun e => n1 (by simp [e])
        have h1a : TurnsAt H10 a1 (rowOf bk sx).2 := h1'
        refine ⟨a1, _, h1a, trivial, fun od2 => ⟨_, rfl, a1, od2, rfl, .inl ⟨kT (rowOf bk sx).2, upd_same, fun GL hGL => ?_⟩⟩⟩
        have nGL : GL ≠ a1 := fun e => by rw [e, upd_same] at hGL; cases hGL
        refine lc_it (walk_keys (d := a1) (o := od2) (kvs := kT (rowOf bk sx).2)) (fun j H' => Same (L2.upd H10 a1 (.frz od2 (.dK (kT (rowOf bk sx).2)))) H' ∧ ∃ gs : List Str, SL H' GL gs ∧ gs.length = j) ⟨Same.new hGL, [], upd_same, rfl⟩ (fun j H' _ z => z.1 _ _ upd_same) ?_ ?_
        · rintro j x H11 H12 hj ⟨sm2, gs, hG11, lg⟩ ⟨rfl, kk, v0, hkv, rfl⟩
          obtain ⟨u, hu1, rfl⟩ := kT_at hkv
          have lj := kT_lt hkv
          refine ⟨rfl, ?_⟩
          dsimp only [tYes]
          rw [if_pos rfl]
          refine ⟨_, rfl, _, rfl, a1, _, rfl, .inl ⟨kT (rowOf bk sx).2, .inr u.1, .inr ⟨od2, sm2 _ _ upd_same⟩, rfl, (valV_goal (List.mem_map_of_mem (List.mem_of_getElem? hu1))).symm⟩, _, hG11, by rw [List.length_map, sizeLine_eq]; omega, fun c w e => ?_, gs ++ [_], by rw [SL, upd_same, List.map_append]; rfl, by rw [List.length_append, lg]; rfl⟩
          rw [upd_ne (ne_of_none e hGL)]; exact sm2 _ _ e
        rintro H11 ⟨sm2, gs, hG11, lg⟩
        rw [show (kT (rowOf bk sx).2).length = (rowOf bk sx).2.length by rw [kT, List.length_map]] at lg
        have su2 := Same.unlock h1a sm2
        refine ⟨sm2 _ _ upd_same, ?_⟩
        have hG12 : SL (L2.upd H11 a1 (.dK (kT (rowOf bk sx).2))) GL gs := by rw [SL, upd_ne nGL]; exact hG11
        generalize L2.upd H11 a1 (.dK (kT (rowOf bk sx).2)) = H12 at su2 hG12
        have hN12 := su2 _ _ hN10
        refine ⟨_, rfl, GL, rfl, ⟨_, hG12.sq⟩, fun M2 hM2 => ?_⟩
        refine lc_list (K := K) (a := GL) (xs := gs.map V.str) (fun i H' => Same H12 H' ∧ ∃ bs : List Bool, bs.length = i ∧ H' M2 = some (.lst (bs.map V.bl))) ⟨Same.new hM2, [], rfl, upd_same⟩ (fun i H' _ z => (hG12.same z.1).sq) ?_ ?_
        · rintro i2 x H13 hx ⟨s13, bs, lb, hM13⟩
          obtain ⟨g, hg, rfl⟩ := D1.get_map hx
          have li : i2 < gs.length := (List.getElem?_eq_some_iff.mp hg).1
          refine ⟨rfl, ?_⟩
          dsimp only [tYes]
          rw [if_pos rfl]
          refine ⟨_, rfl, _, rfl, N, _, rfl, .inl ⟨trD ns2, .inr g, .inl (s13 _ _ hN12), rfl, rfl⟩, _, hM13, by rw [List.length_map, sizeLine_eq]; omega, fun c u e => ?_, bs ++ [_], by rw [List.length_append, lb]; rfl, by rw [upd_same, List.map_append]; rfl⟩
          rw [upd_ne (ne_of_none e hM2)]; exact s13 _ _ e
        rintro H13 ⟨s13, bs, lb, hM13⟩
        have sA := Same.trans su2 s13
        refine ⟨M2, bs, rfl, SqL.of hM13, ?_⟩
        refine ⟨W, Kp, N, GL, _, _, _, sx, _, _, gs, ks, rfl, hG12.same s13, by omega, sA _ _ (cut_le _ _ (s10 _ _ (s9 _ _ hK))), fun q H14 s14 => ?_⟩
        have sB := Same.trans sA s14
        have hN14 := sB _ _ hN10
        refine ite2 (fun _ => ?_) (fun _ => ⟨ns2, _, _, _, _, _, rfl, Same.trans s10 (cut_same sB), hN14, nd2, sub2⟩)
        have l2 : ns2.length ≤ 60 := by have := pigeonS ns2 _ nd2 sub2; rw [List.length_map] at this; omega
        refine ⟨_, rfl, _, rfl, N, _, rfl, DPut.k (kvs := trD ns2) (k := Sum.inr sx) hN14 (by rw [ltr, sizeLine_eq]; omega), ?_⟩
        rw [trD_put]
        refine ⟨_, _, _, _, _, _, rfl, by rw [cut_upd (by simp)]; exact Same.trans s10 (cut_same sB), upd_same, ?_, ?_⟩
        · split
          · exact nd2
          · rename_i c; exact nodup_app nd2 c
        · intro x hx
          split at hx
          · exact sub2 x hx
          · rcases List.mem_append.mp hx with z | z
            · exact sub2 x z
            · rw [List.mem_singleton.mp z]; exact snm
      · rintro σ H10 ⟨ns2, v5, v6, v7, v8, v9, rfl, s10, hN10, nd2, sub2⟩
        exact ⟨_, by omega, _, ns2, _, _, _, _, _, rfl, Same.trans s9 s10, hN10, nd2, sub2, rfl⟩
    · rintro σ H4 ⟨Kp, ks, v2, v3, v4, v5, v6, v7, v8, v9, rfl, s4, nK, hK, ndk, subk⟩
      exact ⟨_, rfl, fin _ _ _ s4 hK ndk subk⟩
end
end D1
end L2
/-! the law's _law_sayable: some words of the row -/
namespace L2
namespace D1
open PySem PySem.Spec PyProof.Rows D2 X5 X6
abbrev sSay : Stmt := top 56
def spSay : Sp := fun vs H Q _ => ∃ (W : Addr) (bk : Bk) (st s : Str), vs = [.ref W, .str s] ∧ WorldAt H W bk st ∧ DOk bk st ∧ s ∈ bk.map (·.1) ∧ ∀ H' R xs, Same H H' → H R = none → SL H' R xs → xs.Nodup → (∀ x ∈ xs, x ∈ (rowOf bk s).2.map (·.1)) → Q (.ref R) H'
section
variable {P : Program} {w : World} {K : PySem.W.Frag} {mg : Str → Option Value} {base : Heap}
abbrev CViable (P : Program) (w : World) (K : PySem.W.Frag) (mg : Str → Option Value) (base : Heap) := Cal P w K mg base "_law_viable" 1 ["_law_world_here"] spViable
abbrev sayN : List Str := ["_law_world_here", "_law_state", "_law_kind", "_law_turns_here", "_law_viable_here", "_law_word_here"]
theorem scSay : FnScope sayN ["_law_world_here", "_law_state"] (defScope sSay) := ⟨rfl, rfl, rfl, by decide +kernel, rfl, by decide +kernel, by decide +kernel⟩
theorem ok_say {f : Addr} {fd : FuncData} (F : Fun K "_law_sayable" "_law_sayable" sSay f fd) (T : Free4 mg) (CV : CViable P w K mg base) : FnOk P w K mg base CX0 2 f fd ["_law_world_here", "_law_state"] spSay := by
  refine F.ok scSay (fun vs H Q E h => ?_) (fun cdv A outer s H vs Q E0' hr h => ?_)
  · obtain ⟨W, bk, st, s, rfl, _⟩ := h; rfl
  · obtain ⟨W, bk, st, sx, rfl, wa, ok, hs, k⟩ := h
    have hu := hu_of hr
    refine ⟨_, pss_cons (ps_asg (pe_dget hu (pe_ix ix_list (pv 0) pe_int (fun _ _ => rfl)) (pv 1) (fun _ _ => rfl)) (pg_tup rfl (pgs_cons (pg_name (i := 2) scSay.nd rfl (Or.inl rfl)) (pgs_cons (pg_name (i := 3) scSay.nd rfl (Or.inr rfl)) pgs_nil))))
      (pss_cons (ps_if (pt_cmpR op_eq (pv 2) pe_str (nomark _))
        (pss_cons (ps_set (i := 4) scSay.nd rfl (Or.inr rfl) (pe_cal CV (hr.mono (by decide)) rfl (pa_cons (pv 0) pa_nil)))
        (pss_one (ps_ret (pe_callB cr_sortedS (by rfl) T.sorted (by decide +kernel) (pa_cons (pe_lock (pe_lc (own := [("_law_word_here", 5)]) (g := gName 5) (tt := tTest (tOp (rIn K false) (tDGet (tVar 3) (tVar 5)) (tVar 4))) (te := tVar 5) rfl scSay.nd (pi_keys (pv 3))
          (blkOk_by (N := sayN) (sc := defScope sSay) (by decide +kernel)) (fun _ _ _ _ _ => pg_name (i := 5) scSay.nd rfl (Or.inl rfl)) (fun _ _ _ _ _ => pts_one (pt_cmpR op_in_seq (pe_dget hu (pv 3) (pv 5) (fun _ _ => rfl)) (pv 4) rfl)) (fun _ _ _ _ _ => pv 5))) pa_nil))))) pss_nil)
      (pss_one (ps_ret (pe_callB (call_sortedD rfl) (by rfl) T.sorted (by decide +kernel) (pa_cons (pv 3) pa_nil))))), ?_⟩
    obtain ⟨b, hW, kvs, hb, hR⟩ := id wa
    obtain ⟨v, ev, ⟨t1, a1, rfl, ht1, h1⟩, m1⟩ := hR.look hs
    have lts : (rowOf bk sx).2.length ≤ 60 := ok.len2 _ m1
    have nd : ((rowOf bk sx).2.map (·.1)).Nodup := ok.tk _ m1
    have ek : (kT (rowOf bk sx).2).map (·.1) = ((rowOf bk sx).2.map (·.1)).map Sum.inr := by rw [kT, List.map_map, List.map_map]; rfl
    refine ⟨_, rfl, W, _, _, _, rfl, rfl, SqL.of hW, atI_nat (j := 0) rfl, _, rfl, b, _, rfl, .inl ⟨kvs, .inr sx, .inl hb, rfl, ev.symm⟩, t1, _, rfl, SqT.of ht1, rfl, _, _, rfl, _, _, rfl, rfl, ?_⟩
    refine ⟨_, rfl, rfl, _, rfl, ite2 (fun _ => ?_) (fun _ => ?_)⟩
    · refine ⟨_, rfl, W, bk, st, rfl, wa, ok, fun H1 R xs g1 nR hL lx => ?_⟩
      have h1a : TurnsAt H1 a1 (rowOf bk sx).2 := h1.same g1
      refine ⟨a1, _, h1a, trivial, fun od => ⟨_, rfl, a1, od, rfl, .inl ⟨kT (rowOf bk sx).2, upd_same, fun M hM => ?_⟩⟩⟩
      have nM : M ≠ a1 := fun e => by rw [e, upd_same] at hM; cases hM
      have nRa : R ≠ a1 := fun e => by rw [TurnsAt, ← e, hL] at h1a; cases h1a
      have hLL : SL (L2.upd H1 a1 (.frz od (.dK (kT (rowOf bk sx).2)))) R xs := by rw [SL, upd_ne nRa]; exact hL
      refine lc_it (walk_keys (d := a1) (o := od) (kvs := kT (rowOf bk sx).2)) (fun j H' => Same (L2.upd H1 a1 (.frz od (.dK (kT (rowOf bk sx).2)))) H' ∧ ∃ ys : List Str, SL H' M ys ∧ ys.Sublist (((rowOf bk sx).2.map (·.1)).take j)) ⟨Same.new hM, [], upd_same, List.nil_sublist _⟩ (fun j H' _ z => z.1 _ _ upd_same) ?_ ?_
      · rintro j x H2 H3 hj ⟨sm, ys, hM2, sl⟩ ⟨rfl, kk, v0, hkv, rfl⟩
        obtain ⟨u, hu1, rfl⟩ := kT_at hkv
        have lj := kT_lt hkv
        have hk1 : ((rowOf bk sx).2.map (·.1))[j]? = some u.1 := by rw [List.getElem?_map, hu1]; rfl
        have ly : ys.length ≤ j := by have := sl.length_le; rw [List.length_take] at this; omega
        rw [take_succ_get hk1]
        refine ⟨rfl, _, rfl, _, rfl, a1, _, rfl, .inl ⟨kT (rowOf bk sx).2, .inr u.1, .inr ⟨od, sm _ _ upd_same⟩, rfl, (valV_goal (List.mem_map_of_mem (List.mem_of_getElem? hu1))).symm⟩, _, rfl, R, _, rfl, .inl ((hLL.same sm).sq), rfl, flat_strs xs, _, rfl, ite2 (fun _ => ?_) (fun _ => ⟨sm, ys, hM2, sl.trans (List.sublist_append_left _ _)⟩)⟩
        refine ⟨_, rfl, _, hM2, by rw [List.length_map, sizeLine_eq]; omega, fun c w e => ?_, ys ++ [u.1], by rw [SL, upd_same, List.map_append]; rfl, sl.append (List.Sublist.refl _)⟩
        rw [upd_ne (ne_of_none e hM)]; exact sm _ _ e
      rintro H2 ⟨sm, ys, hM2, sl⟩
      rw [show (kT (rowOf bk sx).2).length = ((rowOf bk sx).2.map (·.1)).length by rw [kT, List.length_map, List.length_map], List.take_length] at sl
      have su := Same.unlock h1a sm
      have ly : ys.length ≤ 60 := by have := sl.length_le; rw [List.length_map] at this; omega
      refine ⟨sm _ _ upd_same, M, ys, rfl, SqL.of (by rw [upd_ne nM]; exact hM2), by omega, fun zs q pm so hq => ?_⟩
      have s1 := Same.trans g1 su
      refine k _ q zs (Same.trans s1 (Same.new hq)) (s1.free hq) upd_same (pm.nodup_iff.mpr (sl.nodup nd)) fun x hx => sl.subset (pm.mem_iff.mp hx)
    · refine ⟨_, rfl, a1, kT (rowOf bk sx).2, (rowOf bk sx).2.map (·.1), rfl, .inl h1, ek, by rw [List.length_map]; omega, fun ys q pm so hq => ?_⟩
      exact k _ q ys (Same.new hq) hq upd_same (pm.nodup_iff.mpr nd) fun x hx => pm.mem_iff.mp hx
end
end D1
end L2
/-! the law's names and partners: data -/
namespace L2
namespace D1
open PySem PySem.Spec PyProof.Rows D2 X5 X6
def num : List Str → Str → Nat
  | [], _ => 0
  | x :: r, s => if x = s then 0 else num r s + 1
theorem num_get : ∀ {l : List Str} {s : Str}, s ∈ l → l[num l s]? = some s
  | [], _, h => by cases h
  | x :: r, s, h => by
    unfold num
    by_cases c : x = s
    · rw [if_pos c, c]; rfl
    · rw [if_neg c]
      exact num_get (l := r) ((List.mem_cons.mp h).resolve_left fun q => c q.symm)
theorem num_lt {l : List Str} {s : Str} (h : s ∈ l) : num l s < l.length := (List.getElem?_eq_some_iff.mp (num_get h)).1
theorem num_inj {l : List Str} {s t : Str} (hs : s ∈ l) (ht : t ∈ l) (e : num l s = num l t) : s = t := by
  have := num_get hs
  rw [e, num_get ht] at this
  exact (Option.some.inj this).symm
theorem num_at {l : List Str} (nd : l.Nodup) {i : Nat} {s : Str} (h : l[i]? = some s) : num l s = i := by
  have m := List.mem_of_getElem? h
  have h2 := num_get m
  exact (List.getElem?_inj (num_lt m) nd).mp (h2.trans h.symm)
abbrev Cp := Str × Nat
def kQ (q : Cp) : List Key := [.inr q.1, .inl (q.2 : Int)]
theorem kQ_inj {p q : Cp} (h : kQ p = kQ q) : p = q := by
  have h1 : p.1 = q.1 := Sum.inr.inj (List.cons.inj h).1
  have h2 : (p.2 : Int) = (q.2 : Int) := Sum.inl.inj (List.cons.inj (List.cons.inj h).2).1
  exact Prod.ext h1 (by omega)
def nmC (ss : List Str) (n : Nat) (q : Cp) : Str := nameP (num ss q.1 * n + q.2)
def pairsC (ss : List Str) (n : Nat) : List Cp := ss.flatMap fun s => (List.range n).map fun c => (s, c)
theorem pairsC_snoc (ss : List Str) (n : Nat) (s : Str) : pairsC (ss ++ [s]) n = pairsC ss n ++ (List.range n).map fun c => (s, c) := by
  rw [pairsC, List.flatMap_append, List.flatMap_cons, List.flatMap_nil, List.append_nil]; rfl
theorem mem_pairsC {ss : List Str} {n : Nat} {q : Cp} : q ∈ pairsC ss n ↔ q.1 ∈ ss ∧ q.2 < n := by
  unfold pairsC
  rw [List.mem_flatMap]
  constructor
  · rintro ⟨s, hs, h⟩
    obtain ⟨t, ht, rfl⟩ := List.mem_map.mp h
    exact ⟨hs, List.mem_range.mp ht⟩
  · rintro ⟨a, b⟩
    exact ⟨q.1, a, List.mem_map.mpr ⟨q.2, List.mem_range.mpr b, rfl⟩⟩
theorem pairsC_len (ss : List Str) (n : Nat) : (pairsC ss n).length = ss.length * n := by
  unfold pairsC
  exact len_flat _ n _ fun x _ => by rw [List.length_map, List.length_range]
theorem pairsC_nd {n : Nat} : ∀ {ss : List Str}, ss.Nodup → (pairsC ss n).Nodup
  | [], _ => List.nodup_nil
  | s :: r, h => by
    have h' := List.nodup_cons.mp h
    show ((List.range n).map (fun c => (s, c)) ++ pairsC r n).Nodup
    refine List.nodup_append.mpr ⟨?_, pairsC_nd h'.2, fun x hx y hy e => ?_⟩
    · exact List.Pairwise.map (fun t => (s, t)) (fun a b n e => n (Prod.ext_iff.mp e).2) List.nodup_range
    · obtain ⟨t, ht, rfl⟩ := List.mem_map.mp hx
      have := (mem_pairsC.mp hy).1
      rw [← e] at this
      exact h'.1 this
def NK (ss : List Str) (n : Nat) (ls : List Cp) : List (List Key × V) := ls.map fun q => (kQ q, .str (nmC ss n q))
theorem NK_val {ss : List Str} {n : Nat} : ∀ {ls : List Cp} {q : Cp}, q ∈ ls → valV (NK ss n ls) (kQ q) = some (.str (nmC ss n q))
  | [], _, h => by cases h
  | x :: r, q, h => by
    by_cases c : x = q
    · subst c; exact valV_pos rfl
    · show valV ((kQ x, V.str (nmC ss n x)) :: NK ss n r) (kQ q) = _
      rw [valV_neg (fun e => c (kQ_inj e))]
      exact NK_val ((List.mem_cons.mp h).resolve_left fun e => c e.symm)
theorem NK_none {ss : List Str} {n : Nat} {ls : List Cp} {q : Cp} (h : q ∉ ls) : valV (NK ss n ls) (kQ q) = none := by
  induction ls with
  | nil => rfl
  | cons x r ih =>
    show valV ((kQ x, V.str (nmC ss n x)) :: NK ss n r) (kQ q) = _
    rw [valV_neg (fun e => h (by rw [kQ_inj e]; exact List.mem_cons_self))]
    exact ih fun m => h (List.mem_cons_of_mem _ m)
theorem NK_put {ss : List Str} {n : Nat} {ls : List Cp} {q : Cp} (h : q ∉ ls) : putK (NK ss n ls) (kQ q) (.str (nmC ss n q)) = NK ss n (ls ++ [q]) := by
  rw [L2.putK_new _ (NK_none h), NK, NK, List.map_append]; rfl
theorem name_wd (i : Fin 6) : Wd (nameP i.val) := by
  refine ⟨?_, ?_, ?_⟩ <;> revert i <;> decide +kernel
theorem name_inj : ∀ i j : Fin 6, nameP i.val = nameP j.val → i = j := by decide +kernel
section
variable {ss : List Str} {n : Nat}
theorem nm_lt (h6 : n * ss.length ≤ 6) {q : Cp} (h : q ∈ pairsC ss n) : num ss q.1 * n + q.2 < 6 := by
  obtain ⟨a, b⟩ := mem_pairsC.mp h
  have l := num_lt a
  have : (num ss q.1 + 1) * n ≤ ss.length * n := Nat.mul_le_mul_right _ l
  rw [Nat.add_mul, Nat.one_mul] at this
  rw [Nat.mul_comm] at h6
  omega
theorem nm_wd (h6 : n * ss.length ≤ 6) {q : Cp} (h : q ∈ pairsC ss n) : Wd (nmC ss n q) := name_wd ⟨_, nm_lt h6 h⟩
theorem nm_inj (h6 : n * ss.length ≤ 6) {p q : Cp} (hp : p ∈ pairsC ss n) (hq : q ∈ pairsC ss n) (e : nmC ss n p = nmC ss n q) : p = q := by
  have e1 := Fin.mk.inj_iff.mp (name_inj ⟨_, nm_lt h6 hp⟩ ⟨_, nm_lt h6 hq⟩ e)
  obtain ⟨a, b⟩ := mem_pairsC.mp hp
  obtain ⟨c, d⟩ := mem_pairsC.mp hq
  have d1 : (num ss p.1 * n + p.2) / n = num ss p.1 := by
    rw [Nat.mul_comm, Nat.mul_add_div (by omega), Nat.div_eq_of_lt b, Nat.add_zero]
  have d2 : (num ss q.1 * n + q.2) / n = num ss q.1 := by
    rw [Nat.mul_comm, Nat.mul_add_div (by omega), Nat.div_eq_of_lt d, Nat.add_zero]
  have e2 : num ss p.1 = num ss q.1 := by rw [← d1, ← d2, e1]
  rw [e2] at e1
  exact Prod.ext (num_inj a c e2) (by omega)
theorem nm_nd (h6 : n * ss.length ≤ 6) (nd : ss.Nodup) : ((pairsC ss n).map (nmC ss n)).Nodup := by
  have : ∀ l : List Cp, (∀ x ∈ l, x ∈ pairsC ss n) → l.Nodup → (l.map (nmC ss n)).Nodup := fun l => by
    induction l with
    | nil => exact fun _ _ => List.nodup_nil
    | cons x r ih =>
      intro h hn
      have hn := List.nodup_cons.mp hn
      rw [List.map_cons]
      refine List.nodup_cons.mpr ⟨fun m => ?_, ih (fun y hy => h y (List.mem_cons_of_mem _ hy)) hn.2⟩
      obtain ⟨y, hy, e⟩ := List.mem_map.mp m
      rw [nm_inj h6 (h y (List.mem_cons_of_mem _ hy)) (h x List.mem_cons_self) e] at hy
      exact hn.1 hy
  exact this _ (fun x hx => hx) (pairsC_nd nd)
end
end D1
end L2
/-! the law's _law_plain_steps -/
namespace L2
namespace D1
open PySem PySem.Spec PyProof.Rows D2 X5 X6
abbrev sPlain : Stmt := top 66
/-- whether a word goes on -/
def tWs : TT := fun σ H Q => ∃ (x : Str) (u1 u2 a2 : Addr) (k1 k2 : Str) (v1 : V) (ts2 : List (Str × Str)), σ[8]? = some (some (.str x)) ∧ σ[5]? = some (some (.ref u1)) ∧ σ[6]? = some (some (.ref u2)) ∧ H u1 = some (.tup [.str k1, v1]) ∧ H u2 = some (.tup [.str k2, .ref a2]) ∧ H a2 = some (.dK (kT ts2)) ∧ Q (decide (x ∈ ts2.map (·.1)) && decide (k1 = k2)) H
section
variable {P : Program} {w : World} {K : PySem.W.Frag} {mg : Str → Option Value} {base : Heap}
abbrev plN : List Str := ["_law_elder", "_law_newer_here", "_law_found", "_law_state", "_law_late", "_law_first", "_law_second", "_law_words_here", "_law_word_here"]
theorem scPl : FnScope plN ["_law_elder", "_law_newer_here"] (defScope sPlain) := ⟨rfl, rfl, rfl, by decide +kernel, rfl, by decide +kernel, by decide +kernel⟩
theorem ok_plain {f : Addr} {fd : FuncData} (F : Fun K "_law_plain_steps" "_law_plain_steps" sPlain f fd) (T : Free3 mg) : FnOk P w K mg base CX0 1 f fd ["_law_elder", "_law_newer_here"] spLAll := by
  refine F.ok scPl (fun vs H Q E h => ?_) (fun cdv A outer s H vs Q E0' hr h => ?_)
  · obtain ⟨W1, W2, bk, cl, st, st', rfl, _⟩ := h; rfl
  · obtain ⟨W1, W2, bk, cl, st, st', rfl, ⟨b1, hW1, kvs1, hb1, hR1⟩, ⟨b2, hW2, kvs2, hb2, hR2⟩, o1, o2, k⟩ := h
    have hu := hu_of hr
    refine ⟨_, pss_cons (ps_set (i := 2) scPl.nd rfl (Or.inl rfl) pe_dnewT)
      (pss_cons (ps_lock (ps_for PassesOwn.never rfl (pi_keys (pe_ix ix_list (pv 0) pe_int (fun _ _ => rfl))) (pg_name (i := 3) scPl.nd rfl (Or.inl rfl))
        (pss_one (ps_lock (ps_for PassesOwn.never rfl (pi_keys (pe_ix ix_list (pv 1) pe_int (fun _ _ => rfl))) (pg_name (i := 4) scPl.nd rfl (Or.inl rfl))
          (pss_cons (ps_asg (pe_tup (pa_cons (pe_dget hu (pe_ix ix_list (pv 0) pe_int (fun _ _ => rfl)) (pv 3) (fun _ _ => rfl)) (pa_cons (pe_dget hu (pe_ix ix_list (pv 1) pe_int (fun _ _ => rfl)) (pv 4) (fun _ _ => rfl)) pa_nil))) (pg_tup rfl (pgs_cons (pg_name (i := 5) scPl.nd rfl (Or.inr rfl)) (pgs_cons (pg_name (i := 6) scPl.nd rfl (Or.inr rfl)) pgs_nil))))
          (pss_cons (ps_setLc (i := 7) (own := [("_law_word_here", 8)]) (g := gName 8) (tt := tWs) (te := tVar 8) rfl scPl.nd rfl rfl (sw_true rfl rfl rfl rfl) (pi_list (pe_callB (call_sortedD rfl) (by rfl) T.sorted (by decide +kernel) (pa_cons (pe_ix ix_tup (pv 5) pe_int (fun _ _ => rfl)) pa_nil)))
              (blkOk_by (N := plN) (sc := defScope sPlain) (by decide +kernel)) (fun _ _ _ _ _ => pg_name (i := 8) scPl.nd rfl (Or.inl rfl))
              (fun _ _ _ _ _ => pts_one (pt_imp (t' := tWs) (PW.pt (pw_and (pt_cmp (pc_din hu (pv 8) (pe_ix ix_tup (pv 6) pe_int (fun _ _ => rfl))) rfl) (pw_and1 (pt_cmpR op_eq (pe_ix ix_tup (pv 5) pe_int (fun _ _ => rfl)) (pe_ix ix_tup (pv 6) pe_int (fun _ _ => rfl)) rfl)))) (by
                rintro σ H Q ⟨x, u1, u2, a2, k1, k2, v1, ts2, e8, e5, e6, h1, h2, h3, k⟩
                refine ⟨_, e8, _, e6, u2, _, _, _, rfl, rfl, SqT.of h2, atI_nat (j := 1) rfl, a2, _, rfl, .inl ⟨kT ts2, .inr x, .inl h3, rfl, rfl⟩, _, rfl, ?_⟩
                rw [kT_isSome]
                by_cases c : x ∈ ts2.map (·.1)
                · rw [decide_eq_true c] at k ⊢
                  refine iteT ⟨_, e5, u1, _, _, _, rfl, rfl, SqT.of h1, atI_nat (j := 0) rfl, _, e6, u2, _, _, _, rfl, rfl, SqT.of h2, atI_nat (j := 0) rfl, rfl, _, rfl, ?_⟩
                  rw [show decide (V.str k1 = V.str k2) = decide (k1 = k2) by by_cases e : k1 = k2 <;> simp [e]]
                  exact k
                · rw [decide_eq_false c] at k ⊢
                  exact iteF k)))
              (fun _ _ _ _ _ => pv 8))
          (pss_one (ps_dput hu (pv 2) (pe_tup (pa_cons (pv 3) (pa_cons (pv 4) pa_nil))) (pe_callTy (call_dictP rfl) (by rfl) T.dict (by decide +kernel) (pa_cons (pe_lc (own := [("_law_word_here", 8)]) (g := gName 8) (tt := tYes) (te := tTup (tCons (tVar 8) (tCons (tTup (tCons (tDGet (tOp (rIxT K) (tVar 5) (tC (.int 1))) (tVar 8)) (tCons (tDGet (tOp (rIxT K) (tVar 6) (tC (.int 1))) (tVar 8)) tNil))) tNil))) rfl scPl.nd (pi_list (pv 7))
              (blkOk_by (N := plN) (sc := defScope sPlain) (by decide +kernel)) (fun _ _ _ _ _ => pg_name (i := 8) scPl.nd rfl (Or.inl rfl)) (fun _ _ _ _ _ => pts_nil)
              (fun _ _ _ _ _ => pe_tup (pa_cons (pv 8) (pa_cons (pe_tup (pa_cons (pe_dget hu (pe_ix ix_tup (pv 5) pe_int (fun _ _ => rfl)) (pv 8) (fun _ _ => rfl)) (pa_cons (pe_dget hu (pe_ix ix_tup (pv 6) pe_int (fun _ _ => rfl)) (pv 8) (fun _ _ => rfl)) pa_nil))) pa_nil)))) pa_nil)) rfl)))))))))
      (pss_one (ps_ret (pv 2)))), ?_⟩
    refine fun S hS => ?_
    have T0 : TwoW H W1 W2 b1 b2 kvs1 kvs2 bk cl st st' := ⟨.inl hW1, .inl hb1, hR1, .inl hW2, .inl hb2, hR2⟩
    have s0 : Same H (cut [S] (L2.upd H S (.dT []))) := fun b o e => by
      have n := ne_of_none e hS
      rw [cut_out (by simpa using n), upd_ne n]; exact e
    have eS : (L2.upd H S (.dT [])) S = some (.dT []) := upd_same
    generalize L2.upd H S (.dT []) = H1 at s0 eS
    have c1 := s0 _ _ hb1
    obtain ⟨nb1, e1⟩ := cut_some c1
    have nS1 : S ≠ b1 := fun e => nb1 (by simp [e])
    refine ⟨b1, _, e1, trivial, fun od1 => ?_⟩
    have TL := (T0.same s0).lock (od := od1) c1 (.inl ⟨kvs1, bk, rfl, hR1.same s0, o1.ne⟩)
    rw [← cut_comm nb1] at TL
    have eSL : (L2.upd H1 b1 (.frz od1 (.dK kvs1))) S = some (.dT []) := by rw [upd_ne nS1]; exact eS
    have fr1 : cut [S] (L2.upd H1 b1 (.frz od1 (.dK kvs1))) b1 = some (.frz od1 (.dK kvs1)) := by rw [cut_out nb1, upd_same]
    have un1 : ∀ H', Same (cut [S] (L2.upd H1 b1 (.frz od1 (.dK kvs1)))) (cut [S] H') → Same H (cut [S] (L2.upd H' b1 (.dK kvs1))) := fun H' s => Same.trans s0 (cut_unlock nb1 e1 s)
    have lW2 : cut [S] (L2.upd H1 b1 (.frz od1 (.dK kvs1))) W2 = some (.lst [.ref b2, .str st']) := by
      rw [cut_comm nb1, upd_ne (fun e => by rw [e, hb1] at hW2; cases hW2)]; exact s0 _ _ hW2
    have kn1 : ∀ c, H c ≠ none → cut [S] (L2.upd H1 b1 (.frz od1 (.dK kvs1))) c ≠ none := fun c h => by
      rw [cut_comm nb1]; exact kn_upd (kn_same s0 h)
    generalize L2.upd H1 b1 (.frz od1 (.dK kvs1)) = HL at TL eSL fr1 un1 lW2 kn1
    have l1 : bk.length ≤ 60 := o1.len
    have l2 : cl.length ≤ 60 := o2.len
    have eL1 : kvs1.length = bk.length := hR1.len
    have eL2 : kvs2.length = cl.length := hR2.len
    refine ⟨_, rfl, W1, _, _, _, rfl, rfl, .inl (rd_same TL.w1 cut_le), atI_nat (j := 0) rfl, b1, od1, rfl, .inl ⟨kvs1, cut_le _ _ fr1, ?_⟩⟩
    refine for_it (walk_keys (d := b1) (o := od1) (kvs := kvs1)) (fun i σ H' => ∃ (v3 v4 v5 v6 v7 : Option V) (kvs : List (List Key × V)), σ = [some (.ref W1), some (.ref W2), some (.ref S), v3, v4, v5, v6, v7, none] ∧ Same (cut [S] HL) (cut [S] H') ∧ H' S = some (.dT kvs) ∧ QN H (cut [S] H') (nextP (ordB bk) (ordB cl)) kvs (pairsT ((bk.map (·.1)).take i) (cl.map (·.1))))
      ⟨none, none, none, none, none, [], rfl, Same.refl _, eSL, .nil⟩ (fun i σ H' _ ⟨_, _, _, _, _, _, _, z, _⟩ => cut_le _ _ (z _ _ fr1)) ?_ ?_
    · rintro i v σ H2 H3 hi ⟨v3, v4, v5, v6, v7, kvs, rfl, s3, hS3, hQ3⟩ ⟨rfl, kk, v0, hkv, rfl⟩
      obtain ⟨r, hr1, rfl, _⟩ := hR1.at hkv
      have hs1 : (bk.map (·.1))[i]? = some r.1 := by rw [List.getElem?_map, hr1]; rfl
      have T3 := TL.same s3
      have W3 := s3 _ _ lW2
      obtain ⟨d, u, hd0, hd, mu, hu1, lk⟩ := pick_lock T3.d2 W3
      obtain ⟨nd, ed⟩ := cut_some hd
      have nSd : S ≠ d := fun e => nd (by simp [e])
      have oldd : H d ≠ none := by
        rcases hd0 with rfl | rfl
        · rw [hb2]; exact fun e => by cases e
        · rw [hW2]; exact fun e => by cases e
      have ntup : ∀ xs, H3 d ≠ some (.tup xs) := fun xs e => by
        rw [ed] at e
        rcases hu1 with rfl | ⟨_, rfl⟩ <;> cases e
      refine ⟨d, u, ed, mu, fun od2 => ?_⟩
      obtain ⟨o2', fr2⟩ := lk od2
      rw [← cut_comm nd] at fr2
      have TL2 := T3.lock (od := od2) hd (by
        rcases hu1 with rfl | ⟨ys, rfl⟩
        · exact .inl ⟨_, cl, rfl, T3.r2, o2.ne⟩
        · exact .inr ⟨ys, rfl⟩)
      rw [← cut_comm nd] at TL2
      have eS2 : (L2.upd H3 d (.frz od2 u)) S = some (.dT kvs) := by rw [upd_ne nSd]; exact hS3
      have un2 : ∀ H', Same (cut [S] (L2.upd H3 d (.frz od2 u))) (cut [S] H') → Same (cut [S] H3) (cut [S] (L2.upd H' d u)) := fun H' s => cut_unlock nd ed s
      have frd : cut [S] (L2.upd H3 d (.frz od2 u)) d = some (.frz od2 u) := by rw [cut_out nd, upd_same]
      have hQ4 := hQ3.upd (o := .frz od2 u) oldd ntup
      have kn2 : ∀ c, H c ≠ none → cut [S] (L2.upd H3 d (.frz od2 u)) c ≠ none := fun c h => by
        rw [cut_comm nd]; exact kn_upd (kn_same s3 (kn1 c h))
      generalize L2.upd H3 d (.frz od2 u) = HL2 at TL2 fr2 eS2 un2 frd hQ4 kn2
      refine ⟨_, rfl, W2, _, _, _, rfl, rfl, .inl (rd_same TL2.w2 cut_le), atI_nat (j := 0) rfl, b2, o2', rfl, .inl ⟨kvs2, cut_le _ _ fr2, ?_⟩⟩
      refine for_it (walk_keys (d := b2) (o := o2') (kvs := kvs2)) (fun j σ H' => ∃ (v4 v5 v6 v7 : Option V) (kvs : List (List Key × V)), σ = [some (.ref W1), some (.ref W2), some (.ref S), some (.str r.1), v4, v5, v6, v7, none] ∧ Same (cut [S] HL2) (cut [S] H') ∧ H' S = some (.dT kvs) ∧ QN H (cut [S] H') (nextP (ordB bk) (ordB cl)) kvs (pairsT ((bk.map (·.1)).take i) (cl.map (·.1)) ++ ((cl.map (·.1)).take j).map fun t => (r.1, t)))
        ⟨v4, v5, v6, v7, kvs, rfl, Same.refl _, eS2, by rw [List.take_zero, List.map_nil, List.append_nil]; exact hQ4⟩ (fun i σ H' _ ⟨_, _, _, _, _, _, z, _⟩ => cut_le _ _ (z _ _ fr2)) ?_ ?_
      · rintro j v σ H5 H6 hj ⟨v4, v5, v6, v7, kvs, rfl, s5, hS5, hQ5⟩ ⟨rfl, kk, v0, hkv2, rfl⟩
        obtain ⟨r2, hr2, rfl, _⟩ := hR2.at hkv2
        have hs2 : (cl.map (·.1))[j]? = some r2.1 := by rw [List.getElem?_map, hr2]; rfl
        have T5 := (TL2.same s5).same cut_le
        have hs1m : r.1 ∈ bk.map (·.1) := List.mem_of_getElem? hs1
        have hs2m : r2.1 ∈ cl.map (·.1) := List.mem_of_getElem? hs2
        obtain ⟨x1, ev1, ⟨t1, a1, rfl, ht1, h1⟩, m1⟩ := T5.r1.look hs1m
        obtain ⟨x2, ev2, ⟨t2, a2, rfl, ht2, h2⟩, m2⟩ := T5.r2.look hs2m
        have nx := nextP_ord (p := (r.1, r2.1)) o1 o2 ⟨hs1m, hs2m⟩
        unfold stepW at nx
        dsimp only at nx
        have lt1 : (rowOf bk r.1).2.length ≤ 60 := o1.len2 _ m1
        have n1 : ((rowOf bk r.1).2.map (·.1)).Nodup := o1.tk _ m1
        have bothE : bothW bk cl (r.1, r2.1) = fun ws => ws.map fun w => (w, (goalT (rowOf bk r.1).2 w, goalT (rowOf cl r2.1).2 w)) := rfl
        rw [bothE] at nx
        generalize rowOf bk r.1 = q1 at ht1 h1 nx lt1 n1
        generalize rowOf cl r2.1 = q2 at ht2 h2 nx
        obtain ⟨k1, ts1⟩ := q1
        obtain ⟨k2, ts2⟩ := q2
        dsimp only at ht1 h1 nx lt1 ht2 h2 n1
        unfold TurnsAt at h1 h2
        refine ⟨_, rfl, W1, _, _, _, rfl, rfl, .inl T5.w1, atI_nat (j := 0) rfl, _, rfl, b1, _, rfl, .inl ⟨kvs1, .inr r.1, T5.d1, rfl, ev1.symm⟩, ?_⟩
        refine ⟨_, rfl, W2, _, _, _, rfl, rfl, .inl T5.w2, atI_nat (j := 0) rfl, _, rfl, b2, _, rfl, .inl ⟨kvs2, .inr r2.1, T5.d2, rfl, ev2.symm⟩, by show 2 ≤ sizeLine; decide, fun T0 hT0 => ⟨T0, _, rfl, SqT.of upd_same, rfl, _, _, rfl, _, _, rfl, rfl, ?_⟩⟩
        have g1 := Same.new (o := .tup [.ref t1, .ref t2]) hT0
        generalize L2.upd H6 T0 (.tup [.ref t1, .ref t2]) = H7 at g1
        have ht1 := g1 _ _ ht1
        have ht2 := g1 _ _ ht2
        have h1 := g1 _ _ h1
        have h2 := g1 _ _ h2
        have ek : (kT ts1).map (·.1) = (ts1.map (·.1)).map Sum.inr := by rw [kT, List.map_map, List.map_map]; rfl
        refine ⟨_, rfl, t1, _, _, _, rfl, rfl, SqT.of ht1, atI_nat (j := 1) rfl, a1, kT ts1, ts1.map (·.1), rfl, .inl h1, ek, by rw [List.length_map]; omega, fun ys q pm so hq => ?_⟩
        have ey : ys = srt (ts1.map (·.1)) := srt_of pm so
        subst ey
        have ly : (srt (ts1.map (·.1))).length ≤ 60 := by rw [(srt_perm _).length_eq, List.length_map]; exact lt1
        have ymem : ∀ y ∈ srt (ts1.map (·.1)), y ∈ ts1.map (·.1) := fun y hy => (srt_perm _).mem_iff.mp hy
        have ynd : (srt (ts1.map (·.1))).Nodup := (srt_perm _).nodup_iff.mpr n1
        generalize srt (ts1.map (·.1)) = ys at nx hq ly ymem ynd
        have g8 := Same.new (o := .lst (ys.map V.str)) hq
        have hq8 : SL (L2.upd H7 q (.lst (ys.map V.str))) q ys := upd_same
        generalize L2.upd H7 q (.lst (ys.map V.str)) = H8 at g8 hq8
        have ht1 := g8 _ _ ht1
        have ht2 := g8 _ _ ht2
        have h1 := g8 _ _ h1
        have h2 := g8 _ _ h2
        refine ⟨q, rfl, ⟨_, hq8.sq⟩, fun M hM => ?_⟩
        refine lc_list (K := K) (a := q) (xs := ys.map V.str) (fun j H' => Same H8 H' ∧ SL H' M ((ys.take j).filter fun w => decide (w ∈ ts2.map (·.1)) && decide (k1 = k2))) ⟨Same.new hM, upd_same⟩ (fun j H' _ z => (hq8.same z.1).sq) ?_ ?_
        · rintro j x H9 hx0 ⟨sm, hM9⟩
          obtain ⟨y, hyj, rfl⟩ := get_map hx0
          have ll : ((ys.take j).filter fun w => decide (w ∈ ts2.map (·.1)) && decide (k1 = k2)).length ≤ 60 := by
            have := List.length_filter_le (fun w => decide (w ∈ ts2.map (·.1)) && decide (k1 = k2)) (ys.take j)
            rw [List.length_take] at this
            omega
          refine ⟨rfl, y, t1, t2, a2, k1, k2, _, ts2, rfl, rfl, rfl, sm _ _ ht1, sm _ _ ht2, sm _ _ h2, ?_⟩
          cases c : (decide (y ∈ ts2.map (·.1)) && decide (k1 = k2)) with
          | true =>
            rw [filt_yes hyj c]
            refine iteT ⟨_, rfl, _, hM9, by rw [List.length_map, sizeLine_eq]; omega, fun c0 u e => ?_, by rw [SL, upd_same, List.map_append]; rfl⟩
            rw [upd_ne (ne_of_none e hM)]; exact sm _ _ e
          | false =>
            rw [filt_no hyj c]
            exact iteF ⟨sm, hM9⟩
        rintro H9 ⟨s9, hM9⟩
        rw [List.length_map, List.take_length] at hM9
        have zmem : ∀ z ∈ ys.filter (fun w => decide (w ∈ ts2.map (·.1)) && decide (k1 = k2)), z ∈ ts1.map (·.1) ∧ z ∈ ts2.map (·.1) := fun z hz => by
          obtain ⟨hy, hd⟩ := List.mem_filter.mp hz
          rw [Bool.and_eq_true] at hd
          exact ⟨ymem z hy, of_decide_eq_true hd.1⟩
        have znd : (ys.filter (fun w => decide (w ∈ ts2.map (·.1)) && decide (k1 = k2))).Nodup := ynd.sublist List.filter_sublist
        have lz : (ys.filter (fun w => decide (w ∈ ts2.map (·.1)) && decide (k1 = k2))).length ≤ 60 := Nat.le_trans (List.length_filter_le _ _) ly
        generalize ys.filter (fun w => decide (w ∈ ts2.map (·.1)) && decide (k1 = k2)) = zs at nx hM9 zmem znd lz
        have ht1 := s9 _ _ ht1
        have ht2 := s9 _ _ ht2
        have h1 := s9 _ _ h1
        have h2 := s9 _ _ h2
        refine ⟨_, rfl, M, rfl, ⟨_, hM9.sq⟩, fun D hD => ?_⟩
        refine lc_list (K := K) (a := M) (xs := zs.map V.str) (fun j H' => Same H9 H' ∧ ∃ (qs : List Addr) (kv2 : List (Key × V)), H' D = some (.lst (qs.map V.ref)) ∧ Paired (fun a (kv : Key × V) => (cut [D] H') a = some (.tup [kV kv.1, kv.2])) qs kv2 ∧ PRows (cut [D] H') kv2 ((zs.take j).map fun w => (w, (goalT ts1 w, goalT ts2 w)))) ⟨Same.new hD, [], [], upd_same, .nil, .nil⟩ (fun j H' _ z => (hM9.same z.1).sq) ?_ ?_
        · rintro j v H10 hx0 ⟨sm, qs, kv2, hD5, hpr, hpP⟩
          obtain ⟨x, hxj, rfl⟩ := get_map hx0
          obtain ⟨xm1, xm2⟩ := zmem x (List.mem_of_getElem? hxj)
          refine ⟨rfl, ?_⟩
          dsimp only [tYes]
          rw [if_pos rfl]
          refine ⟨_, rfl, _, rfl, t1, _, _, _, rfl, rfl, SqT.of (sm _ _ ht1), atI_nat (j := 1) rfl, _, rfl, a1, _, rfl, .inl ⟨kT ts1, .inr x, .inl (sm _ _ h1), rfl, (valV_goal xm1).symm⟩, _, rfl, t2, _, _, _, rfl, rfl, SqT.of (sm _ _ ht2), atI_nat (j := 1) rfl, _, rfl, a2, _, rfl, .inl ⟨kT ts2, .inr x, .inl (sm _ _ h2), rfl, (valV_goal xm2).symm⟩, by show 2 ≤ sizeLine; decide, fun Z1 hZ1 => ⟨by show 2 ≤ sizeLine; decide, fun Z2 hZ2 => ?_⟩⟩
          have gg := Same.new (o := .tup [.str (goalT ts1 x), .str (goalT ts2 x)]) hZ1
          have ee : (L2.upd H10 Z1 (.tup [.str (goalT ts1 x), .str (goalT ts2 x)])) Z1 = some (.tup [.str (goalT ts1 x), .str (goalT ts2 x)]) := upd_same
          have nZ1 : Z1 ≠ D := fun e => by rw [e, hD5] at hZ1; cases hZ1
          generalize L2.upd H10 Z1 (.tup [.str (goalT ts1 x), .str (goalT ts2 x)]) = H11 at gg ee hZ2
          have g2 := Same.new (o := .tup [.str x, .ref Z1]) hZ2
          have e2 : (L2.upd H11 Z2 (.tup [.str x, .ref Z1])) Z2 = some (.tup [.str x, .ref Z1]) := upd_same
          have nZ2 : Z2 ≠ D := fun e => by rw [e, gg _ _ hD5] at hZ2; cases hZ2
          generalize L2.upd H11 Z2 (.tup [.str x, .ref Z1]) = H12 at g2 e2
          have g3 := Same.trans gg g2
          have lqs : qs.length ≤ 60 := by rw [paired_len hpr, hpP.len, List.length_map, List.length_take]; omega
          refine ⟨_, g3 _ _ hD5, by rw [List.length_map, sizeLine_eq]; omega, fun c u e => ?_, qs ++ [Z2], kv2 ++ [((Sum.inr x, .ref Z1) : Key × V)], by rw [upd_same, List.map_append]; rfl, ?_, ?_⟩
          · rw [upd_ne (ne_of_none e hD)]; exact g3 _ _ (sm _ _ e)
          · rw [cut_upd (by simp)]
            exact pair_app (paired_imp (fun p kv e => cut_same g3 _ _ e) hpr) (by rw [cut_out (by simpa using nZ2)]; exact e2)
          · rw [cut_upd (by simp), take_succ_get hxj, List.map_append]
            exact pair_app (hpP.same (cut_same g3)) ⟨rfl, Z1, rfl, by rw [PAt, cut_out (by simpa using nZ1)]; exact g2 _ _ ee⟩
        rintro H10 ⟨s10, qs, kv2, hD10, hpr, hpP⟩
        rw [List.length_map, List.take_length] at hpP
        refine ⟨D, qs, kv2, rfl, SqL.of hD10, paired_imp (fun p kv e => SqT.of (cut_le _ _ e)) hpr, fun R hR => ?_⟩
        rw [merge_id2 (by
          rw [hpP.keys, List.map_map]
          have := inr_nd' znd
          exact this)]
        have hpP := hpP.same cut_le
        rw [← nx] at hpP
        have gR := Same.new (o := .dK kv2) hR
        have eR : (L2.upd H10 R (.dK kv2)) R = some (.dK kv2) := upd_same
        have s68 : Same H6 H10 := Same.trans g1 (Same.trans g8 (Same.trans s9 s10))
        have nR : H6 R = none := s68.free hR
        have hR11 : PTAt (L2.upd H10 R (.dK kv2)) R (nextP (ordB bk) (ordB cl) (r.1, r2.1)) := ⟨kv2, eR, hpP.same gR⟩
        generalize L2.upd H10 R (.dK kv2) = H8' at gR hR11
        have s8 : Same H6 H8' := Same.trans s68 gR
        have hR := hR11
        refine ⟨_, rfl, _, rfl, _, rfl, by show 2 ≤ sizeLine; decide, fun T2 hT2 => ?_⟩
        have g2 := Same.new (o := .tup [.str r.1, kV (Sum.inr r2.1)]) hT2
        have eT2 : (L2.upd H8' T2 (.tup [.str r.1, kV (Sum.inr r2.1)])) T2 = some (.tup ((kP (r.1, r2.1)).map kV)) := upd_same
        have hR9 := hR.same g2
        generalize L2.upd H8' T2 (.tup [.str r.1, kV (Sum.inr r2.1)]) = H9 at g2 eT2 hR9
        have s69 := Same.trans s8 g2
        have hS9 := s69 _ _ hS5
        have lkv : kvs.length ≤ 3660 := by
          rw [QRows.len hQ5.q, List.length_append, pairsT_len]; simp only [List.length_map, List.length_take]
          have : min i bk.length * cl.length ≤ 60 * 60 := Nat.mul_le_mul (by omega) l2
          omega
        refine ⟨S, _, rfl, DPut.t (k := kP (r.1, r2.1)) hS9 eT2 (by rw [sizeLine_eq]; omega), ?_⟩
        have fresh : (r.1, r2.1) ∉ pairsT ((bk.map (·.1)).take i) (cl.map (·.1)) ++ ((cl.map (·.1)).take j).map fun t => (r.1, t) := fun m => by
          rcases List.mem_append.mp m with m | m
          · exact nd_take o1.nd hs1 (mem_pairsT.mp m).1
          · obtain ⟨t, ht, e⟩ := List.mem_map.mp m
            have e : t = r2.1 := (Prod.ext_iff.mp e).2
            exact nd_take o2.nd hs2 (e ▸ ht)
        rw [L2.putK_new _ (valT_none fresh hQ5.q.keys)]
        refine ⟨_, _, _, _, _, rfl, ?_, upd_same, ?_⟩
        · rw [cut_upd (by simp)]; exact Same.trans s5 (cut_same s69)
        · rw [cut_upd (by simp), take_succ_get hs2, List.map_append, ← List.append_assoc]
          have nRS : R ≠ S := fun e => by rw [e, hS5] at nR; cases nR
          refine paired_snoc (hQ5.same (cut_same s69)) ⟨rfl, R, rfl, ?_, ptat_cut hR9 fun q hq => by rw [List.mem_singleton.mp hq]; exact .inl ⟨_, hS9⟩⟩
          have n6 := nR
          exact Classical.byContradiction fun h => kn_same (Same.trans s5 cut_le) (kn2 R h) n6
      · rintro σ H5 ⟨v4, v5, v6, v7, kvs, rfl, s5, hS5, hQ5⟩
        have fd := cut_le _ _ (s5 _ _ frd)
        rw [eL2, ← List.length_map (·.1), List.take_length, ← pairsT_snoc, ← take_succ_get hs1] at hQ5
        refine ⟨fd, _, _, _, _, _, kvs, rfl, Same.trans s3 (un2 _ s5), by rw [upd_ne nSd]; exact hS5, hQ5.upd oldd fun xs e => by rw [fd] at e; cases e⟩
    · rintro σ H2 ⟨v3, v4, v5, v6, v7, kvs, rfl, s2, hS2, hQ2⟩
      have f1 := cut_le _ _ (s2 _ _ fr1)
      rw [eL1, ← List.length_map (·.1), List.take_length] at hQ2
      refine ⟨f1, _, rfl, ?_⟩
      have nb0 : H b1 ≠ none := by rw [hb1]; exact fun e => by cases e
      refine k _ S (Same.trans (un1 _ s2) cut_le) hS ⟨kvs, by rw [upd_ne nS1]; exact hS2, ?_⟩
      exact (hQ2.upd nb0 fun xs e => by rw [f1] at e; cases e).q.same cut_le
end
end D1
end L2
/-! the law's _law_least_to: how far it is from the first pair -/
namespace L2
namespace D1
open PySem PySem.Spec PyProof.Rows D2 X5 X6
theorem Wn.snoc {nx : Pr → List (Str × Pr)} {x p : Pr} {n : Nat} (w : Wn nx x n p) {t : Str × Pr} (ht : t ∈ nx x) : Wn nx t.2 (n + 1) p := by
  induction w with
  | zero => exact .succ ht .zero
  | succ h _ ih => exact .succ h ih
theorem Wn.last {nx : Pr → List (Str × Pr)} {y : Pr} : ∀ {n : Nat} {p : Pr}, Wn nx y (n + 1) p → ∃ x, Wn nx x n p ∧ ∃ t ∈ nx x, t.2 = y
  | 0, p, .succ (t := t) ht w => by
    cases w with
    | zero => exact ⟨p, .zero, t, ht, rfl⟩
  | n + 1, p, .succ ht w => by
    obtain ⟨x, wx, r⟩ := Wn.last w
    exact ⟨x, .succ ht wx, r⟩
theorem Wn.rn {nx : Pr → List (Str × Pr)} {x p : Pr} {n : Nat} (w : Wn nx x n p) : Rn nx p x := by
  induction n generalizing x with
  | zero => cases w; exact .here
  | succ n ih =>
    obtain ⟨y, wy, t, ht, rfl⟩ := w.last
    exact .next (ih wy) ht
theorem rn_wn {nx : Pr → List (Str × Pr)} {x p : Pr} (r : Rn nx p x) : ∃ n, Wn nx x n p := by
  induction r with
  | here => exact ⟨0, .zero⟩
  | next _ ht ih => obtain ⟨n, w⟩ := ih; exact ⟨n + 1, w.snoc ht⟩
theorem rn_isD {nx : Pr → List (Str × Pr)} {x p : Pr} : (∃ n, IsD nx x p n) ↔ Rn nx p x := by
  constructor
  · rintro ⟨n, d⟩; exact d.1.rn
  · intro r
    obtain ⟨n, w⟩ := rn_wn r
    obtain ⟨m, _, d⟩ := least_of w
    exact ⟨m, d⟩
def gK (g : Pr → Nat) (ks : List Pr) : List (List Key × V) := ks.map fun x => (kP x, .int (g x))
theorem gK_keys (g : Pr → Nat) (ks : List Pr) : (gK g ks).map (·.1) = ks.map kP := by rw [gK, List.map_map]; rfl
theorem gK_val {g : Pr → Nat} : ∀ {ks : List Pr} {x : Pr}, x ∈ ks → valV (gK g ks) (kP x) = some (.int (g x))
  | [], _, h => by cases h
  | y :: r, x, h => by
    by_cases c : y = x
    · subst c; exact valV_pos rfl
    · show valV ((kP y, V.int (g y)) :: gK g r) (kP x) = _
      rw [valV_neg (fun e => c (kP_inj e))]
      exact gK_val ((List.mem_cons.mp h).resolve_left fun e => c e.symm)
theorem gK_some (g : Pr → Nat) (ks : List Pr) (x : Pr) : (valV (gK g ks) (kP x)).isSome = decide (x ∈ ks) := by
  by_cases h : x ∈ ks
  · rw [gK_val h, decide_eq_true h]; rfl
  · rw [valT_none h (gK_keys g ks), decide_eq_false h]; rfl
theorem gK_put {g : Pr → Nat} {ks : List Pr} {x : Pr} (h : x ∉ ks) : putK (gK g ks) (kP x) (.int (g x)) = gK g (ks ++ [x]) := by
  rw [L2.putK_new _ (valT_none h (gK_keys g ks)), gK, gK, List.map_append]; rfl
structure LvF (nx : Pr → List (Str × Pr)) (p : Pr) (r : Nat) (ks ls : List Pr) : Prop where
  nd : ks.Nodup
  kd : ∀ x, x ∈ ks ↔ ∃ n, n ≤ r ∧ IsD nx x p n
  ld : ∀ x, x ∈ ls ↔ IsD nx x p r
  lnd : ls.Nodup
structure LjF (nx : Pr → List (Str × Pr)) (p : Pr) (r : Nat) (ks0 done : List Pr) (es : List (Str × Pr)) (ks cs : List Pr) : Prop where
  nd : ks.Nodup
  old : ∀ x ∈ ks0, x ∈ ks
  new : ∀ x ∈ ks, x ∈ ks0 ∨ x ∈ cs
  cd : ∀ x ∈ cs, x ∈ ks ∧ IsD nx x p (r + 1)
  pr : ∀ y ∈ done, ∀ t ∈ nx y, t.2 ∈ ks
  pe : ∀ t ∈ es, t.2 ∈ ks
  cnd : cs.Nodup
section
variable {nx : Pr → List (Str × Pr)} {p : Pr} {r : Nat} {ks0 ls done ks cs : List Pr} {es : List (Str × Pr)}
theorem LvF.begin : LvF nx p 0 [p] [p] := by
  refine ⟨List.nodup_cons.mpr ⟨by simp, List.nodup_nil⟩, fun x => ?_, fun x => ?_, List.nodup_cons.mpr ⟨by simp, List.nodup_nil⟩⟩
  · rw [List.mem_singleton]
    constructor
    · rintro rfl; exact ⟨0, Nat.le_refl _, isD_zero.mpr rfl⟩
    · rintro ⟨n, hn, d⟩
      obtain rfl : n = 0 := by omega
      exact (isD_zero.mp d).symm
  · rw [List.mem_singleton, isD_zero]; exact eq_comm
theorem LvF.enter (b : LvF nx p r ks ls) : LjF nx p r ks [] [] ks [] :=
  ⟨b.nd, fun _ h => h, fun _ h => .inl h, (fun _ h => by cases h), (fun _ h => by cases h), (fun _ h => by cases h), List.nodup_nil⟩
theorem LjF.find (b : LjF nx p r ks0 done es ks cs) (b0 : LvF nx p r ks0 ls) {y : Pr} (hy : IsD nx y p r) {t : Str × Pr} (ht : t ∈ nx y) (n : t.2 ∉ ks) :
    IsD nx t.2 p (r + 1) ∧ LjF nx p r ks0 done (es ++ [t]) (ks ++ [t.2]) (cs ++ [t.2]) := by
  have d : IsD nx t.2 p (r + 1) := by
    refine ⟨hy.1.snoc ht, fun m hm w => ?_⟩
    obtain ⟨k, hk, d⟩ := least_of w
    exact n (b.old _ ((b0.kd _).mpr ⟨k, by omega, d⟩))
  refine ⟨d, nodup_app b.nd n, fun x hx => List.mem_append_left _ (b.old x hx), ?_, ?_, fun y hy t' ht' => List.mem_append_left _ (b.pr y hy t' ht'), ?_, nodup_app b.cnd fun m => n (b.cd _ m).1⟩
  · intro x hx
    rcases List.mem_append.mp hx with z | z
    · exact (b.new x z).elim .inl fun q => .inr (List.mem_append_left _ q)
    · exact .inr (List.mem_append_right _ z)
  · intro x hx
    rcases List.mem_append.mp hx with z | z
    · exact ⟨List.mem_append_left _ (b.cd x z).1, (b.cd x z).2⟩
    · rw [List.mem_singleton.mp z]; exact ⟨List.mem_append_right _ (List.mem_singleton.mpr rfl), d⟩
  · intro x hx
    rcases List.mem_append.mp hx with z | z
    · exact List.mem_append_left _ (b.pe x z)
    · rw [List.mem_singleton.mp z]; exact List.mem_append_right _ (List.mem_singleton.mpr rfl)
theorem LjF.skip (b : LjF nx p r ks0 done es ks cs) {t : Str × Pr} (h : t.2 ∈ ks) : LjF nx p r ks0 done (es ++ [t]) ks cs :=
  { b with pe := fun x hx => (List.mem_append.mp hx).elim (b.pe x) fun z => (List.mem_singleton.mp z) ▸ h }
theorem LjF.turn {y : Pr} (b : LjF nx p r ks0 done (nx y) ks cs) : LjF nx p r ks0 (done ++ [y]) [] ks cs :=
  { b with
    pr := fun x hx t ht => by
      rcases List.mem_append.mp hx with z | z
      · exact b.pr x z t ht
      · rw [List.mem_singleton.mp z] at ht; exact b.pe t ht
    pe := fun _ h => by cases h }
theorem LjF.leave (b0 : LvF nx p r ks0 ls) (b : LjF nx p r ks0 ls [] ks cs) : LvF nx p (r + 1) ks cs := by
  have far : ∀ x, IsD nx x p (r + 1) → x ∈ ks := fun x d => by
    obtain ⟨y, wy, t, ht, rfl⟩ := d.1.last
    exact b.pr y ((b0.ld y).mpr ⟨wy, fun m hm w => d.2 (m + 1) (by omega) (w.snoc ht)⟩) t ht
  refine ⟨b.nd, fun x => ⟨fun h => ?_, ?_⟩, fun x => ⟨fun h => (b.cd x h).2, fun d => ?_⟩, b.cnd⟩
  · rcases b.new x h with z | z
    · obtain ⟨n, hn, d⟩ := (b0.kd x).mp z
      exact ⟨n, by omega, d⟩
    · exact ⟨r + 1, Nat.le_refl _, (b.cd x z).2⟩
  · rintro ⟨n, hn, d⟩
    by_cases c : n = r + 1
    · exact far x (c ▸ d)
    · exact b.old _ ((b0.kd x).mpr ⟨n, by omega, d⟩)
  · rcases b.new x (far x d) with z | z
    · obtain ⟨n, hn, d'⟩ := (b0.kd x).mp z
      have := d.uniq d'
      omega
    · exact z
end
/-- how far it is from p to x -/
noncomputable def forP (nx : Pr → List (Str × Pr)) (p x : Pr) : Nat := farV nx x p
def spLeast : Sp := fun vs H Q _ => ∃ (G z : Addr) (nx : Pr → List (Str × Pr)) (ns : List Pr) (p : Pr), vs = [.ref G, .ref z] ∧ QrAt H G nx ns ∧ GOk nx ns ∧ PAt H z p ∧ p ∈ ns ∧
  ∀ H' M ks, Same H H' → H M = none → H' M = some (.dT (gK (forP nx p) ks)) → ks.Nodup → (∀ x, x ∈ ks ↔ ∃ n, IsD nx x p n) → Q (.ref M) H'
theorem GOk.rn {nx : Pr → List (Str × Pr)} {ns : List Pr} (g : GOk nx ns) {p x : Pr} (hp : p ∈ ns) (r : Rn nx p x) : x ∈ ns := by
  induction r with
  | here => exact hp
  | next _ ht ih => exact g.cl _ ih _ ht
section
variable {P : Program} {w : World} {K : PySem.W.Frag} {mg : Str → Option Value} {base : Heap}
abbrev llN : List Str := ["_law_steps", "_law_first", "_law_least", "_law_layer", "_law_turn", "_law_later", "_law_pair", "_law_word_here", "_law_goal"]
end
end D1
end L2
/-! the law's _law_least_unfit -/
namespace L2
namespace D1
open PySem PySem.Spec PyProof.Rows D2 X5 X6
abbrev sLeastU : Stmt := top 67
theorem Room.u65 {k : Nat} {A : Around} (r : Room k A) : A.units + 65 < cLine := by have := r.un; omega
theorem wnE_iff {nx : Pr → List (Str × Pr)} {q : Pr → Prop} : ∀ {n : Nat} {p : Pr}, WnE nx q n p ↔ ∃ x, Wn nx x n p ∧ q x
  | 0, p => ⟨fun h => by cases h with | zero h => exact ⟨p, .zero, h⟩, fun ⟨x, w, h⟩ => by cases w; exact .zero h⟩
  | n + 1, p => ⟨fun h => by
      cases h with
      | succ ht w => obtain ⟨x, wx, hx⟩ := (wnE_iff (n := n)).mp w; exact ⟨x, .succ ht wx, hx⟩, fun ⟨x, w, h⟩ => by
      cases w with
      | succ ht w => exact .succ ht ((wnE_iff (n := n)).mpr ⟨x, w, h⟩)⟩
theorem count_len {c : Nat} : ∀ (ns l : List Pr), (∀ x ∈ l, x ∈ ns) → (∀ x, l.count x ≤ c) → l.length ≤ c * ns.length
  | [], l, h, _ => by
    cases l with
    | nil => simp
    | cons x r => exact absurd (h x (by simp)) (by simp)
  | n :: ns, l, h, hc => by
    have e : l.length = (l.filter (· == n)).length + (l.filter (fun x => !(x == n))).length := by
      rw [← List.length_append]
      exact (List.filter_append_perm (· == n) l).length_eq.symm
    have h1 : (l.filter (· == n)).length ≤ c := by rw [← List.count_eq_length_filter]; exact hc n
    have h2 := count_len (c := c) ns (l.filter (fun x => !(x == n))) (fun x hx => by
      obtain ⟨a, b⟩ := List.mem_filter.mp hx
      rcases List.mem_cons.mp (h x a) with z | z
      · rw [z] at b; simp at b
      · exact z) (fun x => Nat.le_trans (List.filter_sublist.count_le _) (hc x))
    rw [List.length_cons, Nat.mul_add, Nat.mul_one]
    omega
theorem inP_wd {bk cl : Bk} (b : BB bk cl) {q : Pr} (h : InP bk cl q) : Wd q.1 ∧ Wd q.2 := by
  obtain ⟨r, hr, e⟩ := List.mem_map.mp h.1
  obtain ⟨u, hu, e2⟩ := List.mem_map.mp h.2
  rw [← e, ← e2]
  exact ⟨(b.w1.rs r hr).1, (b.w2.rs u hu).1⟩
theorem any_map {α : Type} (f : α → Bool) (l : List α) : ((l.map f).any id) = l.any f := by
  induction l with
  | nil => rfl
  | cons x r ih => rw [List.map_cons, List.any_cons, List.any_cons, ih]; rfl
theorem any_pr (es : List Pr) (q : Pr) : ((es.map fun p : Str × Str => PyData.tuple [.str p.1, .str p.2]).any fun z => PyData.eqv z (.tuple [.str q.1, .str q.2])) = decide (q ∈ es) := by
  induction es with
  | nil => rfl
  | cons x r ih =>
    rw [List.map_cons, List.any_cons, ih, eqv_pr]
    by_cases c : x = q
    · rw [decide_eq_true c, Bool.true_or, decide_eq_true (by rw [c]; exact List.mem_cons_self)]
    · rw [decide_eq_false c, Bool.false_or]
      exact decide_eq_decide.mpr ⟨List.mem_cons_of_mem _, fun h => (List.mem_cons.mp h).resolve_left fun e => c e.symm⟩
/-- a number or none -/
def optI : Option Nat → V
  | none => .non
  | some n => .int (n : Int)
def spLeastU : Sp := fun vs H Q _ => ∃ (W1 W2 : Addr) (bk cl : Bk) (st st' : Str), vs = [.ref W1, .ref W2] ∧ WorldAt H W1 bk st ∧ WorldAt H W2 cl st' ∧ DOk bk st ∧ DOk cl st' ∧
  ∀ H', Same H H' → Q (optI (farPE (nextP (ordB bk) (ordB cl)) (NoP (ordB bk) (ordB cl)) (st, st'))) H'
def tUnf : TE := fun σ H Q => ∃ (W1 W2 z : Addr) (bk cl : Bk) (st st' : Str) (p : Pr), σ[0]? = some (some (.ref W1)) ∧ σ[1]? = some (some (.ref W2)) ∧ σ[5]? = some (some (.ref z)) ∧ WorldAt H W1 bk st ∧ WorldAt H W2 cl st' ∧ DOk bk st ∧ DOk cl st' ∧ PAt H z p ∧ InP bk cl p ∧ ∀ H', Same H H' → Q (.bl (noB (ordB bk) (ordB cl) p)) H'
def tNl : TT := fun σ H Q => ∃ (S y R Lg zq : Addr) (q : Pr) (w : Str) (gs : List Addr) (es : List Pr), σ[2]? = some (some (.ref S)) ∧ σ[5]? = some (some (.ref y)) ∧ σ[7]? = some (some (.str w)) ∧ σ[6]? = some (some (.ref Lg)) ∧ DGet H S (.ref y) (some (.ref R)) ∧ DGet H R (.str w) (some (.ref zq)) ∧ PAt H zq q ∧ (Wd q.1 ∧ Wd q.2) ∧ H Lg = some (.lst (gs.map V.ref)) ∧ PL H gs es ∧ (∀ e ∈ es, Wd e.1 ∧ Wd e.2) ∧ Q (!decide (q ∈ es)) H
section
variable {P : Program} {w : World} {K : PySem.W.Frag} {mg : Str → Option Value} {base : Heap}
abbrev CLFits (P : Program) (w : World) (K : PySem.W.Frag) (mg : Str → Option Value) (base : Heap) := Cal P w K mg base "_law_fits" 1 ["_law_elder", "_law_newer_here", "_law_pair"] spLFits
abbrev CPlain (P : Program) (w : World) (K : PySem.W.Frag) (mg : Str → Option Value) (base : Heap) := Cal P w K mg base "_law_plain_steps" 1 ["_law_elder", "_law_newer_here"] spLAll
abbrev luN : List Str := ["_law_elder", "_law_newer_here", "_law_steps", "_law_layer", "_law_turn", "_law_pair", "_law_longer", "_law_word_here"]
theorem scLu : FnScope luN ["_law_elder", "_law_newer_here"] (defScope sLeastU) := ⟨rfl, rfl, rfl, by decide +kernel, rfl, by decide +kernel, by decide +kernel⟩
theorem ok_leastu {f : Addr} {fd : FuncData} (F : Fun K "_law_least_unfit" "_law_least_unfit" sLeastU f fd) (T : Free4 mg) (CP : CPlain P w K mg base) (CF : CLFits P w K mg base) : FnOk P w K mg base CX0 2 f fd ["_law_elder", "_law_newer_here"] spLeastU := by
  refine F.ok scLu (fun vs H Q E h => ?_) (fun cdv A outer s H vs Q E0' hr h => ?_)
  · obtain ⟨W1, W2, bk, cl, st, st', rfl, _⟩ := h; rfl
  · obtain ⟨W1, W2, bk, cl, st, st', rfl, hw1, hw2, o1, o2, k⟩ := h
    have hu := hu_of hr
    refine ⟨_, pss_cons (ps_asg (pe_tup (pa_cons (pe_cal CP (hr.mono (by decide)) rfl (pa_cons (pv 0) (pa_cons (pv 1) pa_nil))) (pa_cons (pe_lst (pa_cons (pe_tup (pa_cons (pe_ix ix_list (pv 0) pe_int (fun _ _ => rfl)) (pa_cons (pe_ix ix_list (pv 1) pe_int (fun _ _ => rfl)) pa_nil))) pa_nil)) pa_nil))) (pg_tup rfl (pgs_cons (pg_name (i := 2) scLu.nd rfl (Or.inr rfl)) (pgs_cons (pg_name (i := 3) scLu.nd rfl (Or.inl rfl)) pgs_nil))))
      (pss_cons (ps_for PassesOwn.never rfl (pi_range1 rfl T.range (pa_cons (pe_callB call_len_dT (by rfl) T.len PySem.boot_len (pa_cons (pv 2) pa_nil)) pa_nil)) (pg_name (i := 4) scLu.nd rfl (Or.inl rfl))
        (pss_cons (ps_if (pt_val (pe_callB (cr_any rfl) (by rfl) T.any (by decide +kernel) (pa_cons (pe_lc (own := [("_law_pair", 5)]) (g := gName 5) (tt := tYes) (te := tUnf) rfl scLu.nd (pi_list (pv 3))
            (blkOk_by (N := luN) (sc := defScope sLeastU) (by decide +kernel)) (fun _ _ _ _ _ => pg_name (i := 5) scLu.nd rfl (Or.inl rfl)) (fun _ _ _ _ _ => pts_nil)
            (fun _ _ _ _ _ => pe_imp (t' := tUnf) (pe_not (pe_cal CF (hr.mono (by decide)) rfl (pa_cons (pv 0) (pa_cons (pv 1) (pa_cons (pv 5) pa_nil))))) (by
              rintro σ H Q ⟨W1, W2, z, bk, cl, st, st', p, e0, e1, e5, h1, h2, o1, o2, hz, hp, k⟩
              exact ⟨_, e0, _, e1, _, e5, W1, W2, z, bk, cl, st, st', p, rfl, h1, h2, o1, o2, hz, hp, fun H' s => ⟨_, rfl, by have := k H' s; unfold noB at this; rw [fitP_ord o1 o2 hp] at this; exact this⟩⟩))) pa_nil))) (pss_one (ps_ret (pv 4))) pss_nil)
        (pss_cons (ps_set (i := 6) scLu.nd rfl (Or.inr rfl) (pe_lst pa_nil))
        (pss_cons (ps_for PassesOwn.never rfl (pi_list (pv 3)) (pg_name (i := 5) scLu.nd rfl (Or.inr rfl))
          (pss_one (ps_set (i := 6) scLu.nd rfl (Or.inr rfl) (pe_op op_cat (pv 6) (pe_lock (pe_lc (own := [("_law_word_here", 7)]) (g := gName 7) (tt := tNl) (te := tDGet (tDGet (tVar 2) (tVar 5)) (tVar 7)) rfl scLu.nd (pi_keys (pe_dget hu (pv 2) (pv 5) (fun _ _ => rfl)))
            (blkOk_by (N := luN) (sc := defScope sLeastU) (by decide +kernel)) (fun _ _ _ _ _ => pg_name (i := 7) scLu.nd rfl (Or.inl rfl))
            (fun _ _ _ _ _ => pts_one (pt_imp (t' := tNl) (pt_cmpR (op_notInD (Room.u65 hr)) (pe_dget hu (pe_dget hu (pv 2) (pv 5) (fun _ _ => rfl)) (pv 7) (fun _ _ => rfl)) (pv 6) (by rfl)) (by
              rintro σ H Q ⟨S, y, R, Lg, zq, q, w, gs, es, e2, e5, e7, e6, d1, d2, hq, wq, hL, hP, we, k⟩
              refine ⟨_, e2, _, e5, S, _, rfl, d1, _, e7, R, _, rfl, d2, _, e6, .tuple [.str q.1, .str q.2], es.map (fun p : Str × Str => PyData.tuple [.str p.1, .str p.2]), .tup (SqT.of hq) (.cons (.str _) (.cons (.str _) .nil)), dp_pairs hL hP, sh_pr wq, sh_pairs we, _, rfl, ?_⟩
              rw [any_pr]; exact k)))
            (fun _ _ _ _ _ => pe_dget hu (pe_dget hu (pv 2) (pv 5) (fun _ _ => rfl)) (pv 7) (fun _ _ => rfl))))))))
        (pss_one (ps_set (i := 3) scLu.nd rfl (Or.inl rfl) (pv 6)))))))
      (pss_one (ps_ret pe_non))), ?_⟩
    have bb := (o1.ord).bb o2.ord
    have ip0 : InP (ordB bk) (ordB cl) (st, st') := inP_ord.mpr ⟨o1.st, o2.st⟩
    have inw : ∀ {x : Pr} {n : Nat}, Wn (nextP (ordB bk) (ordB cl)) x n (st, st') → InP (ordB bk) (ordB cl) x := fun w => w.rn.inP bb ip0
    have mal : ∀ {x : Pr}, InP (ordB bk) (ordB cl) x → x ∈ allP bk cl := fun h => mem_allP (inP_ord.mp h)
    have l36 : (allP bk cl).length ≤ 3600 := len_allP (o1.bb o2)
    have w1' := hw1
    have w2' := hw2
    obtain ⟨b1, hW1, _⟩ := id hw1
    obtain ⟨b2, hW2, _⟩ := id hw2
    refine ⟨_, rfl, _, rfl, W1, W2, bk, cl, st, st', rfl, hw1, hw2, o1, o2, fun H1 S s1 nS hS => ?_⟩
    refine ⟨_, rfl, W1, _, _, _, rfl, rfl, SqL.of (s1 _ _ hW1), atI_nat (j := 1) rfl, _, rfl, W2, _, _, _, rfl, rfl, SqL.of (s1 _ _ hW2), atI_nat (j := 1) rfl, by show 2 ≤ sizeLine; decide, fun Z hZ => ⟨by show 1 ≤ sizeLine; decide, fun Ly hLy => ⟨by show 2 ≤ sizeLine; decide, fun T0 hT0 => ⟨T0, _, rfl, SqT.of upd_same, rfl, _, _, rfl, _, _, rfl, rfl, ?_⟩⟩⟩⟩
    have g2 := Same.new (o := .tup [.str st, .str st']) hZ
    have e2 : PAt (L2.upd H1 Z (.tup [.str st, .str st'])) Z (st, st') := upd_same
    generalize L2.upd H1 Z (.tup [.str st, .str st']) = H2 at g2 e2 hLy hT0
    have g3 := Same.new (o := .lst [.ref Z]) hLy
    have e3 : (L2.upd H2 Ly (.lst [.ref Z])) Ly = some (.lst ([Z].map V.ref)) := upd_same
    generalize L2.upd H2 Ly (.lst [.ref Z]) = H3 at g3 e3 hT0
    have g4 := Same.new (o := .tup [.ref S, .ref Ly]) hT0
    generalize L2.upd H3 T0 (.tup [.ref S, .ref Ly]) = H4 at g4
    have s14 := Same.trans g2 (Same.trans g3 g4)
    have s04 := Same.trans s1 s14
    have hS4 := hS.same s14
    obtain ⟨kvS, hSk, hSR⟩ := id hS4
    have lkS : kvS.length = (allP bk cl).length := hSR.len
    have hw1 := hw1.same s04
    have hw2 := hw2.same s04
    have eL := g4 _ _ e3
    have eZ : PAt H4 Z (st, st') := g4 _ _ (g3 _ _ e2)
    clear e3 e2
    refine ⟨_, rfl, S, kvS, rfl, hSk, _, rfl, by omega, by omega, ?_⟩
    refine for_range (n := kvS.length) (fun i σ H' => ∃ (v4 v5 v6 : Option V) (Ly : Addr) (ys : List Addr) (ls : List Pr), σ = [some (.ref W1), some (.ref W2), some (.ref S), some (.ref Ly), v4, v5, v6, none] ∧ Same H4 H' ∧ H' Ly = some (.lst (ys.map V.ref)) ∧ PL H' ys ls ∧ ls.length ≤ 216000 ∧ (∀ x, x ∈ ls ↔ Wn (nextP (ordB bk) (ordB cl)) x i (st, st')) ∧ ∀ m, m < i → ¬ WnE (nextP (ordB bk) (ordB cl)) (NoP (ordB bk) (ordB cl)) m (st, st'))
      ⟨none, none, none, Ly, [Z], [(st, st')], rfl, Same.refl _, eL, (.cons eZ .nil), (by show 1 ≤ 216000; decide), fun x => by rw [List.mem_singleton]; exact ⟨fun e => by rw [e]; exact .zero, fun w => by cases w; rfl⟩, fun m hm => by omega⟩ ?_ ?_
    · rintro i σ H5 hi ⟨v4, v5, v6, Ly, ys, ls, rfl, s5, hL5, hP5, lls, hW, hno⟩
      have lys : ys.length = ls.length := paired_len hP5
      refine ⟨_, rfl, Ly, rfl, ⟨_, SqL.of hL5⟩, fun D hD => ?_⟩
      refine lc_list (K := K) (a := Ly) (xs := ys.map V.ref) (fun j H' => Same H5 H' ∧ H' D = some (.lst (((ls.take j).map (noB (ordB bk) (ordB cl))).map V.bl))) ⟨Same.new hD, upd_same⟩ (fun j H' _ z => SqL.of (z.1 _ _ hL5)) ?_ ?_
      · rintro j v H6 hx0 ⟨sm, hD6⟩
        obtain ⟨zx, hzx, rfl⟩ := D1.get_map hx0
        obtain ⟨x, hx, hax⟩ := paired_get hP5 hzx
        have ix := inw ((hW x).mp (List.mem_of_getElem? hx))
        have s46 := Same.trans s5 sm
        refine ⟨rfl, ?_⟩
        dsimp only [tYes]
        rw [if_pos rfl]
        refine ⟨W1, W2, zx, bk, cl, st, st', x, rfl, rfl, rfl, hw1.same s46, hw2.same s46, o1, o2, sm _ _ hax, inP_ord.mp ix, fun H7 s7 => ?_⟩
        refine ⟨_, s7 _ _ hD6, by rw [List.length_map, List.length_map, List.length_take, sizeLine_eq]; omega, fun c u e => ?_, by rw [upd_same, take_succ_get hx, List.map_append, List.map_append]; rfl⟩
        rw [upd_ne (ne_of_none e hD)]; exact s7 _ _ (sm _ _ e)
      rintro H6 ⟨s6, hD6⟩
      rw [List.length_map, lys, List.take_length] at hD6
      refine ⟨D, _, rfl, SqL.of hD6, _, rfl, ?_⟩
      rw [any_map]
      have s46 := Same.trans s5 s6
      by_cases c : ls.any (noB (ordB bk) (ordB cl)) = true
      · rw [c]
        refine iteT ⟨_, rfl, ?_⟩
        obtain ⟨x, hx, hq⟩ := List.any_eq_true.mp c
        have := k H6 (Same.trans s04 s46)
        rw [farP_someE.mpr ⟨wnE_iff.mpr ⟨x, (hW x).mp hx, hq⟩, hno⟩] at this
        rw [Int.zero_add]; exact this
      · have cf : ls.any (noB (ordB bk) (ordB cl)) = false := by simpa using c
        rw [cf]
        refine iteF ⟨by show 0 ≤ sizeLine; decide, fun Lg hLg => ?_⟩
        have noi : ¬ WnE (nextP (ordB bk) (ordB cl)) (NoP (ordB bk) (ordB cl)) i (st, st') := fun w => by
          obtain ⟨x, wx, hx⟩ := wnE_iff.mp w
          exact c (List.any_eq_true.mpr ⟨x, (hW x).mpr wx, hx⟩)
        have g7 := Same.new (o := .lst []) hLg
        have e7 : (L2.upd H6 Lg (.lst [])) Lg = some (.lst (([] : List Addr).map V.ref)) := upd_same
        generalize L2.upd H6 Lg (.lst []) = H7 at g7 e7
        have s57 := Same.trans s6 g7
        have s47 := Same.trans s5 s57
        have hL7 := s57 _ _ hL5
        have hP7 := hP5.same s57
        have hSk7 := s47 _ _ hSk
        have hSR7 := hSR.same s47
        refine ⟨_, rfl, Ly, rfl, ⟨_, SqL.of hL7⟩, ?_⟩
        refine for_list (K := K) (a := Ly) (xs := ys.map V.ref) (fun j σ H' => ∃ (v5 : Option V) (Lg : Addr) (gs : List Addr) (es : List Pr), σ = [some (.ref W1), some (.ref W2), some (.ref S), some (.ref Ly), some (.int (0 + (i : Int))), v5, some (.ref Lg), none] ∧ Same H7 H' ∧ H' Lg = some (.lst (gs.map V.ref)) ∧ PL H' gs es ∧ (∀ e, e ∈ es ↔ ∃ x ∈ ls.take j, ∃ t ∈ nextP (ordB bk) (ordB cl) x, t.2 = e) ∧ ∀ q, es.count q ≤ 60)
          ⟨v5, Lg, [], [], rfl, Same.refl _, e7, .nil, fun e => ⟨fun h => (by cases h), fun ⟨x, hx, _⟩ => (by simp at hx)⟩, fun q => (by simp)⟩ (fun j σ H' _ ⟨_, _, _, _, _, z, _⟩ => SqL.of (z _ _ hL7)) ?_ ?_
        · rintro j v σ H8 hv ⟨v5, Lg, gs, es, rfl, s8, hG8, hP8, he, hc⟩
          obtain ⟨zx, hzx, rfl⟩ := D1.get_map hv
          obtain ⟨x, hx, hax⟩ := paired_get hP7 hzx
          have wx := (hW x).mp (List.mem_of_getElem? hx)
          have ix := inw wx
          have hax8 : H8 zx = some (.tup [.str x.1, .str x.2]) := s8 _ _ hax
          have hS8 := s8 _ _ hSk7
          obtain ⟨R, va, kr, hR, pR⟩ := (hSR7.same s8).look (mal ix)
          have esI : ∀ e ∈ es, InP (ordB bk) (ordB cl) e := fun e hm => by
            obtain ⟨y, hy, t, ht, rfl⟩ := (he e).mp hm
            exact nextP_in bb (inw ((hW y).mp (List.mem_of_mem_take hy))) t ht
          have les : es.length ≤ 216000 := by
            have := count_len (c := 60) (allP bk cl) es (fun e hm => mal (esI e hm)) hc
            omega
          have lgs : gs.length = es.length := paired_len hP8
          have lnx := nextP_len bb ix
          have nnx := nextP_nd bb ix
          have hNx : ∀ t ∈ nextP (ordB bk) (ordB cl) x, InP (ordB bk) (ordB cl) t.2 := nextP_in bb ix
          generalize hnx : nextP (ordB bk) (ordB cl) x = nt at pR lnx nnx hNx
          have nSR : S ≠ R := fun e => by rw [e, hR] at hS8; cases hS8
          have nzR : zx ≠ R := fun e => by rw [e, hR] at hax8; cases hax8
          have nLR : Lg ≠ R := fun e => by rw [e, hR] at hG8; cases hG8
          refine ⟨_, rfl, R, _, hR, trivial, fun od => ?_⟩
          have hSL : (L2.upd H8 R (.frz od (.dK kr))) S = some (.dT kvS) := by rw [upd_ne nSR]; exact hS8
          have hzL : (L2.upd H8 R (.frz od (.dK kr))) zx = some (.tup [.str x.1, .str x.2]) := by rw [upd_ne nzR]; exact hax8
          have hGL : (L2.upd H8 R (.frz od (.dK kr))) Lg = some (.lst (gs.map V.ref)) := by rw [upd_ne nLR]; exact hG8
          have hPL : PL (L2.upd H8 R (.frz od (.dK kr))) gs es := paired_imp (fun a p e => by
            have e : H8 a = _ := e
            show (L2.upd H8 R (.frz od (.dK kr))) a = _
            rw [upd_ne fun z => by rw [z, hR] at e; cases e]; exact e) hP8
          have pRL : PRows (L2.upd H8 R (.frz od (.dK kr))) kr nt := paired_imp (fun kv t ⟨e, z, e1, e2⟩ => ⟨e, z, e1, by
            have e2 : H8 z = _ := e2
            show (L2.upd H8 R (.frz od (.dK kr))) z = _
            rw [upd_ne fun q => by rw [q, hR] at e2; cases e2]; exact e2⟩) pR
          have dgS : ∀ {H' : Hp}, Same (L2.upd H8 R (.frz od (.dK kr))) H' → DGet H' S (.ref zx) (some (.ref R)) := fun s => by
            rw [← va]; exact DGet.t (k := kP x) (s _ _ hSL) (s _ _ hzL)
          refine ⟨_, rfl, _, rfl, S, _, rfl, dgS (Same.refl _), R, od, rfl, .inl ⟨kr, upd_same, fun D hD => ?_⟩⟩
          have nDR : D ≠ R := fun e => by rw [e, upd_same] at hD; cases hD
          refine lc_it (walk_keys (d := R) (o := od) (kvs := kr)) (fun m H' => Same (L2.upd H8 R (.frz od (.dK kr))) H' ∧ ∃ ds : List Addr, H' D = some (.lst (ds.map V.ref)) ∧ PL (cut [D] H') ds (((nt.take m).map (·.2)).filter fun q => !decide (q ∈ es))) ⟨Same.new hD, [], upd_same, .nil⟩ (fun m H' _ z => z.1 _ _ upd_same) ?_ ?_
          · rintro m v H9 H10 hm ⟨sm, ds, hD9, hp9⟩ ⟨rfl, kk, v0, hkv, rfl⟩
            obtain ⟨t, ht, ek, u, eu, hu1⟩ := paired_get pRL hkv
            have ek : kk = Sum.inr t.1 := ek
            have eu : v0 = .ref u := eu
            subst ek eu
            have ev : valV kr (.inr t.1) = some (.ref u) := val_at (by rw [pR.keys]; have := inr_nd' nnx; rw [List.map_map] at this; exact this) hkv
            have hu9 : PAt H10 u t.2 := sm _ _ hu1
            have dgR : DGet H10 R (.str t.1) (some (.ref u)) := .inl ⟨kr, .inr t.1, .inr ⟨od, sm _ _ upd_same⟩, rfl, ev.symm⟩
            have nuD : u ≠ D := fun e => by have hu9 : H10 u = _ := hu9; rw [e, hD9] at hu9; cases hu9
            have lds : ds.length ≤ 60 := by
              rw [paired_len hp9]
              have := List.length_filter_le (fun q => !decide (q ∈ es)) ((nt.take m).map (·.2))
              rw [List.length_map, List.length_take] at this
              omega
            have hm2 : (nt.map (·.2))[m]? = some t.2 := by rw [List.getElem?_map, ht]; rfl
            refine ⟨rfl, S, zx, R, Lg, u, t.2, t.1, gs, es, rfl, rfl, rfl, rfl, dgS sm, dgR, hu9, inP_wd bb (hNx t (List.mem_of_getElem? ht)), sm _ _ hGL, hPL.same sm, fun e h => inP_wd bb (esI e h), ?_⟩
            rw [take_succ_get ht, List.map_append, List.filter_append]
            cases c : (!decide (t.2 ∈ es)) with
            | true =>
              refine iteT ⟨_, rfl, _, rfl, S, _, rfl, dgS sm, _, rfl, R, _, rfl, dgR, _, hD9, by rw [List.length_map, sizeLine_eq]; omega, fun c0 w e => ?_, ds ++ [u], by rw [upd_same, List.map_append]; rfl, ?_⟩
              · rw [upd_ne (ne_of_none e hD)]; exact sm _ _ e
              · rw [cut_upd (by simp), show ([t].map (·.2)).filter (fun q => !decide (q ∈ es)) = [t.2] from List.filter_cons_of_pos (by exact c)]
                exact paired_snoc hp9 (by rw [PAt, cut_out (by simpa using nuD)]; exact hu9)
            | false =>
              refine iteF ⟨sm, ds, hD9, ?_⟩
              rw [show ([t].map (·.2)).filter (fun q => !decide (q ∈ es)) = [] from List.filter_cons_of_neg (by rw [c]; exact Bool.false_ne_true), List.append_nil]
              exact hp9
          rintro H9 ⟨sm, ds, hD9, hp9⟩
          rw [show kr.length = nt.length from pR.len, List.take_length] at hp9
          have fR := sm _ _ upd_same
          have su := Same.unlock hR sm
          refine ⟨fR, ?_⟩
          have hDu : (L2.upd H9 R (.dK kr)) D = some (.lst (ds.map V.ref)) := by rw [upd_ne nDR]; exact hD9
          have hpu := (pl_unlock (u := .dK kr) fR hp9).same cut_le
          generalize L2.upd H9 R (.dK kr) = H10 at su hDu hpu
          have lds : ds.length ≤ 60 := by
            rw [paired_len hpu]
            have := List.length_filter_le (fun q => !decide (q ∈ es)) (nt.map (·.2))
            rw [List.length_map] at this
            omega
          refine ⟨Lg, D, _, _, rfl, rfl, su _ _ hG8, hDu, by rw [List.length_map, List.length_map, sizeLine_eq]; omega, fun G2 hG2 => ?_⟩
          have gG := Same.new (o := .lst (gs.map V.ref ++ ds.map V.ref)) hG2
          refine ⟨_, G2, gs ++ ds, es ++ (nt.map (·.2)).filter (fun q => !decide (q ∈ es)), rfl, Same.trans s8 (Same.trans su gG), by rw [upd_same, List.map_append], ?_, fun e => ?_, fun q => ?_⟩
          · exact pair_app2 ((hP8.same su).same gG) (hpu.same gG)
          · rw [take_succ_get hx, List.mem_append, List.mem_filter, List.mem_map]
            constructor
            · rintro (hm | ⟨⟨t, ht, rfl⟩, _⟩)
              · obtain ⟨y, hy, r⟩ := (he e).mp hm
                exact ⟨y, List.mem_append_left _ hy, r⟩
              · exact ⟨x, List.mem_append_right _ (List.mem_singleton.mpr rfl), t, by rw [hnx]; exact ht, rfl⟩
            · rintro ⟨y, hy, t, ht, rfl⟩
              rcases List.mem_append.mp hy with z | z
              · exact .inl ((he _).mpr ⟨y, z, t, ht, rfl⟩)
              · rw [List.mem_singleton.mp z, hnx] at ht
                by_cases c : t.2 ∈ es
                · exact .inl c
                · exact .inr ⟨⟨t, ht, rfl⟩, by simpa using c⟩
          · rw [List.count_append]
            by_cases c : q ∈ es
            · have z0 : ((nt.map (·.2)).filter fun q => !decide (q ∈ es)).count q = 0 := List.count_eq_zero.mpr fun h => by
                have h2 := (List.mem_filter.mp h).2
                rw [decide_eq_true c] at h2
                exact absurd h2 (by decide)
              rw [z0]
              exact hc q
            · rw [List.count_eq_zero.mpr c]
              have a1 := List.count_le_length (a := q) (l := (nt.map (·.2)).filter fun q => !decide (q ∈ es))
              have a2 := List.length_filter_le (fun q => !decide (q ∈ es)) (nt.map (·.2))
              rw [List.length_map] at a2
              omega
        · rintro σ H8 ⟨v5, Lg, gs, es, rfl, s8, hG8, hP8, he, hc⟩
          rw [List.length_map, lys, List.take_length] at he
          refine ⟨_, rfl, _, _, _, Lg, gs, es, rfl, Same.trans s47 s8, hG8, hP8, ?_, fun x => ?_, fun m hm => ?_⟩
          · have := count_len (c := 60) (allP bk cl) es (fun e hm => by
              obtain ⟨y, hy, t, ht, rfl⟩ := (he e).mp hm
              exact mal (nextP_in bb (inw ((hW y).mp hy)) t ht)) hc
            omega
          · rw [he]
            constructor
            · rintro ⟨y, hy, t, ht, rfl⟩
              exact ((hW y).mp hy).snoc ht
            · intro w
              obtain ⟨y, wy, t, ht, e⟩ := w.last
              exact ⟨y, (hW y).mpr wy, t, ht, e⟩
          · rcases Nat.lt_or_ge m i with h | h
            · exact hno m h
            · obtain rfl : m = i := by omega
              exact noi
    · rintro σ H5 ⟨v4, v5, v6, Ly, ys, ls, rfl, s5, hL5, hP5, lls, hW, hno⟩
      have := k H5 (Same.trans s04 s5)
      rw [show farPE (nextP (ordB bk) (ordB cl)) (NoP (ordB bk) (ordB cl)) (st, st') = none by
        cases e : farPE (nextP (ordB bk) (ordB cl)) (NoP (ordB bk) (ordB cl)) (st, st') with
        | none => rfl
        | some n =>
          have d := farP_someE.mp e
          have ll := far_leE (ns := allP bk cl) (fun x hx t ht => mal (nextP_in bb (inP_ord.mpr (by
            obtain ⟨a, ha, b⟩ := List.mem_flatMap.mp hx
            obtain ⟨u, hu, rfl⟩ := List.mem_map.mp b
            exact ⟨ha, hu⟩)) t ht)) (mal ip0) d
          exact absurd d.1 (hno n (by omega))] at this
      exact this
end
end D1
end L2
/-! the law's _law_is_unfit -/
namespace L2
namespace D1
open PySem PySem.Spec PyProof.Rows D2 X5 X6
abbrev sLIsU : Stmt := top 68
def teS : TE := fun σ H Q => ∃ x, σ[3]? = some (some (.str x)) ∧ Q (.bl true) H
def spLIsU : Sp := fun vs H Q _ => ∃ (W1 W2 L : Addr) (bk cl : Bk) (st st' : Str) (way : List Str), vs = [.ref W1, .ref W2, .ref L] ∧ WorldAt H W1 bk st ∧ WorldAt H W2 cl st' ∧ DOk bk st ∧ DOk cl st' ∧ SL H L way ∧ way.length ≤ 1000 ∧
  ∀ H', Same H H' → Q (.bl (unfB (ordB bk) (ordB cl) (st, st') way)) H'
section
variable {P : Program} {w : World} {K : PySem.W.Frag} {mg : Str → Option Value} {base : Heap}
abbrev liN : List Str := ["_law_elder", "_law_newer_here", "_law_value", "_law_word_here", "_law_steps", "_law_pair"]
theorem scLi2 : FnScope liN ["_law_elder", "_law_newer_here", "_law_value"] (defScope sLIsU) := ⟨rfl, rfl, rfl, by decide +kernel, rfl, by decide +kernel, by decide +kernel⟩
theorem ok_lisu {f : Addr} {fd : FuncData} (F : Fun K "_law_is_unfit" "_law_is_unfit" sLIsU f fd) (T : Free4 mg) (CP : CPlain P w K mg base) (CF : CLFits P w K mg base) : FnOk P w K mg base CX0 2 f fd ["_law_elder", "_law_newer_here", "_law_value"] spLIsU := by
  refine F.ok scLi2 (fun vs H Q E h => ?_) (fun cdv A outer s H vs Q E0' hr h => ?_)
  · obtain ⟨W1, W2, L, bk, cl, st, st', way, rfl, _⟩ := h; rfl
  · obtain ⟨W1, W2, L, bk, cl, st, st', way, rfl, hw1, hw2, o1, o2, hL, lw, k⟩ := h
    have hu := hu_of hr
    refine ⟨_, pss_cons (ps_if (PW.pt (pw_or (pt_not (pt_val (pe_callB call_isi (by rfl) T.isi (by decide +kernel) (pa_cons (pv 2) (pa_cons (pe_bltn (v := .ty "list") rfl T.list (by decide +kernel) rfl) pa_nil)))))
        (pw_or1 (pt_not (pt_val (pe_callB (cr_all rfl) (by rfl) T.all (by decide +kernel) (pa_cons (pe_lc (own := [("_law_word_here", 3)]) (g := gName 3) (tt := tYes) (te := teS) rfl scLi2.nd (pi_list (pv 2))
          (blkOk_by (N := liN) (sc := defScope sLIsU) (by decide +kernel)) (fun _ _ _ _ _ => pg_name (i := 3) scLi2.nd rfl (Or.inl rfl)) (fun _ _ _ _ _ => pts_nil)
          (fun _ _ _ _ _ => pe_imp (t' := teS) (pe_callB call_isi (by rfl) T.isi (by decide +kernel) (pa_cons (pv 3) (pa_cons (pe_bltn (v := .ty "str") rfl T.str (by decide +kernel) rfl) pa_nil))) (by
            rintro σ H Q ⟨x, e, k⟩
            exact ⟨_, e, _, .ty "str", .type "str", .type "str", true, rfl, .ty _, .base (.str _), kit_ty (by decide +kernel), k⟩))) pa_nil))))))) (pss_one (ps_ret pe_bl)) pss_nil)
      (pss_cons (ps_par (i := 4) (j := 5) rfl scLi2.nd rfl rfl (by decide) rfl rfl (pa_cons (pe_cal CP (hr.mono (by decide)) rfl (pa_cons (pv 0) (pa_cons (pv 1) pa_nil))) (pa_cons (pe_tup (pa_cons (pe_ix ix_list (pv 0) pe_int (fun _ _ => rfl)) (pa_cons (pe_ix ix_list (pv 1) pe_int (fun _ _ => rfl)) pa_nil))) pa_nil)) (by rfl))
      (pss_cons (ps_for PassesOwn.never rfl (pi_list (pv 2)) (pg_name (i := 3) scLi2.nd rfl (Or.inl rfl))
        (pss_cons (ps_if (pt_cmp (pc_dnotin hu (pv 3) (pe_dget hu (pv 4) (pv 5) (fun _ _ => rfl))) rfl) (pss_one (ps_ret pe_bl)) pss_nil)
        (pss_one (ps_set (i := 5) scLi2.nd rfl (Or.inl rfl) (pe_dget hu (pe_dget hu (pv 4) (pv 5) (fun _ _ => rfl)) (pv 3) (fun _ _ => rfl))))))
      (pss_one (ps_ret (pe_not (pe_cal CF (hr.mono (by decide)) rfl (pa_cons (pv 0) (pa_cons (pv 1) (pa_cons (pv 5) pa_nil))))))))), ?_⟩
    have bb := (o1.ord).bb o2.ord
    have ip0 : InP (ordB bk) (ordB cl) (st, st') := inP_ord.mpr ⟨o1.st, o2.st⟩
    have mal : ∀ {x : Pr}, InP (ordB bk) (ordB cl) x → x ∈ allP bk cl := fun h => mem_allP (inP_ord.mp h)
    refine ⟨_, rfl, _, .ty "list", .type "list", .type "list", true, rfl, .ty _, .base (.lst hL), kit_ty (by decide +kernel), _, rfl, iteF ?_⟩
    refine ⟨_, rfl, L, rfl, ⟨_, hL.sq⟩, fun D hD => ?_⟩
    refine lc_list (K := K) (a := L) (xs := way.map V.str) (fun i H' => Same H H' ∧ H' D = some (.lst ((List.replicate i true).map V.bl))) ⟨Same.new hD, upd_same⟩ (fun i H' _ z => (hL.same z.1).sq) ?_ ?_
    · rintro i x H2 hx ⟨s2, hD2⟩
      obtain ⟨g, hg, rfl⟩ := D1.get_map hx
      have li : i < way.length := (List.getElem?_eq_some_iff.mp hg).1
      refine ⟨rfl, ?_⟩
      dsimp only [tYes]
      rw [if_pos rfl]
      refine ⟨g, rfl, _, hD2, by rw [List.length_map, List.length_replicate, sizeLine_eq]; omega, fun c u e => ?_, by rw [upd_same, repl_snoc]⟩
      rw [upd_ne (ne_of_none e hD)]; exact s2 _ _ e
    rintro H2 ⟨s2, hD2⟩
    refine ⟨D, _, rfl, SqL.of hD2, ?_⟩
    rw [all_true]
    refine ⟨_, rfl, iteF ?_⟩
    obtain ⟨b1, hW1, _⟩ := id hw1
    obtain ⟨b2, hW2, _⟩ := id hw2
    refine ⟨_, rfl, _, rfl, W1, W2, bk, cl, st, st', rfl, hw1.same s2, hw2.same s2, o1, o2, fun H3 S s3 nS hS => ?_⟩
    have s03 := Same.trans s2 s3
    refine ⟨_, rfl, W1, _, _, _, rfl, rfl, SqL.of (s03 _ _ hW1), atI_nat (j := 1) rfl, _, rfl, W2, _, _, _, rfl, rfl, SqL.of (s03 _ _ hW2), atI_nat (j := 1) rfl, by show 2 ≤ sizeLine; decide, fun Z hZ => ⟨_, _, rfl, ?_⟩⟩
    have g4 := Same.new (o := .tup [.str st, .str st']) hZ
    have e4 : PAt (L2.upd H3 Z (.tup [.str st, .str st'])) Z (st, st') := upd_same
    generalize L2.upd H3 Z (.tup [.str st, .str st']) = H4 at g4 e4
    have s04 := Same.trans s03 g4
    have hL4 := hL.same s04
    obtain ⟨kvS, hS4, hR⟩ := hS.same g4
    refine ⟨_, rfl, L, rfl, ⟨_, hL4.sq⟩, ?_⟩
    refine for_list (K := K) (a := L) (xs := way.map V.str) (fun i σ H' => ∃ y q v3, σ = [some (.ref W1), some (.ref W2), some (.ref L), v3, some (.ref S), some (.ref y)] ∧ H' = H4 ∧ PAt H4 y q ∧ afterP (ordB bk) (ordB cl) (st, st') (way.take i) = some q)
      ⟨Z, (st, st'), none, rfl, rfl, e4, rfl⟩ (fun i σ H' _ ⟨_, _, _, _, e, _⟩ => by rw [e]; exact hL4.sq) ?_ ?_
    · rintro i v σ H' hv ⟨y, q, v3, rfl, rfl, hy, ha⟩
      obtain ⟨x, hx, rfl⟩ := D1.get_map hv
      obtain ⟨a, va, kr, hak, pR⟩ := hR.look (mal ((after_rn .here ha).inP bb ip0))
      have dg : DGet H' S (.ref y) (some (.ref a)) := by rw [← va]; exact DGet.t (k := kP q) hS4 hy
      have e1 : afterP (ordB bk) (ordB cl) (st, st') (way.take (i + 1)) = findP (nextP (ordB bk) (ordB cl) q) x := by rw [take_succ_get hx, after_snoc, ha]; rfl
      refine ⟨_, rfl, _, rfl, _, rfl, S, _, rfl, dg, a, _, rfl, DGet.k (k := .inr x) hak, _, rfl, ?_⟩
      have := pR.val x
      cases hf : findP (nextP (ordB bk) (ordB cl) q) x with
      | none =>
        rw [hf] at this
        rw [this]
        refine iteT ?_
        have kk := k H' s04
        unfold unfB at kk
        rw [after_stop (i := i + 1) (by rw [e1, hf])] at kk
        exact kk
      | some u =>
        rw [hf] at this
        obtain ⟨z2, e2, h2⟩ := this
        have dw : DGet H' a (.str x) (some (.ref z2)) := by rw [← e2]; exact DGet.k (k := .inr x) hak
        rw [e2]
        refine iteF ⟨_, rfl, _, rfl, S, _, rfl, dg, _, rfl, a, _, rfl, dw, ?_⟩
        exact ⟨z2, u, _, rfl, rfl, h2, by rw [e1, hf]⟩
    · rintro σ H' ⟨y, q, v3, rfl, rfl, hy, ha⟩
      rw [List.length_map, List.take_length] at ha
      have iq := inP_ord.mp ((after_rn .here ha).inP bb ip0)
      refine ⟨_, rfl, _, rfl, _, rfl, W1, W2, y, bk, cl, st, st', q, rfl, hw1.same s04, hw2.same s04, o1, o2, hy, iq, fun H5 s5 => ⟨_, rfl, ?_⟩⟩
      have kk := k H5 (Same.trans s04 s5)
      unfold unfB at kk
      rw [ha] at kk
      dsimp only at kk
      unfold noB at kk
      rw [fitP_ord o1 o2 iq] at kk
      exact kk
end
end D1
end L2
/-! talks -/
namespace L2
namespace D1
open PySem PySem.Spec PyProof.Rows
abbrev sTalks : Stmt := top 59
/-- a list of lists of texts -/
def LL (H : Hp) (R : Addr) (tss : List (List Str)) : Prop := ∃ as : List Addr, H R = some (.lst (as.map V.ref)) ∧ Paired (fun a ts => SL H a ts) as tss
theorem LL.same {H H' : Hp} {R : Addr} {tss : List (List Str)} (h : LL H R tss) (s : Same H H') : LL H' R tss := by
  obtain ⟨as, e, p⟩ := h; exact ⟨as, s _ _ e, paired_imp (fun _ _ z => z.same s) p⟩
theorem paired_cat {α β : Type} {R : α → β → Prop} {xs : List α} {ys : List β} {zs : List α} {ws : List β} (h : Paired R xs ys) (g : Paired R zs ws) : Paired R (xs ++ zs) (ys ++ ws) := by
  induction h with
  | nil => exact g
  | cons a _ ih => exact .cons a ih
/-- talks of at most m words of ws -/
def TsOk (ws : List Str) (m : Nat) (tss : List (List Str)) : Prop := ∀ ts ∈ tss, ts.length ≤ m ∧ ∀ x ∈ ts, x ∈ ws
def spTalks : Sp := fun vs H Q _ => ∃ (W : Addr) (ws : List Str) (n : Int), vs = [.ref W, .int n] ∧ SL H W ws ∧ ws.length ≤ 7 ∧ 0 ≤ n ∧ n ≤ 3 ∧ ∀ (H' : Hp) (R : Addr) (tss : List (List Str)), Same H H' → H R = none → LL H' R tss → TsOk ws 3 tss → tss.length ≤ 400 * n.toNat + 1 → Q (.ref R) H'
section
variable {P : Program} {w : World} {K : PySem.W.Frag} {mg : Str → Option Value} {base : Heap} {C : Addr}
theorem scTk : FnScope ["_law_words_here", "_law_size", "_law_found", "_law_layer", "_law_turn", "_law_longer", "_law_talk", "_law_word_here"] ["_law_words_here", "_law_size"] (defScope sTalks) := ⟨rfl, rfl, rfl, by decide +kernel, rfl, by decide +kernel, by decide +kernel⟩
theorem ok_talks {f : Addr} {fd : FuncData} (F : Fun K "_law_talks" "_law_talks" sTalks f fd) (T : Free3 mg) : FnOk P w K mg base CX0 1 f fd ["_law_words_here", "_law_size"] spTalks := by
  refine F.ok scTk (fun vs H Q E h => ?_) (fun cdv A outer s H vs Q E hr h => ?_)
  · obtain ⟨W, ws, n, rfl, _⟩ := h; rfl
  · obtain ⟨W, ws, n, rfl, hW, lw, n0, n3, k⟩ := h
    refine ⟨_, pss_cons (ps_par (i := 2) (j := 3) rfl scTk.nd rfl rfl (by decide) rfl rfl (pa_cons (pe_lst (pa_cons (pe_lst pa_nil) pa_nil)) (pa_cons (pe_lst (pa_cons (pe_lst pa_nil) pa_nil)) pa_nil)) (by rfl))
      (pss_cons (ps_for PassesOwn.never rfl (pi_range1 rfl T.range (pa_cons (pv 1) pa_nil)) (pg_name (i := 4) scTk.nd rfl (Or.inl rfl))
        (pss_cons (ps_set (i := 5) scTk.nd rfl (Or.inl rfl) (pe_lst pa_nil))
        (pss_cons (ps_for PassesOwn.never rfl (pi_list (pv 3)) (pg_name (i := 6) scTk.nd rfl (Or.inr rfl))
          (pss_one (ps_set (i := 5) scTk.nd rfl (Or.inl rfl) (pe_op op_cat (pv 5) (pe_lc (own := [("_law_word_here", 7)]) (g := gName 7) (tt := tYes) rfl scTk.nd (pi_list (pv 0))
            (blkOk_by (N := ["_law_words_here", "_law_size", "_law_found", "_law_layer", "_law_turn", "_law_longer", "_law_talk", "_law_word_here"]) (sc := defScope sTalks) (by decide +kernel)) (fun _ _ _ _ _ => pg_name (i := 7) scTk.nd rfl (Or.inl rfl)) (fun _ _ _ _ _ => pts_nil)
            (fun _ _ _ _ _ => pe_op op_cat (pv 6) (pe_lst (pa_cons (pv 7) pa_nil))))))))
        (pss_one (ps_par (i := 2) (j := 3) rfl scTk.nd rfl rfl (by decide) rfl rfl (pa_cons (pe_op op_cat (pv 2) (pv 5)) (pa_cons (pv 5) pa_nil)) (by rfl))))))
      (pss_one (ps_ret (pv 2)))), ?_⟩
    refine ⟨by decide, fun a1 h1 => ⟨by show 1 ≤ sizeLine; decide, fun F0 hF0 => ⟨by decide, fun a2 h2 => ⟨by show 1 ≤ sizeLine; decide, fun L0 hL0 => ⟨_, _, rfl, ?_⟩⟩⟩⟩⟩
    have g1 := Same.new (o := .lst []) h1
    have g2 := Same.new (o := .lst [.ref a1]) hF0
    have g3 := Same.new (o := .lst []) h2
    have g4 := Same.new (o := .lst [.ref a2]) hL0
    have e1 := upd_same (H := H) (a := a1) (o := .lst [])
    have e2 := upd_same (H := L2.upd H a1 (.lst [])) (a := F0) (o := .lst [.ref a1])
    have e3 := upd_same (H := L2.upd (L2.upd H a1 (.lst [])) F0 (.lst [.ref a1])) (a := a2) (o := .lst [])
    have e4 := upd_same (H := L2.upd (L2.upd (L2.upd H a1 (.lst [])) F0 (.lst [.ref a1])) a2 (.lst [])) (a := L0) (o := .lst [.ref a2])
    generalize L2.upd H a1 (.lst []) = H1 at g1 g2 g3 g4 e1 e2 e3 e4 hF0
    generalize L2.upd H1 F0 (.lst [.ref a1]) = H2 at g2 g3 g4 e2 e3 e4
    generalize L2.upd H2 a2 (.lst []) = H3 at g3 g4 e3 e4
    generalize L2.upd H3 L0 (.lst [.ref a2]) = H4 at g4 e4
    have f0 : H F0 = none := g1.free hF0
    have s4 : Same H H4 := Same.trans (Same.trans (Same.trans g1 g2) g3) g4
    refine ⟨_, rfl, n, rfl, by omega, by omega, ?_⟩
    refine for_range (n := n.toNat) (fun i σ H' => ∃ (F1 L1 : Addr) (v4 v5 v6 : Option V) (tss uss : List (List Str)), σ = [some (.ref W), some (.int n), some (.ref F1), some (.ref L1), v4, v5, v6, none] ∧ Same H H' ∧ H F1 = none ∧ LL H' F1 tss ∧ LL H' L1 uss ∧ TsOk ws i tss ∧ TsOk ws i uss ∧ uss.length ≤ 7 ^ i ∧ tss.length ≤ 400 * i + 1)
      ⟨F0, L0, none, none, none, [[]], [[]], rfl, s4, f0, ⟨[a1], g4 _ _ (g3 _ _ e2), .cons (g4 _ _ (g3 _ _ (g2 _ _ e1))) .nil⟩, ⟨[a2], e4, .cons (g4 _ _ e3) .nil⟩, by intro t ht; obtain rfl := List.mem_singleton.mp ht; exact ⟨Nat.le_refl _, by simp⟩, by intro t ht; obtain rfl := List.mem_singleton.mp ht; exact ⟨Nat.le_refl _, by simp⟩, by decide, by show 1 ≤ 400 * 0 + 1; decide⟩ ?_ ?_
    · rintro i σ H5 hi ⟨F1, L1, v4, v5, v6, tss, uss, rfl, sm, f1, hF, hU, tF, tU, lu, lt⟩
      have i3 : i < 3 := by omega
      have pw : 7 ^ i ≤ 49 := by
        match i, i3 with
        | 0, _ => decide
        | 1, _ => decide
        | 2, _ => decide
      refine ⟨by decide, fun G0 hG0 => ?_⟩
      have sG := Same.new (o := .lst []) hG0
      have eG := upd_same (H := H5) (a := G0) (o := .lst [])
      generalize L2.upd H5 G0 (.lst []) = H6 at sG eG
      obtain ⟨bs, hL1, pb⟩ := hU.same sG
      have lb := paired_len pb
      refine ⟨_, rfl, L1, rfl, ⟨_, SqL.of hL1⟩, ?_⟩
      refine for_list (K := K) (a := L1) (xs := bs.map V.ref) (fun j σ H' => ∃ (G1 : Addr) (v6 : Option V) (vss : List (List Str)), σ = [some (.ref W), some (.int n), some (.ref F1), some (.ref L1), some (.int (0 + (i : Int))), some (.ref G1), v6, none] ∧ Same H6 H' ∧ LL H' G1 vss ∧ TsOk ws (i + 1) vss ∧ vss.length ≤ 7 * j)
        ⟨G0, v6, [], rfl, Same.refl _, ⟨[], eG, .nil⟩, (fun t ht => by cases ht), Nat.zero_le _⟩ (fun j σ H' _ ⟨_, _, _, _, z, _⟩ => SqL.of (z _ _ hL1)) ?_ ?_
      · rintro j x σ H7 hx ⟨G1, v6, vss, rfl, s7, hG, tG, lG⟩
        obtain ⟨c, hc, rfl⟩ := get_map hx
        have hj : j < bs.length := (List.getElem?_eq_some_iff.mp hc).1
        have hju : j < uss.length := by omega
        have hus := List.getElem?_eq_getElem hju
        have hcs : SL H7 c uss[j] := (paired_at pb hc hus).same s7
        have hum := tU _ (List.getElem_mem hju)
        generalize uss[j] = us at hus hcs hum
        have hW7 : SL H7 W ws := hW.same (Same.trans (Same.trans sm sG) s7)
        refine ⟨_, rfl, _, rfl, W, rfl, ⟨_, hW7.sq⟩, fun D hD => ?_⟩
        refine lc_list (K := K) (a := W) (xs := ws.map V.str) (fun m H' => Same H7 H' ∧ ∃ (ds : List Addr) (wss : List (List Str)), H' D = some (.lst (ds.map V.ref)) ∧ Paired (fun a ts => SL (cut [D] H') a ts) ds wss ∧ TsOk ws (i + 1) wss ∧ wss.length = m) ⟨Same.new hD, [], [], upd_same, .nil, (fun t ht => by cases ht), rfl⟩ (fun m H' _ z => (hW7.same z.1).sq) ?_ ?_
        · rintro m v H8 hv ⟨s8, ds, wss, hD8, pd, td, ld⟩
          obtain ⟨z, hz, rfl⟩ := get_map hv
          have hm : m < ws.length := (List.getElem?_eq_some_iff.mp hz).1
          refine ⟨rfl, ?_⟩
          dsimp only [tYes]
          rw [if_pos rfl]
          refine ⟨_, rfl, _, rfl, by show 1 ≤ sizeLine; decide, fun e hE => ?_⟩
          have hc8 := (hcs.same s8)
          refine ⟨c, e, _, _, rfl, rfl, hc8.new hE, upd_same, by rw [List.length_map, sizeLine_eq]; show _ + 1 ≤ _; omega, fun e' hE' => ?_⟩
          have q1 := Same.new (o := .lst [.str z]) hE
          have q2 := Same.new (o := .lst (us.map V.str ++ [.str z])) hE'
          have q := Same.trans q1 q2
          have nD : e' ≠ D := fun h => by rw [h, q1 _ _ hD8] at hE'; cases hE'
          have lds := paired_len pd
          refine ⟨_, q _ _ hD8, by rw [List.length_map, lds, ld, sizeLine_eq]; omega, fun b u eb => ?_, ds ++ [e'], wss ++ [us ++ [z]], by rw [upd_same, List.map_append]; rfl, ?_, fun t ht => ?_, by rw [List.length_append, ld]; rfl⟩
          · rw [upd_ne (ne_of_none eb hD)]; exact q _ _ (s8 _ _ eb)
          · rw [cut_upd (by simp)]
            refine pair_app (paired_imp (fun _ _ z => z.same (cut_same q)) pd) ?_
            rw [SL, cut_out (by simpa using nD), upd_same, List.map_append]; rfl
          · rcases List.mem_append.mp ht with h | h
            · exact td t h
            · rw [List.mem_singleton.mp h]
              refine ⟨by rw [List.length_append]; show _ + 1 ≤ _; have := hum.1; omega, fun y hy => ?_⟩
              rcases List.mem_append.mp hy with h2 | h2
              · exact hum.2 y h2
              · rw [List.mem_singleton.mp h2]; exact List.mem_of_getElem? hz
        · rintro H8 ⟨s8, ds, wss, hD8, pd, td, ld⟩
          rw [List.length_map] at ld
          obtain ⟨cs, hG8, pc⟩ := hG.same s8
          have lds := paired_len pd
          have lcs := paired_len pc
          refine ⟨G1, D, _, _, rfl, rfl, hG8, hD8, by rw [List.length_map, List.length_map, sizeLine_eq]; omega, fun G2 hG2 => ?_⟩
          have q := Same.new (o := .lst (cs.map V.ref ++ ds.map V.ref)) hG2
          refine ⟨G2, _, vss ++ wss, rfl, Same.trans (Same.trans s7 s8) q, ⟨cs ++ ds, by rw [upd_same, List.map_append], ?_⟩, fun t ht => ?_, by rw [List.length_append]; omega⟩
          · exact paired_cat (paired_imp (fun _ _ z => z.same q) pc) (paired_imp (fun _ _ z => (z.same cut_le).same q) pd)
          · rcases List.mem_append.mp ht with h | h
            · exact tG t h
            · exact td t h
      · rintro σ H7 ⟨G1, v6', vss, rfl, s7, hG, tG, lG⟩
        rw [List.length_map] at lG
        have s57 := Same.trans sG s7
        obtain ⟨fs, hF7, pf⟩ := hF.same s57
        obtain ⟨gs, hG7, pg⟩ := id hG
        have lf := paired_len pf
        have lg := paired_len pg
        refine ⟨_, rfl, _, rfl, F1, G1, _, _, rfl, rfl, hF7, hG7, by rw [List.length_map, List.length_map, sizeLine_eq]; omega, fun F2 hF2 => ?_⟩
        have q := Same.new (o := .lst (fs.map V.ref ++ gs.map V.ref)) hF2
        have s07 := Same.trans sm s57
        refine ⟨_, rfl, _, _, rfl, F2, G1, _, _, _, tss ++ vss, vss, rfl, Same.trans s07 q, s07.free hF2, ⟨fs ++ gs, by rw [upd_same, List.map_append], ?_⟩, hG.same q, fun t ht => ?_, tG, ?_, ?_⟩
        · exact paired_cat (paired_imp (fun _ _ z => z.same q) pf) (paired_imp (fun _ _ z => z.same q) pg)
        · rcases List.mem_append.mp ht with h | h
          · exact ⟨by have := (tF t h).1; omega, (tF t h).2⟩
          · exact tG t h
        · rw [Nat.pow_succ]; omega
        · rw [List.length_append]; omega
    · rintro σ H5 ⟨F1, L1, v4, v5, v6, tss, uss, rfl, sm, f1, hF, hU, tF, tU, lu, lt⟩
      refine ⟨_, rfl, k H5 F1 tss sm f1 hF (fun t ht => ⟨by have := (tF t ht).1; omega, (tF t ht).2⟩) (by omega)⟩
end
end D1
end L2
/-! the law's newer -/
namespace L2
namespace D1
open PySem PySem.Spec PyProof.Rows D2
abbrev sNewer : Stmt := top 53
/-- a book with another row for a state that it has -/
def setR (bk : Bk) (s : Str) (k : Str) (ts : List (Str × Str)) : Bk := bk.map fun r => if r.1 = s then (r.1, k, ts) else r
theorem setR_names (bk : Bk) (s k : Str) (ts : List (Str × Str)) : (setR bk s k ts).map (·.1) = bk.map (·.1) := by
  rw [setR, List.map_map]
  refine List.map_congr_left fun r _ => ?_
  show (if r.1 = s then (r.1, k, ts) else r).1 = r.1
  split <;> rfl
theorem setR_mem {bk : Bk} {s k : Str} {ts : List (Str × Str)} {r : RowD} (h : r ∈ setR bk s k ts) : r ∈ bk ∨ (r = (s, k, ts) ∧ s ∈ bk.map (·.1)) := by
  obtain ⟨q, hq, e⟩ := List.mem_map.mp h
  by_cases c : q.1 = s
  · rw [if_pos c] at e
    exact .inr ⟨by rw [← e, c], by rw [← c]; exact List.mem_map_of_mem hq⟩
  · rw [if_neg c] at e
    exact .inl (e ▸ hq)
theorem Rows.set {H : Hp} {kvs : List (Key × V)} {bk : Bk} {s k : Str} {ts : List (Str × Str)} {v : V} (h : Rows H kvs bk) (hs : s ∈ bk.map (·.1)) (r : RowAt H v k ts) : Rows H (putK kvs (.inr s) v) (setR bk s k ts) := by
  have e : (kvs.any fun kv => decide (kv.1 = Sum.inr s)) = true := by
    have : (Sum.inr s : Key) ∈ kvs.map (·.1) := by
      rw [h.keys]
      obtain ⟨q, hq, e⟩ := List.mem_map.mp hs
      exact List.mem_map.mpr ⟨q, hq, by rw [e]⟩
    obtain ⟨p, hp, e⟩ := List.mem_map.mp this
    exact List.any_eq_true.mpr ⟨p, hp, decide_eq_true e⟩
  unfold putK
  rw [if_pos e]
  clear e hs
  unfold Rows at h ⊢
  unfold setR
  induction h with
  | nil => exact .nil
  | @cons kv q _ _ h1 _ ih =>
    refine .cons ?_ ih
    obtain ⟨e1, h2⟩ := h1
    by_cases c : q.1 = s
    · dsimp only
      rw [if_pos (show kv.1 = Sum.inr s by rw [e1, c]), if_pos c]
      exact ⟨e1, r⟩
    · dsimp only
      rw [if_neg (show ¬ kv.1 = Sum.inr s by rw [e1]; exact fun z => c (Sum.inr.inj z)), if_neg c]
      exact ⟨e1, h2⟩
theorem WF.row {bk : Bk} {st s : Str} {ws : List Str} (h : WF bk st ws) (hs : s ∈ bk.map (·.1)) (n : (rowOf bk s).1 ≠ "done") : ((rowOf bk s).1 = "says" ∨ (rowOf bk s).1 = "hears") ∧ (rowOf bk s).2 ≠ [] ∧ TOk (rowOf bk s).2 (bk.map (·.1)) ws := by
  rcases (h.rs _ (row_mem hs)).2 with ⟨e, _⟩ | e
  · exact absurd e n
  · exact e
theorem WF.set {bk : Bk} {st s k : Str} {ws : List Str} {ts : List (Str × Str)} (h : WF bk st ws) (hs : s ∈ bk.map (·.1)) (kk : k = "says" ∨ k = "hears") (ne : ts ≠ []) (tok : TOk ts (bk.map (·.1)) ws) : WF (setR bk s k ts) st ws := by
  refine ⟨by rw [setR_names]; exact h.nd, fun r hr => ?_, by rw [setR_names]; exact h.st, by rw [setR, List.length_map]; exact h.len⟩
  rw [setR_names]
  rcases setR_mem hr with m | ⟨rfl, _⟩
  · exact h.rs r m
  · exact ⟨(h.rs _ (row_mem hs)).1, .inr ⟨kk, ne, tok⟩⟩
def spNewer : Sp := fun vs H Q _ => ∃ (p W L : Addr) (bk : Bk) (st : Str) (ws : List Str) (n t : Int), vs = [.ref p, .ref W, .ref L, .int n] ∧ Purse H p t ∧ WorldAt (cut [p] H) W bk st ∧ SL H L ws ∧ L ≠ p ∧ WF bk st ws ∧ WsOk ws ∧ 0 ≤ n ∧ n ≤ 10 ∧ t < 2 ^ 25 ∧
  ∀ (H' : Hp) (R : Addr) (bk' : Bk) (t' : Int), But p H H' → Purse H' p t' → t' ≤ t + 200 → H R = none → WorldAt (cut [p] H') R bk' st → WF bk' st ws → Q (.ref R) H'
section
variable {P : Program} {w : World} {K : PySem.W.Frag} {mg : Str → Option Value} {base : Heap}
abbrev CChRow (P : Program) (w : World) (K : PySem.W.Frag) (mg : Str → Option Value) (base : Heap) := Cal P w K mg base "_law_changed_row" 4 ["_law_purse_here", "_law_row", "_law_words_here", "_law_states"] spChRow
abbrev nwrN : List Str := ["_law_purse_here", "_law_world_here", "_law_words_here", "_law_times", "_law_book", "_law_states", "_law_turn", "_law_live", "_law_state"]
theorem scNwr : FnScope nwrN ["_law_purse_here", "_law_world_here", "_law_words_here", "_law_times"] (defScope sNewer) := ⟨rfl, rfl, rfl, by decide +kernel, rfl, by decide +kernel, by decide +kernel⟩
theorem ok_newer {f : Addr} {fd : FuncData} (F : Fun K "_law_newer" "_law_newer" sNewer f fd) (T : Free3 mg) (CO : COne P w K mg base) (CC : CChRow P w K mg base) : FnOk P w K mg base CX0 5 f fd ["_law_purse_here", "_law_world_here", "_law_words_here", "_law_times"] spNewer := by
  refine F.ok scNwr (fun vs H Q E h => ?_) (fun cdv A outer s H vs Q E hr h => ?_)
  · obtain ⟨p, W, L, bk, st, ws, n, t, rfl, _⟩ := h; rfl
  · obtain ⟨p, W, L, bk, st, ws, n, t, rfl, hp, ⟨b, hWc, kvs, hbc, hRc⟩, hL, nL, wf, wok, n0, n10, t1, k⟩ := h
    have hu := hu_of hr
    refine ⟨_, pss_cons (ps_asg (pe_tup (pa_cons (pe_callTy call_dictD (by rfl) T.dict (by decide +kernel) (pa_cons (pe_ix ix_list (pv 1) pe_int (fun _ _ => rfl)) pa_nil)) (pa_cons (pe_callTy (call_listD rfl) (by rfl) T.list (by decide +kernel) (pa_cons (pe_ix ix_list (pv 1) pe_int (fun _ _ => rfl)) pa_nil)) pa_nil)))
        (pg_tup rfl (pgs_cons (pg_name (i := 4) scNwr.nd rfl (Or.inr rfl)) (pgs_cons (pg_name (i := 5) scNwr.nd rfl (Or.inl rfl)) pgs_nil))))
      (pss_cons (ps_for PassesOwn.never rfl (pi_range1 rfl T.range (pa_cons (pv 3) pa_nil)) (pg_name (i := 6) scNwr.nd rfl (Or.inl rfl))
        (pss_cons (ps_setLc (i := 7) (own := [("_law_state", 8)]) (g := gName 8) (tt := tTest (tOp rNe (tOp (rIxT K) (tDGet (tVar 4) (tVar 8)) (tC (.int 0))) (tC (.str "done")))) (te := tVar 8) rfl scNwr.nd rfl rfl (sw_true rfl rfl rfl rfl) (pi_list (pv 5))
            (blkOk_by (N := nwrN) (sc := defScope sNewer) (by decide +kernel)) (fun _ _ _ _ _ => pg_name (i := 8) scNwr.nd rfl (Or.inl rfl)) (fun _ _ _ _ _ => pts_one (pt_cmpR op_ne (pe_ix ix_tup (pe_dget hu (pv 4) (pv 8) (fun _ _ => rfl)) pe_int (fun _ _ => rfl)) pe_str rfl)) (fun _ _ _ _ _ => pv 8))
        (pss_one (ps_if (pt_cmpR (op_neD hr.units) (pv 7) (pe_lst pa_nil) (by rfl))
          (pss_cons (ps_set (i := 8) scNwr.nd rfl (Or.inl rfl) (pe_cal CO (hr.mono (by decide)) rfl (pa_cons (pv 0) (pa_cons (pv 7) pa_nil))))
          (pss_one (ps_dput hu (pv 4) (pv 8) (pe_cal CC (hr.mono (by decide)) rfl (pa_cons (pv 0) (pa_cons (pe_dget hu (pv 4) (pv 8) (fun _ _ => rfl)) (pa_cons (pv 2) (pa_cons (pv 5) pa_nil))))) rfl)))
          pss_nil))))
      (pss_one (ps_ret (pe_lst (pa_cons (pv 4) (pa_cons (pe_ix ix_list (pv 1) pe_int (fun _ _ => rfl)) pa_nil)))))), ?_⟩
    have hW := cut_le _ _ hWc
    have hb := cut_le _ _ hbc
    have nWp : W ≠ p := (fun e => by rw [e, cut_in (by simp)] at hWc; cases hWc)
    have nbp : b ≠ p := (fun e => by rw [e, cut_in (by simp)] at hbc; cases hbc)
    refine ⟨_, rfl, W, _, _, _, rfl, rfl, SqL.of hW, atI_nat (j := 0) rfl, b, kvs, rfl, .inl hb, fun B hB => ?_⟩
    have g1 := Same.new (o := .dK kvs) hB
    have eB1 : (L2.upd H B (.dK kvs)) B = some (.dK kvs) := upd_same
    have hp1 := hp.new (o := .dK kvs) hB
    have nBp := hp.ne hB
    generalize L2.upd H B (.dK kvs) = H1 at g1 eB1 hp1
    refine ⟨_, rfl, W, _, _, _, rfl, rfl, SqL.of (g1 _ _ hW), atI_nat (j := 0) rfl, b, kvs, rfl, .inl (g1 _ _ hb), fun S hS => ?_⟩
    have ek : kvs.map (fun kv => kV kv.1) = (bk.map (·.1)).map V.str := by
      have := congrArg (List.map kV) hRc.keys
      rw [List.map_map, List.map_map] at this
      rw [List.map_map]; exact this
    rw [ek]
    have nSp := hp1.ne hS
    have nBS : B ≠ S := ne_of_none eB1 hS
    have g2 := Same.new (o := .lst ((bk.map (·.1)).map V.str)) hS
    have eS2 : SL (L2.upd H1 S (.lst ((bk.map (·.1)).map V.str))) S (bk.map (·.1)) := upd_same
    have hp2 := hp1.new (o := .lst ((bk.map (·.1)).map V.str)) hS
    generalize L2.upd H1 S (.lst ((bk.map (·.1)).map V.str)) = H2 at g2 eS2 hp2
    refine ⟨by show 2 ≤ sizeLine; decide, fun T1 hT1 => ⟨T1, _, rfl, SqT.of upd_same, rfl, _, _, rfl, _, _, rfl, rfl, ?_⟩⟩
    have g3 := Same.new (o := .tup [.ref B, .ref S]) hT1
    have hp3 := hp2.new (o := .tup [.ref B, .ref S]) hT1
    generalize L2.upd H2 T1 (.tup [.ref B, .ref S]) = H3 at g3 hp3
    have s03 : Same H H3 := Same.trans (Same.trans g1 g2) g3
    refine ⟨_, rfl, n, rfl, by omega, by omega, ?_⟩
    have lb := wf.len
    have lpos : 1 ≤ (bk.map (·.1)).length := List.length_pos_iff.mpr fun e => by have := wf.st; rw [e] at this; cases this
    have lss : (bk.map (·.1)).length ≤ 6 := by rw [List.length_map]; exact lb
    refine for_range (n := n.toNat) (fun i σ H' => ∃ (v6 v7 v8 : Option V) (cl : Bk) (kv' : List (Key × V)) (t' : Int), σ = [some (.ref p), some (.ref W), some (.ref L), some (.int n), some (.ref B), some (.ref S), v6, v7, v8] ∧ But p H H' ∧ Purse H' p t' ∧ t' ≤ t + 12 * i ∧ SL H' S (bk.map (·.1)) ∧ H' B = some (.dK kv') ∧ Rows (cut [p, B] H') kv' cl ∧ WF cl st ws ∧ cl.map (·.1) = bk.map (·.1))
      ⟨none, none, none, bk, kvs, t, rfl, But.of s03, hp3, by omega, eS2.same g3, g3 _ _ (g2 _ _ eB1), ?_, wf, rfl⟩ ?_ ?_
    · refine hRc.same fun c u e => ?_
      obtain ⟨n1, e⟩ := cut_some e
      have n1 : c ≠ p := fun z => n1 (by rw [z]; simp)
      have n2 : c ≠ B := ne_of_none e hB
      rw [cut_out (by simp [n1, n2])]
      exact s03 _ _ e
    · rintro i σ H4 hi ⟨v6, v7, v8, cl, kv', t4, rfl, b04, hp4, tt4, hS4, hB4, hR4, wfc, enm⟩
      have hcm : ∀ {s : Str}, s ∈ bk.map (·.1) → s ∈ cl.map (·.1) := fun h => by rw [enm]; exact h
      have hlk : ∀ {s : Str}, s ∈ bk.map (·.1) → ∃ tu a, valV kv' (.inr s) = some (.ref tu) ∧ (cut [p, B] H4) tu = some (.tup [.str (rowOf cl s).1, .ref a]) ∧ TurnsAt (cut [p, B] H4) a (rowOf cl s).2 := fun h => by
        obtain ⟨v, ev, ⟨tu, a, rfl, e1, e2⟩, _⟩ := hR4.look (hcm h)
        exact ⟨tu, a, ev, e1, e2⟩
      refine ⟨_, rfl, S, rfl, ⟨_, hS4.sq⟩, fun M hM => ?_⟩
      have nMp := hp4.ne hM
      have nMB : B ≠ M := ne_of_none hB4 hM
      refine lc_list (K := K) (a := S) (xs := (bk.map (·.1)).map V.str) (fun j H' => Same H4 H' ∧ SL H' M (((bk.map (·.1)).take j).filter fun s => decide ((rowOf cl s).1 ≠ "done"))) ⟨Same.new hM, upd_same⟩ (fun j H' _ z => (hS4.same z.1).sq) ?_ ?_
      · rintro j x H5 hx0 ⟨sm, hM5⟩
        obtain ⟨s, hsj, rfl⟩ := get_map hx0
        have sm0 : s ∈ bk.map (·.1) := List.mem_of_getElem? hsj
        obtain ⟨tu, a, ev, htu, _⟩ := hlk sm0
        refine ⟨rfl, _, rfl, _, rfl, B, _, rfl, .inl ⟨kv', .inr s, .inl (sm _ _ hB4), rfl, ev.symm⟩, tu, _, _, _, rfl, rfl, SqT.of (sm _ _ (cut_le _ _ htu)), atI_nat (j := 0) rfl, rfl, _, rfl, ite2 (fun c => ?_) (fun c => ?_)⟩
        · have c' : (rowOf cl s).1 ≠ "done" := fun e => by rw [e] at c; exact absurd c (by decide +kernel)
          refine ⟨_, rfl, _, hM5, by rw [List.length_map, sizeLine_eq]; have := List.length_filter_le (fun s => decide ((rowOf cl s).1 ≠ "done")) ((bk.map (·.1)).take j); rw [List.length_take] at this; omega, fun c0 u e => ?_, ?_⟩
          · rw [upd_ne (ne_of_none e hM)]; exact sm _ _ e
          · rw [filt_yes hsj (decide_eq_true c'), SL, upd_same, List.map_append]; rfl
        · have c' : (rowOf cl s).1 = "done" := by
            by_cases z : (rowOf cl s).1 = "done"
            · exact z
            · exact absurd (show (!decide (V.str (rowOf cl s).1 = V.str "done")) = true by rw [decide_eq_false fun q => z (V.str.inj q)]; rfl) c
          rw [filt_no hsj (by rw [c']; rfl)]
          exact ⟨sm, hM5⟩
      rintro H5 ⟨s45, hM5⟩
      rw [List.length_map, List.take_length] at hM5
      generalize hz : (bk.map (·.1)).filter (fun s => decide ((rowOf cl s).1 ≠ "done")) = zs at hM5
      have lz : zs.length ≤ 6 := by rw [← hz]; exact Nat.le_trans (List.length_filter_le _ _) lss
      have zm : ∀ s ∈ zs, s ∈ bk.map (·.1) ∧ (rowOf cl s).1 ≠ "done" := fun s hs => by
        rw [← hz] at hs
        obtain ⟨a1, a2⟩ := List.mem_filter.mp hs
        exact ⟨a1, of_decide_eq_true a2⟩
      have zw : ∀ s ∈ zs, Wd s := fun s hs => by
        obtain ⟨q, hq, e⟩ := List.mem_map.mp (zm s hs).1
        rw [← e]; exact (wf.rs q hq).1
      refine ⟨_, rfl, by show 0 ≤ sizeLine; decide, fun N hN => ?_⟩
      have g6 := Same.new (o := .lst []) hN
      have hN6 : SL (L2.upd H5 N (.lst [])) N [] := upd_same
      generalize L2.upd H5 N (.lst []) = H6 at g6 hN6
      have s46 := Same.trans s45 g6
      refine ⟨dW zs, dW [], dp_words (hM5.same g6), dp_words hN6, sh_words zw, sh_words (fun _ h => by cases h), _, rfl, ?_⟩
      rw [eqv_nil]
      have b06 := b04.trans (But.of s46)
      have hp6 := hp4.same s46
      have hS6 := hS4.same s46
      have hB6 := s46 _ _ hB4
      refine ite2 (fun c => ?_) (fun c => ?_)
      · have zne : zs ≠ [] := fun e => by rw [e] at c; exact absurd c (by decide)
        have zpos := List.length_pos_iff.mpr zne
        refine ⟨_, rfl, _, rfl, p, M, _, t4, rfl, hp6, hM5.same g6, nMp, by rw [List.length_map]; omega, by rw [List.length_map]; omega, by omega, fun j v t7 o7 hj tt7 hp7 => ?_⟩
        obtain ⟨s, hsj, rfl⟩ := get_map hj
        obtain ⟨sm0, nd⟩ := zm s (List.mem_of_getElem? hsj)
        obtain ⟨tu, a, ev, htu, ha⟩ := hlk sm0
        have b67 := But.upd p H6 o7
        have nBp' := nBp
        have hS7 : SL (L2.upd H6 p o7) S (bk.map (·.1)) := by rw [SL, upd_ne nSp]; exact hS6
        have hB7 : (L2.upd H6 p o7) B = some (.dK kv') := by rw [upd_ne nBp]; exact hB6
        generalize L2.upd H6 p o7 = H7 at b67 hp7 hS7 hB7
        have b47 := (But.of s46).trans b67
        have b07 := b06.trans b67
        have sC : Same (cut [p, B] H4) (cut [p, B] H7) := cut_but b47 (by simp)
        have sC1 : Same (cut [p, B] H7) (cut [p] H7) := cut_mono (by simp)
        obtain ⟨kk, tne, tok⟩ := wfc.row (hcm sm0) nd
        rw [enm] at tok
        refine ⟨_, rfl, _, rfl, _, rfl, B, _, rfl, .inl ⟨kv', .inr s, .inl hB7, rfl, ev.symm⟩, _, rfl, _, rfl, p, L, S, .ref tu, _, _, _, ws, t7, rfl, hp7, ⟨tu, a, rfl, sC1 _ _ (sC _ _ htu), sC1 _ _ (sC _ _ ha)⟩, kk, tne, tok, b07 _ _ nL hL, hS7, nL, nSp, wok, lpos, by omega, by omega, fun H8 R k' ts' t8 b78 hp8 tt8 hrow kk' ne' tok' => ?_⟩
        have hB8 := b78 _ _ nBp hB7
        have lkv : kv'.length ≤ 6 := by rw [hR4.len, ← List.length_map (·.1), enm]; exact lss
        refine ⟨_, rfl, _, rfl, B, _, rfl, DPut.k (kvs := kv') (k := Sum.inr s) hB8 (by rw [sizeLine_eq]; omega), ?_⟩
        refine ⟨_, _, _, setR cl s k' ts', _, t8, rfl, But.ofL hB (b07.trans b78), hp8.upd nBp.symm, by omega, ?_, upd_same, ?_, wfc.set (hcm sm0) kk' ne' (by rw [enm]; exact tok'), by rw [setR_names, enm]⟩
        · rw [SL, upd_ne nBS.symm]; exact b78 _ _ nSp hS7
        · rw [cut_upd (by simp)]
          refine (hR4.same (Same.trans sC (cut_but b78 (by simp)))).set (hcm sm0) ?_
          obtain ⟨t9, a9, e9, x1, x2⟩ := hrow
          have out : ∀ {c : Addr} {u : HO}, newH H7 H8 c = some u → (cut [p, B] H8) c = some u := fun {c u} e => by
            obtain ⟨e0, e1⟩ := new_some e
            have n1 := hp7.ne e0
            have n2 : c ≠ B := fun z => by rw [z, hB7] at e0; cases e0
            rw [cut_out (by simp [n1, n2])]; exact e1
          exact ⟨t9, a9, e9, out x1, out x2⟩
      · refine ⟨_, _, _, cl, kv', t4, rfl, b06, hp6, by omega, hS6, hB6, hR4.same (cut_same s46), wfc, enm⟩
    · rintro σ H4 ⟨v6, v7, v8, cl, kv', t4, rfl, b04, hp4, tt4, hS4, hB4, hR4, wfc, enm⟩
      refine ⟨_, rfl, _, rfl, W, _, _, _, rfl, rfl, SqL.of (b04 _ _ nWp hW), atI_nat (j := 1) rfl, by show 2 ≤ sizeLine; decide, fun R hR => ?_⟩
      have nRp := hp4.ne hR
      have gR := Same.new (o := .lst [.ref B, .str st]) hR
      refine k _ R cl t4 (b04.newt hR) (hp4.new hR) (by omega) (b04.fr hR nRp) ⟨B, by rw [cut_out (by simpa using nRp)]; exact upd_same, kv', ?_, ?_⟩ wfc
      · rw [cut_out (by simpa using nBp)]; exact gR _ _ hB4
      · exact hR4.same (Same.trans (cut_mono (by simp)) (cut_same gR))
end
end D1
end L2
/-! the law's said_fewer -/
namespace L2
namespace D1
open PySem PySem.Spec PyProof.Rows D2
theorem But.unlock {H H' : Hp} {F a : Addr} {u f : HO} (e : H a = some u) (s : But F (L2.upd H a f) H') : But F H (L2.upd H' a u) := fun c o n ec => by
  by_cases h : c = a
  · subst h; rw [upd_same]; rw [e] at ec; exact ec
  · rw [upd_ne h]; exact s _ _ n (by rw [upd_ne h]; exact ec)
abbrev sSaid : Stmt := top 54
def spSaid : Sp := fun vs H Q _ => ∃ (p W : Addr) (bk : Bk) (st : Str) (ws : List Str) (t : Int), vs = [.ref p, .ref W] ∧ Purse H p t ∧ WorldAt (cut [p] H) W bk st ∧ WF bk st ws ∧ WsOk ws ∧ t < 2 ^ 25 ∧
  ∀ (H' : Hp) (R : Addr) (bk' : Bk) (t' : Int), But p H H' → Purse H' p t' → t' ≤ t + 200 → H R = none → WorldAt (cut [p] H') R bk' st → WF bk' st ws → bk'.map (·.1) = bk.map (·.1) → Q (.ref R) H'
theorem goal_in {ts : List (Str × Str)} {ss ws : List Str} (h : TOk ts ss ws) {k : Str} (m : k ∈ ts.map (·.1)) : goalT ts k ∈ ss := by
  obtain ⟨t, ht, rfl⟩ := List.mem_map.mp m
  rw [goalT_at h.nd ht]; exact h.gs t ht
theorem TOk.pick {ts : List (Str × Str)} {ss ws xs : List Str} (h : TOk ts ss ws) (nd : xs.Nodup) (m : ∀ x ∈ xs, x ∈ ts.map (·.1)) : TOk (xs.map fun x => (x, goalT ts x)) ss ws := by
  refine ⟨by rw [List.map_map]; exact (by rw [show ((fun x : Str × Str => x.1) ∘ fun x => (x, goalT ts x)) = id from rfl, List.map_id]; exact nd), fun t ht => ?_, fun t ht => ?_⟩
  · obtain ⟨x, hx, rfl⟩ := List.mem_map.mp ht
    obtain ⟨u, hu, e⟩ := List.mem_map.mp (m x hx)
    show x ∈ ws
    rw [← e]; exact h.ks u hu
  · obtain ⟨x, hx, rfl⟩ := List.mem_map.mp ht
    exact goal_in h (m x hx)
section
variable {P : Program} {w : World} {K : PySem.W.Frag} {mg : Str → Option Value} {base : Heap}
abbrev sfN : List Str := ["_law_purse_here", "_law_world_here", "_law_book", "_law_state", "_law_kind", "_law_turns_here", "_law_kept", "_law_word_here"]
theorem scSf : FnScope sfN ["_law_purse_here", "_law_world_here"] (defScope sSaid) := ⟨rfl, rfl, rfl, by decide +kernel, rfl, by decide +kernel, by decide +kernel⟩
theorem ok_said {f : Addr} {fd : FuncData} (F : Fun K "_law_said_fewer" "_law_said_fewer" sSaid f fd) (T : Free3 mg) (CD : CDraw P w K mg base) (CS : CShuf P w K mg base) : FnOk P w K mg base CX0 4 f fd ["_law_purse_here", "_law_world_here"] spSaid := by
  refine F.ok scSf (fun vs H Q E h => ?_) (fun cdv A outer s H vs Q E hr h => ?_)
  · obtain ⟨p, W, bk, st, ws, t, rfl, _⟩ := h; rfl
  · obtain ⟨p, W, bk, st, ws, t, rfl, hp, ⟨b, hWc, kvs, hbc, hRc⟩, wf, wok, t1, k⟩ := h
    have hu := hu_of hr
    refine ⟨_, pss_cons (ps_set (i := 2) scSf.nd rfl (Or.inl rfl) (pe_callTy call_dictD (by rfl) T.dict (by decide +kernel) (pa_cons (pe_ix ix_list (pv 1) pe_int (fun _ _ => rfl)) pa_nil)))
      (pss_cons (ps_lock (ps_for PassesOwn.never rfl (pi_keys (pe_ix ix_list (pv 1) pe_int (fun _ _ => rfl))) (pg_name (i := 3) scSf.nd rfl (Or.inl rfl))
        (pss_cons (ps_asg (pe_dget hu (pe_ix ix_list (pv 1) pe_int (fun _ _ => rfl)) (pv 3) (fun _ _ => rfl)) (pg_tup rfl (pgs_cons (pg_name (i := 4) scSf.nd rfl (Or.inl rfl)) (pgs_cons (pg_name (i := 5) scSf.nd rfl (Or.inr rfl)) pgs_nil))))
        (pss_one (ps_if (PW.pt (pw_and (pt_cmpR op_eq (pv 4) pe_str (nomark _)) (pw_and (pt_cmpR op_gt (pe_callB call_lenD (by rfl) T.len PySem.boot_len (pa_cons (pv 5) pa_nil)) pe_int (nomark _)) (pw_and1 (pt_cmpR op_eq (pe_cal CD (hr.mono (by decide)) rfl (pa_cons (pv 0) (pa_cons pe_int pa_nil))) pe_int (nomark _))))))
          (pss_cons (ps_set (i := 6) scSf.nd rfl (Or.inl rfl) (pe_slice sl_list (pe_cal CS (hr.mono (by decide)) rfl (pa_cons (pv 0) (pa_cons (pe_callTy (call_listD rfl) (by rfl) T.list (by decide +kernel) (pa_cons (pv 5) pa_nil)) pa_nil))) po_none
              (po_some (pe_op op_add pe_int (pe_cal CD (hr.mono (by decide)) rfl (pa_cons (pv 0) (pa_cons (pe_op op_sub (pe_callB call_lenD (by rfl) T.len PySem.boot_len (pa_cons (pv 5) pa_nil)) pe_int) pa_nil)))))))
          (pss_one (ps_dput hu (pv 2) (pv 3) (pe_tup (pa_cons (pv 4) (pa_cons (pe_callTy (call_dictP rfl) (by rfl) T.dict (by decide +kernel) (pa_cons (pe_lc (own := [("_law_word_here", 7)]) (g := gName 7) (tt := tYes) (te := tTup (tCons (tVar 7) (tCons (tDGet (tVar 5) (tVar 7)) tNil))) rfl scSf.nd (pi_list (pv 6))
              (blkOk_by (N := sfN) (sc := defScope sSaid) (by decide +kernel)) (fun _ _ _ _ _ => pg_name (i := 7) scSf.nd rfl (Or.inl rfl)) (fun _ _ _ _ _ => pts_nil) (fun _ _ _ _ _ => pe_tup (pa_cons (pv 7) (pa_cons (pe_dget hu (pv 5) (pv 7) (fun _ _ => rfl)) pa_nil)))) pa_nil)) pa_nil))) rfl)))
          pss_nil)))))
      (pss_one (ps_ret (pe_lst (pa_cons (pv 2) (pa_cons (pe_ix ix_list (pv 1) pe_int (fun _ _ => rfl)) pa_nil)))))), ?_⟩
    have hW := cut_le _ _ hWc
    have hb := cut_le _ _ hbc
    have nWp : W ≠ p := (fun e => by rw [e, cut_in (by simp)] at hWc; cases hWc)
    have nbp : b ≠ p := (fun e => by rw [e, cut_in (by simp)] at hbc; cases hbc)
    have nWb : W ≠ b := fun e => by rw [e, hb] at hW; cases hW
    have bne : bk ≠ [] := fun e => by have := wf.st; rw [e] at this; cases this
    refine ⟨_, rfl, W, _, _, _, rfl, rfl, SqL.of hW, atI_nat (j := 0) rfl, b, kvs, rfl, .inl hb, fun B hB => ?_⟩
    have g1 := Same.new (o := .dK kvs) hB
    have eB1 : (L2.upd H B (.dK kvs)) B = some (.dK kvs) := upd_same
    have hp1 := hp.new (o := .dK kvs) hB
    have nBp := hp.ne hB
    have nBb : B ≠ b := (ne_of_none hb hB).symm
    generalize L2.upd H B (.dK kvs) = H1 at g1 eB1 hp1
    refine ⟨b, _, g1 _ _ hb, trivial, fun od => ?_⟩
    have hWL : (L2.upd H1 b (.frz od (.dK kvs))) W = some (.lst [.ref b, .str st]) := by rw [upd_ne nWb]; exact g1 _ _ hW
    refine ⟨_, rfl, W, _, _, _, rfl, rfl, SqL.of hWL, atI_nat (j := 0) rfl, b, od, rfl, .inl ⟨kvs, upd_same, ?_⟩⟩
    have eqH : ∀ {c : Addr} {u : HO}, H c = some u → c ≠ b → (L2.upd H1 b (.frz od (.dK kvs))) c = some u := fun {c u} e n => by rw [upd_ne n]; exact g1 _ _ e
    have hRL0 : Rows (cut [p, B] (L2.upd H1 b (.frz od (.dK kvs)))) kvs bk := by
      refine (hRc.lock (o := .frz od (.dK kvs)) hbc bne).same fun c u e => ?_
      have nc : c ≠ p := fun z => by rw [z, upd_ne nbp.symm, cut_in (by simp)] at e; cases e
      have nc2 : c ≠ B := fun z => by rw [z, upd_ne nBb, cut_out (by simpa using nBp), hB] at e; cases e
      rw [cut_out (by simp [nc, nc2])]
      by_cases h : c = b
      · rw [h] at e ⊢; rw [upd_same] at e ⊢; exact e
      · rw [upd_ne h] at e ⊢; exact g1 _ _ (cut_le _ _ e)
    have hp1L := hp1.upd (o := .frz od (.dK kvs)) nbp.symm
    have lk0 : kvs.length = bk.length := hRc.len
    have lb := wf.len
    -- the locked heap, B unknown
    have bHL : But p (L2.upd H b (.frz od (.dK kvs))) (L2.upd H1 b (.frz od (.dK kvs))) := fun c u _ e => by
      by_cases h : c = b
      · rw [h] at e ⊢; rw [upd_same] at e ⊢; exact e
      · rw [upd_ne h] at e ⊢; exact g1 _ _ e
    have hBL : (L2.upd H b (.frz od (.dK kvs))) B = none := by rw [upd_ne nBb]; exact hB
    have hbL : (L2.upd H b (.frz od (.dK kvs))) b = some (.frz od (.dK kvs)) := upd_same
    have hWL0 : (L2.upd H b (.frz od (.dK kvs))) W = some (.lst [.ref b, .str st]) := by rw [upd_ne nWb]; exact hW
    have eB1L : (L2.upd H1 b (.frz od (.dK kvs))) B = some (.dK kvs) := by rw [upd_ne nBb]; exact eB1
    refine for_it (walk_keys (d := b) (o := od) (kvs := kvs)) (fun i σ H' => ∃ (v3 v4 v5 v6 : Option V) (cl : Bk) (kv' : List (Key × V)) (t' : Int), σ = [some (.ref p), some (.ref W), some (.ref B), v3, v4, v5, v6, none] ∧ But p (L2.upd H b (.frz od (.dK kvs))) H' ∧ Purse H' p t' ∧ t' ≤ t + 10 * i ∧ H' B = some (.dK kv') ∧ Rows (cut [p, B] H') kvs bk ∧ Rows (cut [p, B] H') kv' cl ∧ WF cl st ws ∧ cl.map (·.1) = bk.map (·.1))
      ⟨none, none, none, none, bk, kvs, t, rfl, bHL, hp1L, by omega, eB1L, hRL0, hRL0, wf, rfl⟩ (fun i σ H' _ ⟨_, _, _, _, _, _, _, _, z, _⟩ => z _ _ nbp hbL) ?_ ?_
    · rintro i x σ H3 H4 hi ⟨v3, v4, v5, v6, cl, kv', t4, rfl, b04, hp4, tt4, hB4, hR4, hS4, wfc, enm⟩ ⟨rfl, kk, v0, hkv, rfl⟩
      obtain ⟨r, hr', rfl, _⟩ := hRc.at hkv
      have hrm : r ∈ bk := List.mem_of_getElem? hr'
      have hs : r.1 ∈ bk.map (·.1) := List.mem_map_of_mem hrm
      have hcs : r.1 ∈ cl.map (·.1) := by rw [enm]; exact hs
      obtain ⟨v, ev, ⟨tu, a, rfl, htu, ha⟩, _⟩ := hR4.look hs
      rw [rowOf_self wf.nd hrm] at htu ha
      have hb4 := b04 _ _ nbp hbL
      have hW4 := b04 _ _ nWp hWL0
      have il : i < bk.length := (List.getElem?_eq_some_iff.mp hr').1
      have lkv : kv'.length ≤ 6 := by rw [hS4.len, ← List.length_map (·.1), enm, List.length_map]; exact lb
      have htu0 := cut_le _ _ htu
      have ha0 : TurnsAt H4 a r.2.2 := cut_le _ _ ha
      have nap : a ≠ p := fun e => by rw [TurnsAt, e, cut_in (by simp)] at ha; cases ha
      have naB : a ≠ B := fun e => by rw [TurnsAt, e, cut_in (by simp)] at ha; cases ha
      refine ⟨_, rfl, W, _, _, _, rfl, rfl, SqL.of hW4, atI_nat (j := 0) rfl, _, rfl, b, _, rfl, .inl ⟨kvs, .inr r.1, .inr ⟨od, hb4⟩, rfl, ev.symm⟩, tu, _, rfl, SqT.of htu0, rfl, _, _, rfl, _, _, rfl, rfl, ?_⟩
      refine ⟨_, rfl, rfl, _, rfl, ite2 (fun c1 => ?_) (fun c1 => iteF ⟨_, _, _, _, cl, kv', t4, rfl, b04, hp4, by omega, hB4, hR4, hS4, wfc, enm⟩)⟩
      have e1 : r.2.1 = "says" := V.str.inj (of_decide_eq_true c1)
      have tok : TOk r.2.2 (bk.map (·.1)) ws := by
        have := (wf.rs r hrm).2
        rcases this with ⟨z, _⟩ | ⟨_, _, z⟩
        · rw [z] at e1; exact absurd e1 (by decide +kernel)
        · exact z
      have lts := tok.len
      have whi := wok.hi
      have kl : (kT r.2.2).length = r.2.2.length := by rw [kT, List.length_map]
      refine ⟨_, rfl, a, _, rfl, ha0, _, _, rfl, rfl, _, rfl, ite2 (fun c2 => ?_) (fun c2 => iteF ⟨_, _, _, _, cl, kv', t4, rfl, b04, hp4, by omega, hB4, hR4, hS4, wfc, enm⟩)⟩
      have l2 : 1 < r.2.2.length := by have := of_decide_eq_true c2; rw [kl] at this; omega
      refine ⟨_, rfl, p, 2, t4, rfl, hp4, by decide, by decide, by omega, fun rr t5 o5 r0 r1 tt5 hp5 => ?_⟩
      have b45 := But.upd p H4 o5
      generalize L2.upd H4 p o5 = H5 at b45 hp5
      have b05 := b04.trans b45
      have hB5 := b45 _ _ nBp hB4
      have hR5 := hR4.same (cut_but b45 (by simp))
      have hS5 := hS4.same (cut_but b45 (by simp))
      refine ⟨rfl, _, rfl, ite2 (fun c3 => ?_) (fun c3 => ⟨_, _, _, _, cl, kv', t5, rfl, b05, hp5, by omega, hB5, hR5, hS5, wfc, enm⟩)⟩
      have ha5 : TurnsAt H5 a r.2.2 := b45 _ _ nap ha0
      have ek : (kT r.2.2).map (fun kv => kV kv.1) = (r.2.2.map (·.1)).map V.str := by rw [kT, List.map_map, List.map_map]; rfl
      refine ⟨_, rfl, _, rfl, a, kT r.2.2, rfl, .inl ha5, fun q hq => ?_⟩
      rw [ek]
      refine ⟨p, q, _, t5, rfl, hp5.new hq, upd_same, hp5.ne hq, by rw [List.length_map, List.length_map]; omega, by omega, fun H6 R6 ys t6 b6 nR6 hy pm hp6 tt6 => ?_⟩
      obtain ⟨zs, rfl, pz⟩ := perm_str pm
      rw [List.length_map, List.length_map] at tt6
      have b56 : But p H5 H6 := (But.new hq).trans b6
      have ha6 : TurnsAt H6 a r.2.2 := b56 _ _ nap ha5
      have nR6p : R6 ≠ p := fun e => by
        obtain ⟨g, bb, z, ep, _⟩ := hp5.new (o := .lst ((r.2.2.map (·.1)).map V.str)) hq
        rw [e, ep] at nR6; cases nR6
      have lz : zs.length = r.2.2.length := by rw [pz.length_eq, List.length_map]
      refine ⟨_, rfl, _, rfl, a, _, rfl, ha6, _, _, rfl, rfl, p, _, t6, rfl, hp6, by rw [kl]; omega, by rw [kl]; omega, by omega, fun r7 t7 o7 y0 y1 tt7 hp7 => ?_⟩
      have b67 := But.upd p H6 o7
      have hz7 : SL (L2.upd H6 p o7) R6 zs := by rw [SL, upd_ne nR6p]; exact hy
      generalize L2.upd H6 p o7 = H7 at b67 hp7 hz7
      refine ⟨_, _, rfl, rfl, _, rfl, R6, _, rfl, SqL.of hz7, fun q7 hq7 => ?_⟩
      rw [cutV_map, cutL_to _ (by omega)]
      have hm : 1 ≤ (1 + r7).toNat := by omega
      generalize (1 + r7).toNat = m at hm
      have lx : 1 ≤ (zs.take m).length ∧ (zs.take m).length ≤ 6 := by rw [List.length_take]; omega
      have xm : ∀ x ∈ zs.take m, x ∈ r.2.2.map (·.1) := fun x hx => pz.mem_iff.mp (List.mem_of_mem_take hx)
      have ndx : (zs.take m).Nodup := List.Nodup.sublist (List.take_sublist _ _) (pz.nodup_iff.mpr tok.nd)
      generalize zs.take m = xs at lx xm ndx
      have g8 := Same.new (o := .lst (xs.map V.str)) hq7
      have hq8 : SL (L2.upd H7 q7 (.lst (xs.map V.str))) q7 xs := upd_same
      have hp8 := hp7.new (o := .lst (xs.map V.str)) hq7
      generalize L2.upd H7 q7 (.lst (xs.map V.str)) = H8 at g8 hq8 hp8
      have b58 : But p H5 H8 := (b56.trans b67).trans (But.of g8)
      have ha8 : TurnsAt H8 a r.2.2 := b58 _ _ nap ha5
      refine ⟨_, rfl, _, rfl, q7, rfl, ⟨_, hq8.sq⟩, fun D hD => ?_⟩
      refine lc_list (K := K) (a := q7) (xs := xs.map V.str) (fun j H' => Same H8 H' ∧ ∃ qs : List Addr, H' D = some (.lst (qs.map V.ref)) ∧ Paired (fun a (kv : Key × V) => (cut [D] H') a = some (.tup [kV kv.1, kv.2])) qs (kT ((xs.take j).map fun x => (x, goalT r.2.2 x)))) ⟨Same.new hD, [], upd_same, .nil⟩ (fun j H' _ z => (hq8.same z.1).sq) ?_ ?_
      · rintro j v H9 hx0 ⟨sm, qs, hD5, hpr⟩
        obtain ⟨x, hxj, rfl⟩ := get_map hx0
        have xmm := xm x (List.mem_of_getElem? hxj)
        refine ⟨rfl, ?_⟩
        dsimp only [tYes]
        rw [if_pos rfl]
        refine ⟨_, rfl, _, rfl, _, rfl, a, _, rfl, .inl ⟨kT r.2.2, .inr x, .inl (ha8.same sm), rfl, (valV_goal xmm).symm⟩, by show 2 ≤ sizeLine; decide, fun T1 hT1 => ?_⟩
        have g := Same.new (o := .tup [.str x, .str (goalT r.2.2 x)]) hT1
        have nT : T1 ≠ D := fun e => by rw [e, hD5] at hT1; cases hT1
        have lqs : qs.length ≤ 60 := by rw [paired_len hpr, kT, List.length_map, List.length_map, List.length_take]; omega
        refine ⟨_, g _ _ hD5, by rw [List.length_map, sizeLine_eq]; omega, fun c u e => ?_, qs ++ [T1], by rw [upd_same, List.map_append]; rfl, ?_⟩
        · rw [upd_ne (ne_of_none e hD)]; exact g _ _ (sm _ _ e)
        · rw [cut_upd (by simp), take_succ_get hxj, List.map_append, kT_app]
          exact pair_app (paired_imp (fun p kv e => cut_same g _ _ e) hpr) (by rw [cut_out (by simpa using nT)]; exact upd_same)
      rintro H9 ⟨s89, qs, hD9, hpr⟩
      rw [List.length_map, List.take_length] at hpr
      refine ⟨D, qs, kT (xs.map fun x => (x, goalT r.2.2 x)), rfl, SqL.of hD9, paired_imp (fun p kv e => SqT.of (cut_le _ _ e)) hpr, fun T hT => ?_⟩
      have tok' : TOk (xs.map fun x => (x, goalT r.2.2 x)) (bk.map (·.1)) ws := tok.pick ndx xm
      have zne : (xs.map fun x => (x, goalT r.2.2 x)) ≠ [] := fun e => by have := congrArg List.length e; rw [List.length_map] at this; rw [this] at lx; exact absurd lx.1 (by decide)
      generalize (xs.map fun x => (x, goalT r.2.2 x)) = zt at tok' zne hT
      rw [merge_id2 (by rw [kT_keys2]; exact inr_nd' tok'.nd)]
      have g10 := Same.new (o := .dK (kT zt)) hT
      have hT10 : TurnsAt (L2.upd H9 T (.dK (kT zt))) T zt := upd_same
      have hp9 := hp8.same s89
      have hp10 := hp9.new (o := .dK (kT zt)) hT
      have nTp := hp9.ne hT
      have b59 : But p H5 H9 := b58.trans (But.of s89)
      have nTB : T ≠ B := fun e => by rw [e, b59 _ _ nBp hB5] at hT; cases hT
      generalize L2.upd H9 T (.dK (kT zt)) = H10 at g10 hT10 hp10
      refine ⟨by show 2 ≤ sizeLine; decide, fun T1 hT1 => ?_⟩
      have b510 := b59.trans (But.of g10)
      have nT1p := hp10.ne hT1
      have nT1B : T1 ≠ B := fun e => by rw [e, b510 _ _ nBp hB5] at hT1; cases hT1
      have g11 := Same.new (o := .tup [.str r.2.1, .ref T]) hT1
      have e11 : (L2.upd H10 T1 (.tup [.str r.2.1, .ref T])) T1 = some (.tup [.str r.2.1, .ref T]) := upd_same
      have hp11 := hp10.new (o := .tup [.str r.2.1, .ref T]) hT1
      generalize L2.upd H10 T1 (.tup [.str r.2.1, .ref T]) = H11 at g11 e11 hp11
      have b511 := b510.trans (But.of g11)
      refine ⟨_, rfl, _, rfl, B, _, rfl, DPut.k (kvs := kv') (k := Sum.inr r.1) (b511 _ _ nBp hB5) (by rw [sizeLine_eq]; omega), ?_⟩
      refine ⟨_, _, _, _, setR cl r.1 r.2.1 zt, _, t7, rfl, But.ofL hBL (b05.trans b511), hp11.upd nBp.symm, by omega, upd_same, ?_, ?_, wfc.set hcs (.inl e1) zne (by rw [enm]; exact tok'), by rw [setR_names, enm]⟩
      · rw [cut_upd (by simp)]
        exact hR5.same (cut_but b511 (by simp))
      · rw [cut_upd (by simp)]
        refine (hS5.same (cut_but b511 (by simp))).set hcs ⟨T1, T, rfl, ?_, ?_⟩
        · rw [cut_out (by simp [nT1p, nT1B])]; exact e11
        · rw [TurnsAt, cut_out (by simp [nTp, nTB])]; exact g11 _ _ hT10
    · rintro σ H4 ⟨v3, v4, v5, v6, cl, kv', t4, rfl, b04, hp4, tt4, hB4, hR4, hS4, wfc, enm⟩
      rw [lk0] at tt4
      have hb4 := b04 _ _ nbp hbL
      have bu := But.unlock hb b04
      have hSu : Rows (cut [p, B] (L2.upd H4 b (.dK kvs))) kv' cl := by
        have hbc4 : (cut [p, B] H4) b = some (.frz od (.dK kvs)) := by rw [cut_out (by simp [nbp, nBb.symm])]; exact hb4
        refine (rows_unl (o := .dK kvs) hbc4 hS4).same fun c u e => ?_
        by_cases h : c = b
        · rw [h, cut_out (by simp [nbp, nBb.symm]), upd_same]; rw [h, upd_same] at e; exact e
        · rw [upd_ne h] at e
          obtain ⟨n1, e⟩ := cut_some e
          rw [cut_out n1, upd_ne h]; exact e
      refine ⟨hb4, ?_⟩
      have hBu : (L2.upd H4 b (.dK kvs)) B = some (.dK kv') := by rw [upd_ne nBb]; exact hB4
      have hpu := hp4.upd (o := .dK kvs) nbp.symm
      generalize L2.upd H4 b (.dK kvs) = H5 at bu hSu hBu hpu
      refine ⟨_, rfl, _, rfl, W, _, _, _, rfl, rfl, SqL.of (bu _ _ nWp hW), atI_nat (j := 1) rfl, by show 2 ≤ sizeLine; decide, fun R hR => ?_⟩
      have nRp := hpu.ne hR
      have gR := Same.new (o := .lst [.ref B, .str st]) hR
      refine k _ R cl t4 (bu.newt hR) (hpu.new hR) (by omega) (bu.fr hR nRp) ⟨B, by rw [cut_out (by simpa using nRp)]; exact upd_same, kv', ?_, ?_⟩ wfc enm
      · rw [cut_out (by simpa using nBp)]; exact gR _ _ hBu
      · exact hSu.same (Same.trans (cut_mono (by simp)) (cut_same gR))
end
end D1
end L2
/-! the law's _law_ended -/
namespace L2
namespace D1
open PySem PySem.Spec PyProof.Rows D2 X5 X6
abbrev sEnded : Stmt := top 61
def spEnded : Sp := fun vs H Q _ => ∃ (p W : Addr) (bk : Bk) (st : Str) (ws : List Str) (t : Int), vs = [.ref p, .ref W] ∧ Purse H p t ∧ WorldAt (cut [p] H) W bk st ∧ WF bk st ws ∧ WsOk ws ∧ t < 2 ^ 25 ∧
  ∀ (H' : Hp) (R : Addr) (st' : Str) (t' : Int), But p H H' → WorldAt (cut [p] H') R bk st' → WF bk st' ws → Purse H' p t' → t' ≤ t + 2 → Q (.ref R) H'
/-- the names of the rows that are done -/
def doneW (bk : Bk) : List Str := (bk.filter fun r : RowD => decide (r.2.1 = ("done" : Str))).map (·.1)
theorem doneW_yes {bk : Bk} {r : RowD} {j : Nat} (h : bk[j]? = some r) (c : r.2.1 = "done") : doneW (bk.take (j + 1)) = doneW (bk.take j) ++ [r.1] := by
  rw [take_succ_get h, doneW, List.filter_append, List.filter_cons_of_pos (by exact decide_eq_true c), List.map_append]; rfl
theorem doneW_no {bk : Bk} {r : RowD} {j : Nat} (h : bk[j]? = some r) (c : ¬ r.2.1 = "done") : doneW (bk.take (j + 1)) = doneW (bk.take j) := by
  rw [take_succ_get h, doneW, List.filter_append, List.filter_cons_of_neg (by simpa using c), List.filter_nil, List.append_nil]; rfl
section
variable {P : Program} {w : World} {K : PySem.W.Frag} {mg : Str → Option Value} {base : Heap}
abbrev enN : List Str := ["_law_purse_here", "_law_world_here", "_law_done", "_law_state"]
theorem scEn : FnScope enN ["_law_purse_here", "_law_world_here"] (defScope sEnded) := ⟨rfl, rfl, rfl, by decide +kernel, rfl, by decide +kernel, by decide +kernel⟩
theorem ok_ended {f : Addr} {fd : FuncData} (F : Fun K "_law_ended" "_law_ended" sEnded f fd) (CD : CDraw P w K mg base) (CO : COne P w K mg base) : FnOk P w K mg base CX0 5 f fd ["_law_purse_here", "_law_world_here"] spEnded := by
  refine F.ok scEn (fun vs H Q E h => ?_) (fun cdv A outer s H vs Q E0' hr h => ?_)
  · obtain ⟨p, W, bk, st, ws, t, rfl, _⟩ := h; rfl
  · obtain ⟨p, W, bk, st, ws, t, rfl, hp, hWW, wf, wok, t1, k⟩ := h
    have hu := hu_of hr
    refine ⟨_, pss_cons (ps_lock (ps_setLc (i := 2) (own := [("_law_state", 3)]) (g := gName 3) (tt := tTest (tOp rEq (tOp (rIxT K) (tDGet (tOp (rIxL K) (tVar 1) (tC (.int 0))) (tVar 3)) (tC (.int 0))) (tC (.str "done")))) (te := tVar 3) rfl scEn.nd rfl rfl (sw_true rfl rfl rfl rfl) (pi_keys (pe_ix ix_list (pv 1) pe_int (fun _ _ => rfl)))
        (blkOk_by (N := enN) (sc := defScope sEnded) (by decide +kernel)) (fun _ _ _ _ _ => pg_name (i := 3) scEn.nd rfl (Or.inl rfl))
        (fun _ _ _ _ _ => pts_one (pt_cmpR op_eq (pe_ix ix_tup (pe_dget hu (pe_ix ix_list (pv 1) pe_int (fun _ _ => rfl)) (pv 3) (fun _ _ => rfl)) pe_int (fun _ _ => rfl)) pe_str rfl)) (fun _ _ _ _ _ => pv 3)))
      (pss_one (ps_ret (pe_ifExp (PW.pt (pw_and (pt_cmpR (op_neD hr.units) (pv 2) (pe_lst pa_nil) (by rfl)) (pw_and1 (pt_cmpR op_eq (pe_cal CD (hr.mono (by decide)) rfl (pa_cons (pv 0) (pa_cons pe_int pa_nil))) pe_int (nomark _)))))
        (pe_lst (pa_cons (pe_ix ix_list (pv 1) pe_int (fun _ _ => rfl)) (pa_cons (pe_cal CO (hr.mono (by decide)) rfl (pa_cons (pv 0) (pa_cons (pv 2) pa_nil))) pa_nil))) (pv 1)))), ?_⟩
    obtain ⟨b, hWc, kvs, hbc, hRc⟩ := id hWW
    have hW := cut_le _ _ hWc
    have hb := cut_le _ _ hbc
    have nWp : W ≠ p := (fun e => by rw [e, cut_in (by simp)] at hWc; cases hWc)
    have nbp : b ≠ p := (fun e => by rw [e, cut_in (by simp)] at hbc; cases hbc)
    have nWb : W ≠ b := fun e => by rw [e, hb] at hW; cases hW
    have lk0 : kvs.length = bk.length := hRc.len
    have lb := wf.len
    refine ⟨b, _, hb, trivial, fun od => ?_⟩
    have hWL : (L2.upd H b (.frz od (.dK kvs))) W = some (.lst [.ref b, .str st]) := by rw [upd_ne nWb]; exact hW
    refine ⟨_, rfl, W, _, _, _, rfl, rfl, SqL.of hWL, atI_nat (j := 0) rfl, b, od, rfl, .inl ⟨kvs, upd_same, fun M hM => ?_⟩⟩
    have nMb : M ≠ b := fun e => by rw [e, upd_same] at hM; cases hM
    refine lc_it (walk_keys (d := b) (o := od) (kvs := kvs)) (fun j H' => Same (L2.upd H b (.frz od (.dK kvs))) H' ∧ SL H' M (doneW (bk.take j))) ⟨Same.new hM, upd_same⟩ (fun j H' _ z => z.1 _ _ upd_same) ?_ ?_
    · rintro j x H2 H3 hj ⟨sm, hM2⟩ ⟨rfl, kk, v0, hkv, rfl⟩
      obtain ⟨r, hr', rfl, tu, a, rfl, htu, ha⟩ := hRc.at hkv
      have ev : valV kvs (.inr r.1) = some (.ref tu) := val_at (by rw [hRc.keys]; have := inr_nd' wf.nd; rw [List.map_map] at this; exact this) hkv
      have htu := cut_le _ _ htu
      have nb : tu ≠ b := fun e => by rw [e, hb] at htu; cases htu
      have htu3 := sm _ _ (show (L2.upd H b (.frz od (.dK kvs))) tu = _ by rw [upd_ne nb]; exact htu)
      have il : j < bk.length := (List.getElem?_eq_some_iff.mp hr').1
      have ll : (doneW (bk.take j)).length ≤ 6 := by
        rw [doneW, List.length_map]
        have := List.length_filter_le (fun r : RowD => decide (r.2.1 = ("done" : Str))) (bk.take j)
        rw [List.length_take] at this
        omega
      refine ⟨rfl, _, rfl, W, _, _, _, rfl, rfl, SqL.of (sm _ _ hWL), atI_nat (j := 0) rfl, _, rfl, b, _, rfl, .inl ⟨kvs, .inr r.1, .inr ⟨od, sm _ _ upd_same⟩, rfl, ev.symm⟩, tu, _, _, _, rfl, rfl, SqT.of htu3, atI_nat (j := 0) rfl, rfl, _, rfl, ite2 (fun c => ?_) (fun c => ?_)⟩
      · have c' : r.2.1 = "done" := V.str.inj (of_decide_eq_true c)
        refine ⟨_, rfl, _, hM2, by rw [List.length_map, sizeLine_eq]; omega, fun c0 u e => ?_, ?_⟩
        · rw [upd_ne (ne_of_none e hM)]; exact sm _ _ e
        · rw [doneW_yes hr' c', SL, upd_same, List.map_append]; rfl
      · have c' : ¬ r.2.1 = "done" := fun e => c (by rw [e]; exact decide_eq_true rfl)
        rw [doneW_no hr' c']
        exact ⟨sm, hM2⟩
    rintro H2 ⟨sm, hM2⟩
    rw [lk0, List.take_length] at hM2
    have su := Same.unlock hb sm
    refine ⟨sm _ _ upd_same, ?_⟩
    have hM3 : SL (L2.upd H2 b (.dK kvs)) M (doneW bk) := by rw [SL, upd_ne nMb]; exact hM2
    have nM0 : H M = none := by rw [upd_ne nMb] at hM; exact hM
    generalize L2.upd H2 b (.dK kvs) = H3 at su hM3
    have zm : ∀ s ∈ doneW bk, s ∈ bk.map (·.1) := fun s hs => by
      obtain ⟨r, hr, e⟩ := List.mem_map.mp hs
      rw [← e]; exact List.mem_map_of_mem (List.mem_filter.mp hr).1
    have zw : ∀ s ∈ doneW bk, Wd s := fun s hs => by
      obtain ⟨q, hq, e⟩ := List.mem_map.mp (zm s hs)
      rw [← e]; exact (wf.rs q hq).1
    have lz : (doneW bk).length ≤ 6 := by rw [doneW, List.length_map]; exact Nat.le_trans (List.length_filter_le _ _) lb
    generalize doneW bk = zs at hM3 zm zw lz
    refine ⟨_, rfl, by show 0 ≤ sizeLine; decide, fun N hN => ?_⟩
    have g6 := Same.new (o := .lst []) hN
    have hN6 : SL (L2.upd H3 N (.lst [])) N [] := upd_same
    generalize L2.upd H3 N (.lst []) = H6 at g6 hN6
    have s06 := Same.trans su g6
    have hp6 := hp.same s06
    have nMp : M ≠ p := hp.ne nM0
    have back : ∀ {H' : Hp} {t' : Int}, But p H H' → Purse H' p t' → t' ≤ t + 2 → WorldAt (cut [p] H') W bk st := fun bb _ _ => hWW.same (cut_but bb (by simp))
    refine ⟨dW zs, dW [], dp_words (hM3.same g6), dp_words hN6, sh_words zw, sh_words (fun _ h => by cases h), _, rfl, ?_⟩
    rw [eqv_nil]
    refine ite2 (fun c => ?_) (fun c => iteF ⟨_, rfl, k H6 W st t (But.of s06) (back (But.of s06) hp6 (by omega)) wf hp6 (by omega)⟩)
    have zne : zs ≠ [] := fun e => by rw [e] at c; exact absurd c (by decide)
    have zpos := List.length_pos_iff.mpr zne
    refine ⟨_, rfl, p, 10, t, rfl, hp6, by decide, by decide, by omega, fun r t7 o7 r0 r1 tt7 hp7 => ?_⟩
    have b67 := But.upd p H6 o7
    have hM7 : SL (L2.upd H6 p o7) M zs := by rw [SL, upd_ne nMp]; exact hM3.same g6
    generalize L2.upd H6 p o7 = H7 at b67 hp7 hM7
    have b07 := (But.of s06).trans b67
    refine ⟨rfl, _, rfl, ite2 (fun _ => ?_) (fun _ => ⟨_, rfl, k H7 W st t7 b07 (back b07 hp7 (by omega)) wf hp7 (by omega)⟩)⟩
    refine ⟨_, rfl, W, _, _, _, rfl, rfl, SqL.of (b07 _ _ nWp hW), atI_nat (j := 0) rfl, _, rfl, _, rfl, p, M, _, t7, rfl, hp7, hM7, nMp, by rw [List.length_map]; omega, by rw [List.length_map]; omega, by omega, fun j v t8 o8 hj tt8 hp8 => ?_⟩
    obtain ⟨s, hsj, rfl⟩ := get_map hj
    have b78 := But.upd p H7 o8
    generalize L2.upd H7 p o8 = H8 at b78 hp8
    have b08 := b07.trans b78
    refine ⟨by show 2 ≤ sizeLine; decide, fun R hR => ?_⟩
    have nRp := hp8.ne hR
    have gR := Same.new (o := .lst [.ref b, .str s]) hR
    have bR := b08.trans (But.of gR)
    refine k _ R s t8 bR ⟨b, by rw [cut_out (by simpa using nRp)]; exact upd_same, ?_⟩ ⟨wf.nd, wf.rs, zm s (List.mem_of_getElem? hsj), wf.len⟩ (hp8.new hR) (by omega)
    exact (show BookAt (cut [p] H) b bk from ⟨kvs, hbc, hRc⟩).same (cut_but bR (by simp))
end
end D1
end L2
/-! the law's _law_safer -/
namespace L2
namespace D1
open PySem PySem.Spec PyProof.Rows D2 X5 X6
abbrev sSafer : Stmt := top 63
def spSafer : Sp := fun vs H Q _ => ∃ (p W L : Addr) (bk : Bk) (st : Str) (ws : List Str) (t : Int), vs = [.ref p, .ref W, .ref L] ∧ Purse H p t ∧ WorldAt (cut [p] H) W bk st ∧ SL H L ws ∧ L ≠ p ∧ WF bk st ws ∧ WsOk ws ∧ t < 2 ^ 24 ∧
  ∀ (H' : Hp) (R : Addr) (bk' : Bk) (t' : Int), But p H H' → Purse H' p t' → t' ≤ t + 300 → H R = none → WorldAt (cut [p] H') R bk' st → WF bk' st ws → Q (.ref R) H'
theorem TOk.more {ts : List (Str × Str)} {ss ws : List Str} {k v : Str} (h : TOk ts ss ws) (n : k ∉ ts.map (·.1)) (hk : k ∈ ws) (hv : v ∈ ss) : TOk (ts ++ [(k, v)]) ss ws := by
  refine ⟨by rw [List.map_append]; exact nodup_app h.nd n, fun t ht => ?_, fun t ht => ?_⟩ <;> rcases List.mem_append.mp ht with z | z
  · exact h.ks t z
  · rw [List.mem_singleton.mp z]; exact hk
  · exact h.gs t z
  · rw [List.mem_singleton.mp z]; exact hv
theorem paired_with {α β : Type} {R : α → β → Prop} {p : α → Prop} : ∀ {xs : List α} {ys : List β}, Paired R xs ys → (∀ x ∈ xs, p x) → Paired (fun x y => p x ∧ R x y) xs ys
  | _, _, .nil, _ => .nil
  | _, _, .cons h r, g => .cons ⟨g _ (by simp), h⟩ (paired_with r fun x hx => g x (List.mem_cons_of_mem _ hx))
section
variable {P : Program} {w : World} {K : PySem.W.Frag} {mg : Str → Option Value} {base : Heap}
abbrev CSaid (P : Program) (w : World) (K : PySem.W.Frag) (mg : Str → Option Value) (base : Heap) := Cal P w K mg base "_law_said_fewer" 4 ["_law_purse_here", "_law_world_here"] spSaid
abbrev saN : List Str := ["_law_purse_here", "_law_world_here", "_law_words_here", "_law_book", "_law_state", "_law_kind", "_law_turns_here", "_law_free", "_law_word_here"]
theorem scSaf : FnScope saN ["_law_purse_here", "_law_world_here", "_law_words_here"] (defScope sSafer) := ⟨rfl, rfl, rfl, by decide +kernel, rfl, by decide +kernel, by decide +kernel⟩
theorem ok_safer {f : Addr} {fd : FuncData} (F : Fun K "_law_safer" "_law_safer" sSafer f fd) (T : Free3 mg) (CD : CDraw P w K mg base) (CO : COne P w K mg base) (CS : CSaid P w K mg base) : FnOk P w K mg base CX0 5 f fd ["_law_purse_here", "_law_world_here", "_law_words_here"] spSafer := by
  refine F.ok scSaf (fun vs H Q E h => ?_) (fun cdv A outer s H vs Q E hr h => ?_)
  · obtain ⟨p, W, L, bk, st, ws, t, rfl, _⟩ := h; rfl
  · obtain ⟨p, W, L, bk, st, ws, t, rfl, hp, hWW, hL, nL, wf, wok, t1, k⟩ := h
    have hu := hu_of hr
    refine ⟨_, pss_cons (ps_set (i := 3) scSaf.nd rfl (Or.inl rfl) (pe_callTy call_dictD (by rfl) T.dict (by decide +kernel) (pa_cons (pe_ix ix_list (pe_cal CS (hr.mono (by decide)) rfl (pa_cons (pv 0) (pa_cons (pv 1) pa_nil))) pe_int (fun _ _ => rfl)) pa_nil)))
      (pss_cons (ps_lock (ps_for PassesOwn.never rfl (pi_keys (pe_ix ix_list (pv 1) pe_int (fun _ _ => rfl))) (pg_name (i := 4) scSaf.nd rfl (Or.inl rfl))
        (pss_cons (ps_asg (pe_dget hu (pv 3) (pv 4) (fun _ _ => rfl)) (pg_tup rfl (pgs_cons (pg_name (i := 5) scSaf.nd rfl (Or.inl rfl)) (pgs_cons (pg_name (i := 6) scSaf.nd rfl (Or.inr rfl)) pgs_nil))))
        (pss_cons (ps_setLc (i := 7) (own := [("_law_word_here", 8)]) (g := gName 8) (tt := tTest (tDNotIn (tVar 8) (tVar 6))) (te := tVar 8) rfl scSaf.nd rfl rfl (sw_true rfl rfl rfl rfl) (pi_list (pv 2))
            (blkOk_by (N := saN) (sc := defScope sSafer) (by decide +kernel)) (fun _ _ _ _ _ => pg_name (i := 8) scSaf.nd rfl (Or.inl rfl)) (fun _ _ _ _ _ => pts_one (pt_cmp (pc_dnotin hu (pv 8) (pv 6)) rfl)) (fun _ _ _ _ _ => pv 8))
        (pss_one (ps_if (PW.pt (pw_and (pt_cmpR op_eq (pv 5) pe_str (nomark _)) (pw_and (pt_cmpR (op_neD hr.units) (pv 7) (pe_lst pa_nil) (by rfl)) (pw_and1 (pt_cmpR op_eq (pe_cal CD (hr.mono (by decide)) rfl (pa_cons (pv 0) (pa_cons pe_int pa_nil))) pe_int (nomark _))))))
          (pss_one (ps_dput hu (pv 3) (pv 4) (pe_tup (pa_cons (pv 5) (pa_cons (pe_callTy (call_dictP rfl) (by rfl) T.dict (by decide +kernel) (pa_cons (pe_op op_cat (LiI.pe_listItems rfl (pv 6) (by rfl) T.list (by decide +kernel)) (pe_lst (pa_cons (pe_tup (pa_cons (pe_cal CO (hr.mono (by decide)) rfl (pa_cons (pv 0) (pa_cons (pv 7) pa_nil)))
              (pa_cons (pe_cal CO (hr.mono (by decide)) rfl (pa_cons (pv 0) (pa_cons (pe_callTy (call_listD rfl) (by rfl) T.list (by decide +kernel) (pa_cons (pe_ix ix_list (pv 1) pe_int (fun _ _ => rfl)) pa_nil)) pa_nil))) pa_nil))) pa_nil))) pa_nil)) pa_nil))) rfl))
          pss_nil))))))
      (pss_one (ps_ret (pe_lst (pa_cons (pv 3) (pa_cons (pe_ix ix_list (pv 1) pe_int (fun _ _ => rfl)) pa_nil)))))), ?_⟩
    obtain ⟨b, hWc, kvs, hbc, hRc⟩ := id hWW
    have hW := cut_le _ _ hWc
    have hb := cut_le _ _ hbc
    have nWp : W ≠ p := (fun e => by rw [e, cut_in (by simp)] at hWc; cases hWc)
    have nbp : b ≠ p := (fun e => by rw [e, cut_in (by simp)] at hbc; cases hbc)
    have nWb : W ≠ b := fun e => by rw [e, hb] at hW; cases hW
    have nLb : L ≠ b := fun e => by rw [SL, e, hb] at hL; cases hL
    have bne : bk ≠ [] := fun e => by have := wf.st; rw [e] at this; cases this
    have lk0 : kvs.length = bk.length := hRc.len
    have lb := wf.len
    have ekn : kvs.map (fun kv => kV kv.1) = (bk.map (·.1)).map V.str := by
      have := congrArg (List.map kV) hRc.keys
      rw [List.map_map, List.map_map] at this
      rw [List.map_map]; exact this
    refine ⟨_, rfl, _, rfl, p, W, bk, st, ws, t, rfl, hp, hWW, wf, wok, by omega, fun H1 R0 bk1 t1' b1 hp1 tt1 nR0 hR0 wf1 enm1 => ?_⟩
    obtain ⟨b0, hRc0, kvs0, hb0c, hS0⟩ := id hR0
    refine ⟨R0, _, _, _, rfl, rfl, SqL.of (cut_le _ _ hRc0), atI_nat (j := 0) rfl, b0, kvs0, rfl, .inl (cut_le _ _ hb0c), fun B hB => ?_⟩
    have g1 := Same.new (o := .dK kvs0) hB
    have eB1 : (L2.upd H1 B (.dK kvs0)) B = some (.dK kvs0) := upd_same
    have hp2 := hp1.new (o := .dK kvs0) hB
    have nBp := hp1.ne hB
    have b02 := b1.trans (But.of g1)
    have hb1 := b1 _ _ nbp hb
    have nBb : B ≠ b := (ne_of_none hb1 hB).symm
    have hB0 : H B = none := b1.fr hB nBp
    generalize L2.upd H1 B (.dK kvs0) = H2 at g1 eB1 hp2 b02
    refine ⟨b, _, b02 _ _ nbp hb, trivial, fun od => ?_⟩
    have hb2 := b02 _ _ nbp hb
    have hWL : (L2.upd H2 b (.frz od (.dK kvs))) W = some (.lst [.ref b, .str st]) := by rw [upd_ne nWb]; exact b02 _ _ nWp hW
    refine ⟨_, rfl, W, _, _, _, rfl, rfl, SqL.of hWL, atI_nat (j := 0) rfl, b, od, rfl, .inl ⟨kvs, upd_same, ?_⟩⟩
    have bHL : But p (L2.upd H b (.frz od (.dK kvs))) (L2.upd H2 b (.frz od (.dK kvs))) := fun c u n e => by
      by_cases h : c = b
      · rw [h] at e ⊢; rw [upd_same] at e ⊢; exact e
      · rw [upd_ne h] at e ⊢; exact b02 _ _ n e
    have hBL : (L2.upd H b (.frz od (.dK kvs))) B = none := by rw [upd_ne nBb]; exact hB0
    have hbL : (L2.upd H b (.frz od (.dK kvs))) b = some (.frz od (.dK kvs)) := upd_same
    have hWL0 : (L2.upd H b (.frz od (.dK kvs))) W = some (.lst [.ref b, .str st]) := by rw [upd_ne nWb]; exact hW
    have hLL0 : SL (L2.upd H b (.frz od (.dK kvs))) L ws := by rw [SL, upd_ne nLb]; exact hL
    have eB1L : (L2.upd H2 b (.frz od (.dK kvs))) B = some (.dK kvs0) := by rw [upd_ne nBb]; exact eB1
    have hp2L := hp2.upd (o := .frz od (.dK kvs)) nbp.symm
    have hS2 : Rows (cut [p, B] (L2.upd H2 b (.frz od (.dK kvs)))) kvs0 bk1 := by
      have hb1c : (cut [p] H1) b = some (.dK kvs) := by rw [cut_out (by simpa using nbp)]; exact hb1
      refine (rows_lock (od := od) hb1c (.inl ⟨kvs, bk, rfl, hRc.same (cut_but b1 (by simp)), bne⟩) hS0).same fun c u e => ?_
      by_cases h : c = b
      · rw [h, upd_same] at e
        rw [h, cut_out (by simp [nbp, nBb.symm]), upd_same]; exact e
      · rw [upd_ne h] at e
        obtain ⟨n1, e⟩ := cut_some e
        have n1 : c ≠ p := fun z => n1 (by rw [z]; simp)
        have n2 : c ≠ B := ne_of_none e hB
        rw [cut_out (by simp [n1, n2]), upd_ne h]
        exact g1 _ _ e
    refine for_it (walk_keys (d := b) (o := od) (kvs := kvs)) (fun i σ H' => ∃ (v4 v5 v6 v7 : Option V) (cl : Bk) (kv' : List (Key × V)) (t' : Int), σ = [some (.ref p), some (.ref W), some (.ref L), some (.ref B), v4, v5, v6, v7, none] ∧ But p (L2.upd H b (.frz od (.dK kvs))) H' ∧ Purse H' p t' ∧ t' ≤ t1' + 10 * i ∧ H' B = some (.dK kv') ∧ Rows (cut [p, B] H') kv' cl ∧ WF cl st ws ∧ cl.map (·.1) = bk.map (·.1))
      ⟨none, none, none, none, bk1, kvs0, t1', rfl, bHL, hp2L, by omega, eB1L, hS2, wf1, enm1⟩ (fun i σ H' _ ⟨_, _, _, _, _, _, _, _, z, _⟩ => z _ _ nbp hbL) ?_ ?_
    · rintro i x σ H3 H4 hi ⟨v4, v5, v6, v7, cl, kv', t4, rfl, b04, hp4, tt4, hB4, hS4, wfc, enm⟩ ⟨rfl, kk, v0, hkv, rfl⟩
      obtain ⟨r, hr', rfl, _⟩ := hRc.at hkv
      have hrm : r ∈ bk := List.mem_of_getElem? hr'
      have hs : r.1 ∈ bk.map (·.1) := List.mem_map_of_mem hrm
      have hcs : r.1 ∈ cl.map (·.1) := by rw [enm]; exact hs
      obtain ⟨v, ev, ⟨tu, a, rfl, htu, ha⟩, hmem⟩ := hS4.look hcs
      have hb4 := b04 _ _ nbp hbL
      have hW4 := b04 _ _ nWp hWL0
      have hL4 : SL H4 L ws := b04 _ _ nL hLL0
      have il : i < bk.length := (List.getElem?_eq_some_iff.mp hr').1
      have lkv : kv'.length ≤ 6 := by rw [hS4.len, ← List.length_map (·.1), enm, List.length_map]; exact lb
      have htu0 := cut_le _ _ htu
      have ha0 : TurnsAt H4 a (rowOf cl r.1).2 := cut_le _ _ ha
      have nap : a ≠ p := fun e => by rw [TurnsAt, e, cut_in (by simp)] at ha; cases ha
      have naB : a ≠ B := fun e => by rw [TurnsAt, e, cut_in (by simp)] at ha; cases ha
      have lws := wok.hi
      refine ⟨_, rfl, _, rfl, B, _, rfl, .inl ⟨kv', .inr r.1, .inl hB4, rfl, ev.symm⟩, tu, _, rfl, SqT.of htu0, rfl, _, _, rfl, _, _, rfl, rfl, ?_⟩
      refine ⟨_, rfl, L, rfl, ⟨_, hL4.sq⟩, fun M hM => ?_⟩
      refine lc_list (K := K) (a := L) (xs := ws.map V.str) (fun j H' => Same H4 H' ∧ SL H' M ((ws.take j).filter fun s => decide (s ∉ (rowOf cl r.1).2.map (·.1)))) ⟨Same.new hM, upd_same⟩ (fun j H' _ z => (hL4.same z.1).sq) ?_ ?_
      · rintro j x H5 hx0 ⟨sm, hM5⟩
        obtain ⟨y, hyj, rfl⟩ := get_map hx0
        have ll : ((ws.take j).filter fun s => decide (s ∉ (rowOf cl r.1).2.map (·.1))).length ≤ 6 := by
          have := List.length_filter_le (fun s => decide (s ∉ (rowOf cl r.1).2.map (·.1))) (ws.take j)
          rw [List.length_take] at this
          omega
        refine ⟨rfl, _, rfl, _, rfl, a, _, rfl, DGet.k (k := .inr y) (ha0.same sm), _, rfl, ?_⟩
        rw [kT_isSome]
        by_cases c : y ∈ (rowOf cl r.1).2.map (·.1)
        · rw [decide_eq_true c, filt_no hyj (by simpa using c)]
          exact iteF ⟨sm, hM5⟩
        · rw [decide_eq_false c, filt_yes hyj (decide_eq_true c)]
          refine iteT ⟨_, rfl, _, hM5, by rw [List.length_map, sizeLine_eq]; omega, fun c0 u e => ?_, by rw [SL, upd_same, List.map_append]; rfl⟩
          rw [upd_ne (ne_of_none e hM)]; exact sm _ _ e
      rintro H5 ⟨s45, hM5⟩
      rw [List.length_map, List.take_length] at hM5
      generalize hz : (ws.filter fun s => decide (s ∉ (rowOf cl r.1).2.map (·.1))) = zs at hM5
      have lz : zs.length ≤ 6 := by rw [← hz]; exact Nat.le_trans (List.length_filter_le _ _) lws
      have zm : ∀ s ∈ zs, s ∈ ws ∧ s ∉ (rowOf cl r.1).2.map (·.1) := fun s hs => by
        rw [← hz] at hs
        obtain ⟨a1, a2⟩ := List.mem_filter.mp hs
        exact ⟨a1, of_decide_eq_true a2⟩
      have zw : ∀ s ∈ zs, Wd s := fun s hs => wok.wd s (zm s hs).1
      have nMp := hp4.ne hM
      have b05 := b04.trans (But.of s45)
      have hp5 := hp4.same s45
      have hB5 := s45 _ _ hB4
      have hS5 := hS4.same (cut_same (S := [p, B]) s45)
      refine ⟨_, rfl, rfl, _, rfl, ite2 (fun c1 => ?_) (fun c1 => iteF ⟨_, _, _, _, cl, kv', t4, rfl, b05, hp5, by omega, hB5, hS5, wfc, enm⟩)⟩
      have e1 : (rowOf cl r.1).1 = "hears" := V.str.inj (of_decide_eq_true c1)
      have tok : TOk (rowOf cl r.1).2 (bk.map (·.1)) ws := by
        have := (wfc.row hcs (by rw [e1]; decide +kernel)).2.2
        rw [enm] at this; exact this
      have lts := tok.len
      refine ⟨_, rfl, by show 0 ≤ sizeLine; decide, fun N hN => ?_⟩
      have g6 := Same.new (o := .lst []) hN
      have hN6 : SL (L2.upd H5 N (.lst [])) N [] := upd_same
      generalize L2.upd H5 N (.lst []) = H6 at g6 hN6
      have s46 := Same.trans s45 g6
      have b06 := b04.trans (But.of s46)
      have hp6 := hp4.same s46
      have hB6 := s46 _ _ hB4
      have hS6 := hS4.same (cut_same (S := [p, B]) s46)
      refine ⟨dW zs, dW [], dp_words (hM5.same g6), dp_words hN6, sh_words zw, sh_words (fun _ h => by cases h), _, rfl, ?_⟩
      rw [eqv_nil]
      refine ite2 (fun c2 => ?_) (fun c2 => iteF ⟨_, _, _, _, cl, kv', t4, rfl, b06, hp6, by omega, hB6, hS6, wfc, enm⟩)
      have zne : zs ≠ [] := fun e => by rw [e] at c2; exact absurd c2 (by decide)
      have zpos := List.length_pos_iff.mpr zne
      refine ⟨_, rfl, p, 2, t4, rfl, hp6, by decide, by decide, by omega, fun rr t7 o7 r0 r1 tt7 hp7 => ?_⟩
      have b67 := But.upd p H6 o7
      generalize L2.upd H6 p o7 = H7 at b67 hp7
      have b07 := b06.trans b67
      have b47 := (But.of s46).trans b67
      have hB7 := b47 _ _ nBp hB4
      have hS7 := hS4.same (cut_but (S := [p, B]) b47 (by simp))
      refine ⟨rfl, _, rfl, ite2 (fun c3 => ?_) (fun c3 => ⟨_, _, _, _, cl, kv', t7, rfl, b07, hp7, by omega, hB7, hS7, wfc, enm⟩)⟩
      have ha7 : TurnsAt H7 a (rowOf cl r.1).2 := b47 _ _ nap ha0
      have hM7 : SL H7 M zs := b67 _ _ nMp (hM5.same g6)
      generalize hk1 : (rowOf cl r.1).1 = kd at e1
      generalize hk2 : (rowOf cl r.1).2 = ts at tok lts ha7 zm
      refine ⟨_, rfl, _, rfl, a, _, rfl, ha7, fun H8 pL tsL s8 npL ntL nmem hpL hprL => ?_⟩
      have hp8 := hp7.same s8
      have npLp := hp7.ne npL
      refine ⟨_, rfl, _, rfl, p, M, _, t7, rfl, hp8, (hM7.same s8), nMp, by rw [List.length_map]; omega, by rw [List.length_map]; omega, by omega, fun j v9 t9 o9 hj tt9 hp9 => ?_⟩
      obtain ⟨y, hyj, rfl⟩ := get_map hj
      obtain ⟨yw, yn⟩ := zm y (List.mem_of_getElem? hyj)
      have b89 := But.upd p H8 o9
      generalize L2.upd H8 p o9 = H9 at b89 hp9
      have b79 : But p H7 H9 := (But.of s8).trans b89
      have b09 := b07.trans b79
      refine ⟨_, rfl, _, rfl, W, _, _, _, rfl, rfl, SqL.of (b09 _ _ nWp hWL0), atI_nat (j := 0) rfl, b, kvs, rfl, .inr ⟨od, b09 _ _ nbp hbL⟩, fun q hq => ?_⟩
      rw [ekn]
      have nqp := hp9.ne hq
      have gq := Same.new (o := .lst ((bk.map (·.1)).map V.str)) hq
      have eq10 : SL (L2.upd H9 q (.lst ((bk.map (·.1)).map V.str))) q (bk.map (·.1)) := upd_same
      have hp10 := hp9.new (o := .lst ((bk.map (·.1)).map V.str)) hq
      generalize L2.upd H9 q (.lst ((bk.map (·.1)).map V.str)) = H10 at gq eq10 hp10
      have lpos : 1 ≤ (bk.map (·.1)).length := List.length_pos_iff.mpr fun e => bne (List.map_eq_nil_iff.mp e)
      have lss : (bk.map (·.1)).length ≤ 6 := by rw [List.length_map]; exact lb
      refine ⟨p, q, _, t9, rfl, hp10, eq10, nqp, by rw [List.length_map]; omega, by rw [List.length_map]; omega, by omega, fun j2 v11 t11 o11 hj2 tt11 hp11 => ?_⟩
      obtain ⟨gs, hgj, rfl⟩ := get_map hj2
      have gm : gs ∈ bk.map (·.1) := List.mem_of_getElem? hgj
      have b1011 := But.upd p H10 o11
      generalize L2.upd H10 p o11 = H11 at b1011 hp11
      have b911 : But p H9 H11 := (But.of gq).trans b1011
      have b811 := b89.trans b911
      have b711 := (But.of s8).trans b811
      refine ⟨by show 2 ≤ sizeLine; decide, fun T1 hT1 => ⟨by show 1 ≤ sizeLine; decide, fun L3 hL3 => ?_⟩⟩
      have g17 := Same.new (o := .tup [.str y, .str gs]) hT1
      have e17 : (L2.upd H11 T1 (.tup [.str y, .str gs])) T1 = some (.tup [.str y, .str gs]) := upd_same
      have hp12 := hp11.new (o := .tup [.str y, .str gs]) hT1
      generalize L2.upd H11 T1 (.tup [.str y, .str gs]) = H12 at g17 e17 hL3 hp12
      have g18 := Same.new (o := .lst [.ref T1]) hL3
      have e18 : (L2.upd H12 L3 (.lst [.ref T1])) L3 = some (.lst [.ref T1]) := upd_same
      have hp13 := hp12.new (o := .lst [.ref T1]) hL3
      generalize L2.upd H12 L3 (.lst [.ref T1]) = H13 at g18 e18 hp13
      have b813 : But p H8 H13 := b811.trans (But.of (Same.trans g17 g18))
      have ltsl : tsL.length ≤ 6 := by rw [paired_len hprL, kT, List.length_map]; omega
      refine ⟨pL, L3, _, _, rfl, rfl, b813 _ _ npLp hpL, e18, by rw [List.length_map, sizeLine_eq]; show _ + 1 ≤ _; omega, fun L4 hL4 => ?_⟩
      have g19 := Same.new (o := .lst (tsL.map V.ref ++ [.ref T1])) hL4
      have e19 : (L2.upd H13 L4 (.lst (tsL.map V.ref ++ [.ref T1]))) L4 = some (.lst ((tsL ++ [T1]).map V.ref)) := by rw [upd_same, List.map_append]; rfl
      have hp14 := hp13.new (o := .lst (tsL.map V.ref ++ [.ref T1])) hL4
      generalize L2.upd H13 L4 (.lst (tsL.map V.ref ++ [.ref T1])) = H14 at g19 e19 hp14
      have b814 : But p H8 H14 := b813.trans (But.of g19)
      have e17' : SqT K H14 T1 [kV (Sum.inr y), V.str gs] := SqT.of (g19 _ _ (g18 _ _ e17))
      have hpp : Paired (fun p (kv : Key × V) => SqT K H14 p [kV kv.1, kv.2]) (tsL ++ [T1]) (kT (ts ++ [(y, gs)])) := by
        rw [kT_app]
        refine pair_app ?_ (by exact e17')
        have : Paired (fun (t : Addr) (kv : Key × V) => t ≠ p ∧ H8 t = some (.tup [kV kv.1, kv.2])) tsL (kT ts) :=
          paired_with hprL fun t ht => hp7.ne (ntL t ht)
        exact paired_imp (fun _ _ e => SqT.of (b814 _ _ e.1 e.2)) this
      have tok' : TOk (ts ++ [(y, gs)]) (bk.map (·.1)) ws := tok.more yn yw gm
      refine ⟨L4, tsL ++ [T1], kT (ts ++ [(y, gs)]), rfl, SqL.of e19, hpp, fun T hT => ?_⟩
      rw [merge_id2 (by rw [kT_keys2]; exact inr_nd' tok'.nd)]
      have zne2 : ts ++ [(y, gs)] ≠ [] := by simp
      generalize ts ++ [(y, gs)] = zt at tok' zne2 hT
      have g20 := Same.new (o := .dK (kT zt)) hT
      have hT20 : TurnsAt (L2.upd H14 T (.dK (kT zt))) T zt := upd_same
      have nTp := hp14.ne hT
      have hp20 := hp14.new (o := .dK (kT zt)) hT
      have b714 : But p H7 H14 := (But.of s8).trans b814
      have nTB : T ≠ B := fun e => by rw [e, b714 _ _ nBp hB7] at hT; cases hT
      generalize L2.upd H14 T (.dK (kT zt)) = H20 at g20 hT20 hp20
      refine ⟨by show 2 ≤ sizeLine; decide, fun T2 hT2 => ?_⟩
      have b720 := b714.trans (But.of g20)
      have nT2p := hp20.ne hT2
      have nT2B : T2 ≠ B := fun e => by rw [e, b720 _ _ nBp hB7] at hT2; cases hT2
      have g21 := Same.new (o := .tup [.str kd, .ref T]) hT2
      have e21 : (L2.upd H20 T2 (.tup [.str kd, .ref T])) T2 = some (.tup [.str kd, .ref T]) := upd_same
      have hp21 := hp20.new (o := .tup [.str kd, .ref T]) hT2
      generalize L2.upd H20 T2 (.tup [.str kd, .ref T]) = H21 at g21 e21 hp21
      have b721 := b720.trans (But.of g21)
      refine ⟨_, rfl, _, rfl, B, _, rfl, DPut.k (kvs := kv') (k := Sum.inr r.1) (b721 _ _ nBp hB7) (by rw [sizeLine_eq]; omega), ?_⟩
      refine ⟨_, _, _, _, setR cl r.1 kd zt, _, t11, rfl, But.ofL hBL (b07.trans b721), hp21.upd nBp.symm, by omega, upd_same, ?_, wfc.set hcs (.inr e1) zne2 (by rw [enm]; exact tok'), by rw [setR_names, enm]⟩
      rw [cut_upd (by simp)]
      refine (hS7.same (cut_but b721 (by simp))).set hcs ⟨T2, T, rfl, ?_, ?_⟩
      · rw [cut_out (by simp [nT2p, nT2B])]; exact e21
      · rw [TurnsAt, cut_out (by simp [nTp, nTB])]; exact g21 _ _ hT20
    · rintro σ H4 ⟨v4, v5, v6, v7, cl, kv', t4, rfl, b04, hp4, tt4, hB4, hS4, wfc, enm⟩
      rw [lk0] at tt4
      have hb4 := b04 _ _ nbp hbL
      have bu := But.unlock hb b04
      have hSu : Rows (cut [p, B] (L2.upd H4 b (.dK kvs))) kv' cl := by
        have hbc4 : (cut [p, B] H4) b = some (.frz od (.dK kvs)) := by rw [cut_out (by simp [nbp, nBb.symm])]; exact hb4
        refine (rows_unl (o := .dK kvs) hbc4 hS4).same fun c u e => ?_
        by_cases h : c = b
        · rw [h, cut_out (by simp [nbp, nBb.symm]), upd_same]; rw [h, upd_same] at e; exact e
        · rw [upd_ne h] at e
          obtain ⟨n1, e⟩ := cut_some e
          rw [cut_out n1, upd_ne h]; exact e
      refine ⟨hb4, ?_⟩
      have hBu : (L2.upd H4 b (.dK kvs)) B = some (.dK kv') := by rw [upd_ne nBb]; exact hB4
      have hpu := hp4.upd (o := .dK kvs) nbp.symm
      generalize L2.upd H4 b (.dK kvs) = H5 at bu hSu hBu hpu
      refine ⟨_, rfl, _, rfl, W, _, _, _, rfl, rfl, SqL.of (bu _ _ nWp hW), atI_nat (j := 1) rfl, by show 2 ≤ sizeLine; decide, fun R hR => ?_⟩
      have nRp := hpu.ne hR
      have gR := Same.new (o := .lst [.ref B, .str st]) hR
      refine k _ R cl t4 (bu.newt hR) (hpu.new hR) (by omega) (bu.fr hR nRp) ⟨B, by rw [cut_out (by simpa using nRp)]; exact upd_same, kv', ?_, ?_⟩ wfc
      · rw [cut_out (by simpa using nBp)]; exact gR _ _ hBu
      · exact hSu.same (Same.trans (cut_mono (by simp)) (cut_same gR))
end
end D1
end L2
/-! the law's _law_round_two -/
namespace L2
namespace D1
open PySem PySem.Spec PyProof.Rows D2 X5 X6
abbrev sRound : Stmt := top 62
def TriAt (H : Hp) (R A B L : Addr) (bk cl : Bk) (st st' : Str) (ws : List Str) : Prop := H R = some (.lst [.ref A, .ref B, .ref L]) ∧ WorldAt H A bk st ∧ WorldAt H B cl st' ∧ SL H L ws
theorem TriAt.same {H H' : Hp} {R A B L : Addr} {bk cl : Bk} {st st' : Str} {ws : List Str} (h : TriAt H R A B L bk cl st st' ws) (s : Same H H') : TriAt H' R A B L bk cl st st' ws := ⟨s _ _ h.1, h.2.1.same s, h.2.2.1.same s, h.2.2.2.same s⟩
theorem world_cut {H : Hp} {p R : Addr} {bk : Bk} {st : Str} {t : Int} (h : WorldAt H R bk st) (hp : Purse H p t) : WorldAt (cut [p] H) R bk st := by
  obtain ⟨g, b', z, ep, _⟩ := hp
  have out : ∀ {c : Addr} {u : HO}, H c = some u → (∀ i r, u ≠ .lst (.int i :: r)) → cut [p] H c = some u := fun {c u} e n => by
    rw [cut_out]
    · exact e
    · intro m
      rw [List.mem_singleton.mp m, ep] at e
      exact n _ _ (Option.some.inj e).symm
  obtain ⟨b, e, kvs, eb, r⟩ := h
  exact ⟨b, out e (fun i r q => by cases q), kvs, out eb (fun i r q => by cases q), paired_imp (fun kv x ⟨e1, t, a, ev, ht, ha⟩ => ⟨e1, t, a, ev, out ht (fun i r q => by cases q), out ha (fun i r q => by cases q)⟩) r⟩
theorem WF.turn {bk : Bk} {st : Str} {ws : List Str} (h : WF bk st ws) : WF (turnB bk) st ws := by
  refine ⟨by rw [turnB_names]; exact h.nd, fun r hr => ?_, by rw [turnB_names]; exact h.st, by rw [turnB, List.length_map]; exact h.len⟩
  rw [turnB_names]
  obtain ⟨q, hq, rfl⟩ := List.mem_map.mp hr
  obtain ⟨a, b⟩ := h.rs q hq
  refine ⟨a, ?_⟩
  rcases b with ⟨e1, e2⟩ | ⟨kk, ne, tok⟩
  · exact .inl ⟨by show flipK q.2.1 = _; rw [e1]; decide +kernel, e2⟩
  · refine .inr ⟨?_, ne, tok⟩
    show flipK q.2.1 = _ ∨ flipK q.2.1 = _
    rcases kk with e | e
    · rw [e]; right; decide +kernel
    · rw [e]; left; decide +kernel
def spRound : Sp := fun vs H Q _ => ∃ (p : Addr) (t : Int), vs = [.ref p] ∧ Purse H p t ∧ t < 2 ^ 25 ∧
  ∀ (H' : Hp) (R A B L : Addr) (bk cl : Bk) (st st' : Str) (ws : List Str) (t' : Int), But p H H' → TriAt (cut [p] H') R A B L bk cl st st' ws → WF bk st ws → WF cl st' ws → WsOk ws → Purse H' p t' → t' ≤ t + 1000 → Q (.ref R) H'
/-- a word and the next of some states -/
def tNxt (i n : Nat) : TE := fun σ H Q => ∃ (x : Str) (S : Addr) (m : Nat) (ss : List Str) (g : Str), σ[11]? = some (some (.str x)) ∧ σ[i]? = some (some (.ref S)) ∧ σ[9]? = some (some (.int (0 + (m : Int)))) ∧ SL H S ss ∧ ss[(m + 1) % n]? = some g ∧ ∀ T1, H T1 = none → Q (.ref T1) (L2.upd H T1 (.tup [.str x, .str g]))
/-- one or two -/
def tOT (i : Nat) : TE := fun σ H Q => ∃ (a b : Int) (k : Str), σ[9]? = some (some (.int a)) ∧ σ[i]? = some (some (.int b)) ∧ σ[4]? = some (some (.str k)) ∧ ∀ n : Nat, 1 ≤ n → Q (.int (n : Int)) H
theorem ixt {ss : List Str} {m n : Nat} (h : 0 < n) {g : Str} (e : ss[(m + 1) % n]? = some g) : atI (ss.map V.str) ((0 + (m : Int) + 1) % (n : Int)) = some (.str g) := by
  have : ((0 + (m : Int) + 1) % (n : Int)) = (((m + 1) % n : Nat) : Int) := by
    rw [Int.zero_add]; exact (Int.natCast_emod (m + 1) n).symm
  rw [this]
  exact atI_nat (by rw [List.getElem?_map, e]; rfl)
theorem TOk.all {ws zs ss : List Str} {g : Str} (nd : zs.Nodup) (sub : ∀ x ∈ zs, x ∈ ws) (hg : g ∈ ss) : TOk (zs.map fun x => (x, g)) ss ws := by
  refine ⟨by rw [List.map_map]; exact (by rw [show ((fun x : Str × Str => x.1) ∘ fun x => (x, g)) = id from rfl, List.map_id]; exact nd), fun t ht => ?_, fun t ht => ?_⟩
  · obtain ⟨x, hx, rfl⟩ := List.mem_map.mp ht; exact sub x hx
  · obtain ⟨x, hx, rfl⟩ := List.mem_map.mp ht; exact hg
theorem goal_all {ws : List Str} {g x : Str} (nd : ws.Nodup) (h : x ∈ ws) : goalT (ws.map fun w => (w, g)) x = g :=
  goalT_at (t := (x, g)) (by rw [List.map_map]; exact (by rw [show ((fun x : Str × Str => x.1) ∘ fun x => (x, g)) = id from rfl, List.map_id]; exact nd)) (List.mem_map.mpr ⟨x, h, rfl⟩)
theorem ix0 {ss : List Str} {i : Nat} {x : Str} (h : ss[i]? = some x) : atI (ss.map V.str) (0 + (i : Int)) = some (.str x) := by
  rw [Int.zero_add]; exact atI_nat (by rw [List.getElem?_map, h]; rfl)
section
variable {P : Program} {w : World} {K : PySem.W.Frag} {mg : Str → Option Value} {base : Heap}
abbrev roN : List Str := ["_law_purse_here", "_law_words_here", "_law_states", "_law_late", "_law_kind", "_law_one", "_law_two_here", "_law_first", "_law_second", "_law_at", "_law_turns_here", "_law_word_here"]
theorem scRd : FnScope roN ["_law_purse_here"] (defScope sRound) := ⟨rfl, rfl, rfl, by decide +kernel, rfl, by decide +kernel, by decide +kernel⟩
theorem ok_round {f : Addr} {fd : FuncData} (F : Fun K "_law_round_two" "_law_round_two" sRound f fd) (T : Free3 mg) (CD : CDraw P w K mg base) (CO : COne P w K mg base) (CW : CWords P w K mg base) : FnOk P w K mg base CX0 5 f fd ["_law_purse_here"] spRound := by
  refine F.ok scRd (fun vs H Q E h => ?_) (fun cdv A outer s H vs Q E hr h => ?_)
  · obtain ⟨p, t, rfl, _⟩ := h; rfl
  · obtain ⟨p, t, rfl, hp, t1, k⟩ := h
    have hu := hu_of hr
    refine ⟨_, pss_cons (ps_asg (pe_tup (pa_cons (pe_cal CW (hr.mono (by decide)) rfl (pa_cons (pv 0) (pa_cons pe_int pa_nil))) (pa_cons (pe_cal CW (hr.mono (by decide)) rfl (pa_cons (pv 0) (pa_cons pe_int pa_nil))) (pa_cons (pe_cal CW (hr.mono (by decide)) rfl (pa_cons (pv 0) (pa_cons pe_int pa_nil))) pa_nil)))) (pg_tup rfl (pgs_cons (pg_name (i := 1) scRd.nd rfl (Or.inl rfl)) (pgs_cons (pg_name (i := 2) scRd.nd rfl (Or.inr rfl)) (pgs_cons (pg_name (i := 3) scRd.nd rfl (Or.inr rfl)) pgs_nil)))))
      (pss_cons (ps_par3 (i := 4) (j := 5) (l := 6) rfl scRd.nd rfl rfl rfl (by decide) (by decide) (by decide) rfl rfl rfl (pa_cons (pe_cal CO (hr.mono (by decide)) rfl (pa_cons (pv 0) (pa_cons (pe_lst (pa_cons pe_str (pa_cons pe_str pa_nil))) pa_nil))) (pa_cons (pe_cal CD (hr.mono (by decide)) rfl (pa_cons (pv 0) (pa_cons pe_int pa_nil))) (pa_cons (pe_cal CD (hr.mono (by decide)) rfl (pa_cons (pv 0) (pa_cons pe_int pa_nil))) pa_nil))) (by rfl))
      (pss_cons (ps_par (i := 7) (j := 8) rfl scRd.nd rfl rfl (by decide) rfl rfl (pa_cons pe_dnewK (pa_cons pe_dnewK pa_nil)) (by rfl))
      (pss_cons (ps_for PassesOwn.never rfl (pi_range1 rfl T.range (pa_cons pe_int pa_nil)) (pg_name (i := 9) scRd.nd rfl (Or.inr rfl))
        (pss_cons (ps_set (i := 10) scRd.nd rfl (Or.inr rfl) (pe_callTy (call_dictP rfl) (by rfl) T.dict (by decide +kernel) (pa_cons (pe_lc (own := [("_law_word_here", 11)]) (g := gName 11) (tt := tYes) (te := tNxt 2 5) rfl scRd.nd (pi_list (pv 1))
            (blkOk_by (N := roN) (sc := defScope sRound) (by decide +kernel)) (fun _ _ _ _ _ => pg_name (i := 11) scRd.nd rfl (Or.inl rfl)) (fun _ _ _ _ _ => pts_nil)
            (fun _ _ _ _ _ => pe_imp (t' := tNxt 2 5) (pe_tup (pa_cons (pv 11) (pa_cons (pe_ix ix_list (pv 2) (pe_op op_mod (pe_callTy call_int1 (by rfl) T.int (by decide +kernel) (pa_cons (pe_op op_add (pv 9) pe_int) pa_nil)) pe_int) (fun _ _ => rfl)) pa_nil))) (by
              rintro σ H Q ⟨x, S, m, ss, g, e1, e2, e3, hS, eg, k⟩
              exact ⟨_, e1, _, e2, _, e3, _, _, rfl, rfl, .inl ⟨_, rfl, _, _, rfl, rfl, (by show (0 : Int) < 5; decide), S, _, _, _, rfl, rfl, hS.sq, ixt (n := 5) (by decide) eg, by show 2 ≤ sizeLine; decide, k⟩⟩))) pa_nil)))
        (pss_one (ps_dput hu (pv 7) (pe_ix ix_list (pv 2) (pv 9) (fun _ _ => rfl)) (pe_tup (pa_cons (pv 4) (pa_cons (pe_callTy (call_dictP rfl) (by rfl) T.dict (by decide +kernel) (pa_cons (pe_lc (own := [("_law_word_here", 11)]) (g := gName 11) (tt := tYes) (te := tTup (tCons (tVar 11) (tCons (tDGet (tVar 10) (tVar 11)) tNil))) rfl scRd.nd (pi_list (pe_slice sl_list (pv 1) po_none (po_some (pe_imp (t' := tOT 5) (pe_ifExp (pt_cmpR op_eq (pe_cmpR op_eq (pv 9) (pv 5) (nomark _)) (pe_cmpR op_eq (pv 4) pe_str (nomark _)) (nomark _)) pe_int pe_int) (by
              rintro σ H Q ⟨a, b, kd, e1, e2, e3, k⟩
              exact ⟨_, e1, _, e2, rfl, _, e3, rfl, rfl, _, rfl, ite2 (fun _ => k 1 (by decide)) (fun _ => k 2 (by decide))⟩)))))
              (blkOk_by (N := roN) (sc := defScope sRound) (by decide +kernel)) (fun _ _ _ _ _ => pg_name (i := 11) scRd.nd rfl (Or.inl rfl)) (fun _ _ _ _ _ => pts_nil) (fun _ _ _ _ _ => pe_tup (pa_cons (pv 11) (pa_cons (pe_dget hu (pv 10) (pv 11) (fun _ _ => rfl)) pa_nil)))) pa_nil)) pa_nil))) rfl))))
      (pss_cons (ps_for PassesOwn.never rfl (pi_range1 rfl T.range (pa_cons pe_int pa_nil)) (pg_name (i := 9) scRd.nd rfl (Or.inr rfl))
        (pss_cons (ps_set (i := 10) scRd.nd rfl (Or.inr rfl) (pe_callTy (call_dictP rfl) (by rfl) T.dict (by decide +kernel) (pa_cons (pe_lc (own := [("_law_word_here", 11)]) (g := gName 11) (tt := tYes) (te := tNxt 3 6) rfl scRd.nd (pi_list (pv 1))
            (blkOk_by (N := roN) (sc := defScope sRound) (by decide +kernel)) (fun _ _ _ _ _ => pg_name (i := 11) scRd.nd rfl (Or.inl rfl)) (fun _ _ _ _ _ => pts_nil)
            (fun _ _ _ _ _ => pe_imp (t' := tNxt 3 6) (pe_tup (pa_cons (pv 11) (pa_cons (pe_ix ix_list (pv 3) (pe_op op_mod (pe_callTy call_int1 (by rfl) T.int (by decide +kernel) (pa_cons (pe_op op_add (pv 9) pe_int) pa_nil)) pe_int) (fun _ _ => rfl)) pa_nil))) (by
              rintro σ H Q ⟨x, S, m, ss, g, e1, e2, e3, hS, eg, k⟩
              exact ⟨_, e1, _, e2, _, e3, _, _, rfl, rfl, .inl ⟨_, rfl, _, _, rfl, rfl, (by show (0 : Int) < 6; decide), S, _, _, _, rfl, rfl, hS.sq, ixt (n := 6) (by decide) eg, by show 2 ≤ sizeLine; decide, k⟩⟩))) pa_nil)))
        (pss_one (ps_dput hu (pv 8) (pe_ix ix_list (pv 3) (pv 9) (fun _ _ => rfl)) (pe_tup (pa_cons (pv 4) (pa_cons (pe_callTy (call_dictP rfl) (by rfl) T.dict (by decide +kernel) (pa_cons (pe_lc (own := [("_law_word_here", 11)]) (g := gName 11) (tt := tYes) (te := tTup (tCons (tVar 11) (tCons (tDGet (tVar 10) (tVar 11)) tNil))) rfl scRd.nd (pi_list (pe_slice sl_list (pv 1) po_none (po_some (pe_imp (t' := tOT 6) (pe_ifExp (pt_cmpR op_eq (pe_cmpR op_eq (pv 9) (pv 6) (nomark _)) (pe_cmpR op_eq (pv 4) pe_str (nomark _)) (nomark _)) pe_int pe_int) (by
              rintro σ H Q ⟨a, b, kd, e1, e2, e3, k⟩
              exact ⟨_, e1, _, e2, rfl, _, e3, rfl, rfl, _, rfl, ite2 (fun _ => k 2 (by decide)) (fun _ => k 1 (by decide))⟩)))))
              (blkOk_by (N := roN) (sc := defScope sRound) (by decide +kernel)) (fun _ _ _ _ _ => pg_name (i := 11) scRd.nd rfl (Or.inl rfl)) (fun _ _ _ _ _ => pts_nil) (fun _ _ _ _ _ => pe_tup (pa_cons (pv 11) (pa_cons (pe_dget hu (pv 10) (pv 11) (fun _ _ => rfl)) pa_nil)))) pa_nil)) pa_nil))) rfl))))
      (pss_one (ps_ret (pe_lst (pa_cons (pe_lst (pa_cons (pv 7) (pa_cons (pe_ix ix_list (pv 2) pe_int (fun _ _ => rfl)) pa_nil))) (pa_cons (pe_lst (pa_cons (pv 8) (pa_cons (pe_ix ix_list (pv 3) pe_int (fun _ _ => rfl)) pa_nil))) (pa_cons (pv 1) pa_nil)))))))))), ?_⟩
    refine ⟨_, rfl, p, 2, t, rfl, hp, by decide, by decide, by omega, fun H1 Lw ws t2 b1 nLw hLw lw ndw awd hp1 tt1 => ?_⟩
    have nLwp := hp.ne nLw
    refine ⟨_, rfl, p, 5, t2, rfl, hp1, by decide, by decide, by omega, fun H2 S ss t3 b2 nS hS ls nds aws hp2 tt2 => ?_⟩
    have nSp := hp1.ne nS
    refine ⟨_, rfl, p, 6, t3, rfl, hp2, by decide, by decide, by omega, fun H3 Z zz t4 b3 nZ hZ lz ndz awz hp3 tt3 => ⟨by show 3 ≤ sizeLine; decide, fun T0 hT0 => ?_⟩⟩
    have nZp := hp2.ne nZ
    have b13 : But p H1 H3 := b2.trans b3
    have b03 : But p H H3 := b1.trans b13
    have hLw3 : SL H3 Lw ws := b13 _ _ nLwp hLw
    have hS3 : SL H3 S ss := b3 _ _ nSp hS
    refine ⟨T0, _, rfl, SqT.of upd_same, rfl, _, _, rfl, _, _, rfl, _, _, rfl, rfl, ?_⟩
    have g4 := Same.new (o := .tup [.ref Lw, .ref S, .ref Z]) hT0
    have hp4 := hp3.new (o := .tup [.ref Lw, .ref S, .ref Z]) hT0
    generalize L2.upd H3 T0 (.tup [.ref Lw, .ref S, .ref Z]) = H4 at g4 hp4
    have lw2 : ws.length = 2 := lw
    have ls5 : ss.length = 5 := ls
    have lz6 : zz.length = 6 := lz
    have wok : WsOk ws := ⟨by omega, by omega, ndw, awd⟩
    refine ⟨_, rfl, by show 2 ≤ sizeLine; decide, fun L5 hL5 => ?_⟩
    have g5 := Same.new (o := .lst [.str "says", .str "hears"]) hL5
    have e5 : (L2.upd H4 L5 (.lst [.str "says", .str "hears"])) L5 = some (.lst [.str "says", .str "hears"]) := upd_same
    have hp5 := hp4.new (o := .lst [.str "says", .str "hears"]) hL5
    have nL5 := hp4.ne hL5
    generalize L2.upd H4 L5 (.lst [.str "says", .str "hears"]) = H5 at g5 e5 hp5
    refine ⟨p, L5, _, t4, rfl, hp5, e5, nL5, by decide, by decide, by omega, fun j v6 t6 o6 hj tt6 hp6 => ?_⟩
    obtain ⟨kd, rfl, hkd⟩ : ∃ kd : Str, v6 = .str kd ∧ (kd = "says" ∨ kd = "hears") := by
      match j, hj with
      | 0, h => exact ⟨"says", (Option.some.inj h).symm, .inl rfl⟩
      | 1, h => exact ⟨"hears", (Option.some.inj h).symm, .inr rfl⟩
    have b56 := But.upd p H5 o6
    generalize L2.upd H5 p o6 = H6 at b56 hp6
    refine ⟨_, rfl, p, 5, t6, rfl, hp6, by decide, by decide, by omega, fun one t7 o7 r70 r71 tt7 hp7 => ?_⟩
    have b67 := But.upd p H6 o7
    generalize L2.upd H6 p o7 = H7 at b67 hp7
    refine ⟨_, rfl, p, 6, t7, rfl, hp7, by decide, by decide, by omega, fun two t8 o8 r80 r81 tt8 hp8 => ⟨_, _, _, rfl, ?_⟩⟩
    have b78 := But.upd p H7 o8
    generalize L2.upd H7 p o8 = H9 at b78 hp8
    have hp9 := hp8
    have b39 : But p H3 H9 := (But.of (Same.trans g4 g5)).trans (b56.trans (b67.trans b78))
    have b09 := b03.trans b39
    have hLw9 : SL H9 Lw ws := b39 _ _ nLwp hLw3
    have hS9 : SL H9 S ss := b39 _ _ nSp hS3
    have hZ9 : SL H9 Z zz := b39 _ _ nZp hZ
    have tt9 : t8 ≤ t + 1000 := by omega
    clear hS3 hLw3 hLw hS hZ hp hp1 hp2 hp3 hp4 hp5 hp6 hp7 hp8 b13 b03 b39 b1 b2 b3 e5
    refine fun Fd hF Gd hG => ⟨_, _, rfl, ?_⟩
    have hF0 : H9 Fd = none := hF
    have nGF : Gd ≠ Fd := fun e => by rw [e, upd_same] at hG; cases hG
    have hG0 : H9 Gd = none := upd_none' hG
    have s9 : Same H9 (L2.upd (L2.upd H9 Fd (.dK [])) Gd (.dK [])) := Same.trans (Same.new hF) (Same.new hG)
    have eF9 : (L2.upd (L2.upd H9 Fd (.dK [])) Gd (.dK [])) Fd = some (.dK []) := by rw [upd_ne nGF.symm, upd_same]
    have eG9 : (L2.upd (L2.upd H9 Fd (.dK [])) Gd (.dK [])) Gd = some (.dK []) := upd_same
    generalize L2.upd (L2.upd H9 Fd (.dK [])) Gd (.dK []) = X9 at s9 eF9 eG9
    refine ⟨5, rfl, by decide, by decide, ?_⟩
    refine for_range (n := 5) (fun i σ H' => ∃ (v9 v10 : Option V) (cl : Bk) (kv : List (Key × V)), σ = [some (.ref p), some (.ref Lw), some (.ref S), some (.ref Z), some (.str kd), some (.int one), some (.int two), some (.ref Fd), some (.ref Gd), v9, v10, none] ∧ Same H9 H' ∧ H' Fd = some (.dK kv) ∧ H' Gd = some (.dK []) ∧ Rows (cut [Fd, Gd] H') kv cl ∧ cl.map (·.1) = ss.take i ∧ ∀ r ∈ cl, ROk ss ws r)
      ⟨none, none, [], [], rfl, s9, eF9, eG9, .nil, rfl, fun r hr => by cases hr⟩ ?_ ?_
    · rintro i σ H10 hi ⟨v9, v10, cl, kv, rfl, s10, hD10, hG10, hR10, en, rok⟩
      have il : i < 5 := hi
      have hFx := hD10
      have hGx := hG10
      have hS10 := hS9.same s10
      have hLw10 := hLw9.same s10
      obtain ⟨g, hg⟩ : ∃ g, ss[(i + 1) % 5]? = some g := ⟨_, List.getElem?_eq_getElem (by rw [ls5]; exact Nat.mod_lt _ (by decide))⟩
      have gm : g ∈ ss := List.mem_of_getElem? hg
      obtain ⟨si, hsi⟩ : ∃ x, ss[i]? = some x := ⟨_, List.getElem?_eq_getElem (by rw [ls5]; exact il)⟩
      have tokA : TOk (ws.map fun x => (x, g)) ss ws := TOk.all ndw (fun x h => h) gm
      refine ⟨_, rfl, Lw, rfl, ⟨_, hLw10.sq⟩, fun D0 hD0 => ?_⟩
      refine lc_list (K := K) (a := Lw) (xs := ws.map V.str) (fun j H' => Same H10 H' ∧ ∃ qs : List Addr, H' D0 = some (.lst (qs.map V.ref)) ∧ Paired (fun a (kv : Key × V) => (cut [D0] H') a = some (.tup [kV kv.1, kv.2])) qs (kT ((ws.take j).map fun x => (x, g)))) ⟨Same.new hD0, [], upd_same, .nil⟩ (fun j H' _ z => (hLw10.same z.1).sq) ?_ ?_
      · rintro j v H11 hx0 ⟨sm, qs, hD5, hpr⟩
        obtain ⟨x, hxj, rfl⟩ := get_map hx0
        refine ⟨rfl, ?_⟩
        dsimp only [tYes]
        rw [if_pos rfl]
        refine ⟨x, S, i, ss, g, rfl, rfl, rfl, hS10.same sm, hg, fun T1 hT1 => ?_⟩
        have gg := Same.new (o := .tup [.str x, .str g]) hT1
        have nT : T1 ≠ D0 := fun e => by rw [e, hD5] at hT1; cases hT1
        have lqs : qs.length ≤ 60 := by rw [paired_len hpr, kT, List.length_map, List.length_map, List.length_take]; omega
        refine ⟨_, gg _ _ hD5, by rw [List.length_map, sizeLine_eq]; omega, fun c u e => ?_, qs ++ [T1], by rw [upd_same, List.map_append]; rfl, ?_⟩
        · rw [upd_ne (ne_of_none e hD0)]; exact gg _ _ (sm _ _ e)
        · rw [cut_upd (by simp), take_succ_get hxj, List.map_append, kT_app]
          exact pair_app (paired_imp (fun p kv e => cut_same gg _ _ e) hpr) (by rw [cut_out (by simpa using nT)]; exact upd_same)
      rintro H12 ⟨s12, qs, hD12, hpr⟩
      rw [List.length_map, List.take_length] at hpr
      refine ⟨D0, qs, kT (ws.map fun x => (x, g)), rfl, SqL.of hD12, paired_imp (fun p kv e => SqT.of (cut_le _ _ e)) hpr, fun Tt hTt => ?_⟩
      rw [merge_id2 (by rw [kT_keys2]; exact inr_nd' tokA.nd)]
      have g13 := Same.new (o := .dK (kT (ws.map fun x => (x, g)))) hTt
      have hT13 : TurnsAt (L2.upd H12 Tt (.dK (kT (ws.map fun x => (x, g))))) Tt (ws.map fun x => (x, g)) := upd_same
      generalize L2.upd H12 Tt (.dK (kT (ws.map fun x => (x, g)))) = H13 at g13 hT13
      have s1013 := Same.trans s12 g13
      clear hpr hD12 hD0
      refine ⟨_, rfl, _, rfl, _, _, _, rfl, rfl, rfl, fun m hm => ⟨_, rfl, Lw, _, rfl, (hLw10.same s1013).sq, fun q hq => ⟨q, rfl, ?_⟩⟩⟩
      rw [cutV_map, cutL_to _ (by omega), Int.toNat_natCast]
      have lx : 1 ≤ (ws.take m).length ∧ (ws.take m).length ≤ 6 := by rw [List.length_take]; omega
      have xm : ∀ x ∈ ws.take m, x ∈ ws := fun x hx => List.mem_of_mem_take hx
      have ndx : (ws.take m).Nodup := List.Nodup.sublist (List.take_sublist _ _) ndw
      generalize ws.take m = xs at lx xm ndx hq
      have g14 := Same.new (o := .lst (xs.map V.str)) hq
      have hq14 : SL (L2.upd H13 q (.lst (xs.map V.str))) q xs := upd_same
      generalize L2.upd H13 q (.lst (xs.map V.str)) = H14 at g14 hq14
      have hT14 := hT13.same g14
      refine ⟨⟨_, hq14.sq⟩, fun Dq hD1 => ?_⟩
      refine lc_list (K := K) (a := q) (xs := xs.map V.str) (fun j H' => Same H14 H' ∧ ∃ qs : List Addr, H' Dq = some (.lst (qs.map V.ref)) ∧ Paired (fun a (kv : Key × V) => (cut [Dq] H') a = some (.tup [kV kv.1, kv.2])) qs (kT ((xs.take j).map fun x => (x, g)))) ⟨Same.new hD1, [], upd_same, .nil⟩ (fun j H' _ z => (hq14.same z.1).sq) ?_ ?_
      · rintro j v H15 hx0 ⟨sm, qs, hD5, hpr⟩
        obtain ⟨x, hxj, rfl⟩ := get_map hx0
        have xmm : x ∈ ws := xm x (List.mem_of_getElem? hxj)
        have vg : valV (kT (ws.map fun x => (x, g))) (.inr x) = some (.str g) := by
          rw [valV_goal (by rw [List.map_map]; exact List.mem_map.mpr ⟨x, xmm, rfl⟩), goal_all ndw xmm]
        refine ⟨rfl, ?_⟩
        dsimp only [tYes]
        rw [if_pos rfl]
        refine ⟨_, rfl, _, rfl, _, rfl, Tt, _, rfl, .inl ⟨kT (ws.map fun x => (x, g)), .inr x, .inl (hT14.same sm), rfl, vg.symm⟩, by show 2 ≤ sizeLine; decide, fun T1 hT1 => ?_⟩
        have gg := Same.new (o := .tup [.str x, .str g]) hT1
        have nT : T1 ≠ Dq := fun e => by rw [e, hD5] at hT1; cases hT1
        have lqs : qs.length ≤ 60 := by rw [paired_len hpr, kT, List.length_map, List.length_map, List.length_take]; omega
        refine ⟨_, gg _ _ hD5, by rw [List.length_map, sizeLine_eq]; omega, fun c u e => ?_, qs ++ [T1], by rw [upd_same, List.map_append]; rfl, ?_⟩
        · rw [upd_ne (ne_of_none e hD1)]; exact gg _ _ (sm _ _ e)
        · rw [cut_upd (by simp), take_succ_get hxj, List.map_append, kT_app]
          exact pair_app (paired_imp (fun p kv e => cut_same gg _ _ e) hpr) (by rw [cut_out (by simpa using nT)]; exact upd_same)
      rintro H16 ⟨s16, qs2, hD16, hpr⟩
      rw [List.length_map, List.take_length] at hpr
      have tokB : TOk (xs.map fun x => (x, g)) ss ws := TOk.all ndx xm gm
      have zne : (xs.map fun x => (x, g)) ≠ [] := fun e => by have := congrArg List.length e; rw [List.length_map] at this; rw [this] at lx; exact absurd lx.1 (by decide)
      refine ⟨Dq, qs2, kT (xs.map fun x => (x, g)), rfl, SqL.of hD16, paired_imp (fun p kv e => SqT.of (cut_le _ _ e)) hpr, fun Tb hTb => ?_⟩
      rw [merge_id2 (by rw [kT_keys2]; exact inr_nd' tokB.nd)]
      generalize (xs.map fun x => (x, g)) = zt at tokB zne hTb
      have g17 := Same.new (o := .dK (kT zt)) hTb
      have hT17 : TurnsAt (L2.upd H16 Tb (.dK (kT zt))) Tb zt := upd_same
      have s1016 : Same H10 H16 := Same.trans s1013 (Same.trans g14 s16)
      have nT1 : ∀ {d : Addr} {u : HO}, H10 d = some u → Tb ≠ d := fun h e => by rw [e, s1016 _ _ h] at hTb; cases hTb
      generalize L2.upd H16 Tb (.dK (kT zt)) = H17 at g17 hT17
      have s1017 : Same H10 H17 := Same.trans s1016 g17
      refine ⟨by show 2 ≤ sizeLine; decide, fun T1 hT1 => ?_⟩
      have nT2 : ∀ {d : Addr} {u : HO}, H10 d = some u → T1 ≠ d := fun h e => by rw [e, s1017 _ _ h] at hT1; cases hT1
      have g18 := Same.new (o := .tup [.str kd, .ref Tb]) hT1
      have e18 : (L2.upd H17 T1 (.tup [.str kd, .ref Tb])) T1 = some (.tup [.str kd, .ref Tb]) := upd_same
      generalize L2.upd H17 T1 (.tup [.str kd, .ref Tb]) = H18 at g18 e18
      have s1018 : Same H10 H18 := Same.trans s1017 g18
      have lkv : kv.length ≤ 6 := by rw [hR10.len, ← List.length_map (·.1), en, List.length_take]; omega
      have fresh : (Sum.inr si : Key) ∉ kv.map (·.1) := fun z => by
        rw [hR10.keys] at z
        obtain ⟨r0, hr0, e0⟩ := List.mem_map.mp z
        have e0 : r0.1 = si := Sum.inr.inj e0
        have nn := nd_take (ys := ss) nds (i := i) (z := si) hsi
        exact nn (by rw [← en, ← e0]; exact List.mem_map_of_mem hr0)
      refine ⟨_, rfl, _, rfl, _, rfl, S, _, _, _, rfl, rfl, (hS10.same s1018).sq, ix0 hsi, Fd, _, rfl, DPut.k (kvs := kv) (k := Sum.inr si) (s1018 _ _ hD10) (by rw [sizeLine_eq]; omega), ?_⟩
      rw [D1.putK_new fresh]
      have hRn : Rows (cut [Fd, Gd] (L2.upd H18 Fd (.dK (kv ++ [(Sum.inr si, .ref T1)])))) (kv ++ [(Sum.inr si, .ref T1)]) (cl ++ [((si, kd, zt) : RowD)]) := by
        rw [cut_upd (by simp)]
        refine pair_app (hR10.same (cut_same s1018)) ⟨rfl, T1, Tb, rfl, ?_, ?_⟩
        · rw [cut_out (by simp [nT2 hFx, nT2 hGx])]; exact e18
        · rw [TurnsAt, cut_out (by simp [nT1 hFx, nT1 hGx])]; exact g18 _ _ hT17
      refine ⟨_, _, _, _, rfl, fun c u e => ?_, upd_same, by rw [upd_ne nGF]; exact s1018 _ _ hG10, hRn, by rw [List.map_append, en, take_succ_get hsi]; rfl, fun r hr => ?_⟩
      · rw [upd_ne fun z => by rw [z, hF0] at e; cases e]; exact s1018 _ _ (s10 _ _ e)
      · rcases List.mem_append.mp hr with z | z
        · exact rok r z
        · rw [List.mem_singleton.mp z]
          exact ⟨aws si (List.mem_of_getElem? hsi), .inr ⟨hkd, zne, tokB⟩⟩
    rintro σ X1 ⟨v9, v10, bk, kvF, rfl, s10, hF10, hG10, hRF, enF, rokF⟩
    rw [show ss.take 5 = ss from List.take_of_length_le (by omega)] at enF
    refine ⟨6, rfl, by decide, by decide, ?_⟩
    refine for_range (n := 6) (fun i σ H' => ∃ (v9 v10 : Option V) (cl : Bk) (kv : List (Key × V)), σ = [some (.ref p), some (.ref Lw), some (.ref S), some (.ref Z), some (.str kd), some (.int one), some (.int two), some (.ref Fd), some (.ref Gd), v9, v10, none] ∧ Same H9 H' ∧ H' Gd = some (.dK kv) ∧ H' Fd = some (.dK kvF) ∧ Rows (cut [Fd, Gd] H') kvF bk ∧ Rows (cut [Fd, Gd] H') kv cl ∧ cl.map (·.1) = zz.take i ∧ ∀ r ∈ cl, ROk zz ws r)
      ⟨v9, v10, [], [], rfl, s10, hG10, hF10, hRF, .nil, rfl, fun r hr => by cases hr⟩ ?_ ?_
    · rintro i σ H10 hi ⟨v9, v10, cl, kv, rfl, s10, hD10, hF10, hRF, hR10, en, rok⟩
      have il : i < 6 := hi
      have hFx := hF10
      have hGx := hD10
      have hS10 := hZ9.same s10
      have hLw10 := hLw9.same s10
      obtain ⟨g, hg⟩ : ∃ g, zz[(i + 1) % 6]? = some g := ⟨_, List.getElem?_eq_getElem (by rw [lz6]; exact Nat.mod_lt _ (by decide))⟩
      have gm : g ∈ zz := List.mem_of_getElem? hg
      obtain ⟨si, hsi⟩ : ∃ x, zz[i]? = some x := ⟨_, List.getElem?_eq_getElem (by rw [lz6]; exact il)⟩
      have tokA : TOk (ws.map fun x => (x, g)) zz ws := TOk.all ndw (fun x h => h) gm
      refine ⟨_, rfl, Lw, rfl, ⟨_, hLw10.sq⟩, fun D0 hD0 => ?_⟩
      refine lc_list (K := K) (a := Lw) (xs := ws.map V.str) (fun j H' => Same H10 H' ∧ ∃ qs : List Addr, H' D0 = some (.lst (qs.map V.ref)) ∧ Paired (fun a (kv : Key × V) => (cut [D0] H') a = some (.tup [kV kv.1, kv.2])) qs (kT ((ws.take j).map fun x => (x, g)))) ⟨Same.new hD0, [], upd_same, .nil⟩ (fun j H' _ z => (hLw10.same z.1).sq) ?_ ?_
      · rintro j v H11 hx0 ⟨sm, qs, hD5, hpr⟩
        obtain ⟨x, hxj, rfl⟩ := get_map hx0
        refine ⟨rfl, ?_⟩
        dsimp only [tYes]
        rw [if_pos rfl]
        refine ⟨x, Z, i, zz, g, rfl, rfl, rfl, hS10.same sm, hg, fun T1 hT1 => ?_⟩
        have gg := Same.new (o := .tup [.str x, .str g]) hT1
        have nT : T1 ≠ D0 := fun e => by rw [e, hD5] at hT1; cases hT1
        have lqs : qs.length ≤ 60 := by rw [paired_len hpr, kT, List.length_map, List.length_map, List.length_take]; omega
        refine ⟨_, gg _ _ hD5, by rw [List.length_map, sizeLine_eq]; omega, fun c u e => ?_, qs ++ [T1], by rw [upd_same, List.map_append]; rfl, ?_⟩
        · rw [upd_ne (ne_of_none e hD0)]; exact gg _ _ (sm _ _ e)
        · rw [cut_upd (by simp), take_succ_get hxj, List.map_append, kT_app]
          exact pair_app (paired_imp (fun p kv e => cut_same gg _ _ e) hpr) (by rw [cut_out (by simpa using nT)]; exact upd_same)
      rintro H12 ⟨s12, qs, hD12, hpr⟩
      rw [List.length_map, List.take_length] at hpr
      refine ⟨D0, qs, kT (ws.map fun x => (x, g)), rfl, SqL.of hD12, paired_imp (fun p kv e => SqT.of (cut_le _ _ e)) hpr, fun Tt hTt => ?_⟩
      rw [merge_id2 (by rw [kT_keys2]; exact inr_nd' tokA.nd)]
      have g13 := Same.new (o := .dK (kT (ws.map fun x => (x, g)))) hTt
      have hT13 : TurnsAt (L2.upd H12 Tt (.dK (kT (ws.map fun x => (x, g))))) Tt (ws.map fun x => (x, g)) := upd_same
      generalize L2.upd H12 Tt (.dK (kT (ws.map fun x => (x, g)))) = H13 at g13 hT13
      have s1013 := Same.trans s12 g13
      clear hpr hD12 hD0
      refine ⟨_, rfl, _, rfl, _, _, _, rfl, rfl, rfl, fun m hm => ⟨_, rfl, Lw, _, rfl, (hLw10.same s1013).sq, fun q hq => ⟨q, rfl, ?_⟩⟩⟩
      rw [cutV_map, cutL_to _ (by omega), Int.toNat_natCast]
      have lx : 1 ≤ (ws.take m).length ∧ (ws.take m).length ≤ 6 := by rw [List.length_take]; omega
      have xm : ∀ x ∈ ws.take m, x ∈ ws := fun x hx => List.mem_of_mem_take hx
      have ndx : (ws.take m).Nodup := List.Nodup.sublist (List.take_sublist _ _) ndw
      generalize ws.take m = xs at lx xm ndx hq
      have g14 := Same.new (o := .lst (xs.map V.str)) hq
      have hq14 : SL (L2.upd H13 q (.lst (xs.map V.str))) q xs := upd_same
      generalize L2.upd H13 q (.lst (xs.map V.str)) = H14 at g14 hq14
      have hT14 := hT13.same g14
      refine ⟨⟨_, hq14.sq⟩, fun Dq hD1 => ?_⟩
      refine lc_list (K := K) (a := q) (xs := xs.map V.str) (fun j H' => Same H14 H' ∧ ∃ qs : List Addr, H' Dq = some (.lst (qs.map V.ref)) ∧ Paired (fun a (kv : Key × V) => (cut [Dq] H') a = some (.tup [kV kv.1, kv.2])) qs (kT ((xs.take j).map fun x => (x, g)))) ⟨Same.new hD1, [], upd_same, .nil⟩ (fun j H' _ z => (hq14.same z.1).sq) ?_ ?_
      · rintro j v H15 hx0 ⟨sm, qs, hD5, hpr⟩
        obtain ⟨x, hxj, rfl⟩ := get_map hx0
        have xmm : x ∈ ws := xm x (List.mem_of_getElem? hxj)
        have vg : valV (kT (ws.map fun x => (x, g))) (.inr x) = some (.str g) := by
          rw [valV_goal (by rw [List.map_map]; exact List.mem_map.mpr ⟨x, xmm, rfl⟩), goal_all ndw xmm]
        refine ⟨rfl, ?_⟩
        dsimp only [tYes]
        rw [if_pos rfl]
        refine ⟨_, rfl, _, rfl, _, rfl, Tt, _, rfl, .inl ⟨kT (ws.map fun x => (x, g)), .inr x, .inl (hT14.same sm), rfl, vg.symm⟩, by show 2 ≤ sizeLine; decide, fun T1 hT1 => ?_⟩
        have gg := Same.new (o := .tup [.str x, .str g]) hT1
        have nT : T1 ≠ Dq := fun e => by rw [e, hD5] at hT1; cases hT1
        have lqs : qs.length ≤ 60 := by rw [paired_len hpr, kT, List.length_map, List.length_map, List.length_take]; omega
        refine ⟨_, gg _ _ hD5, by rw [List.length_map, sizeLine_eq]; omega, fun c u e => ?_, qs ++ [T1], by rw [upd_same, List.map_append]; rfl, ?_⟩
        · rw [upd_ne (ne_of_none e hD1)]; exact gg _ _ (sm _ _ e)
        · rw [cut_upd (by simp), take_succ_get hxj, List.map_append, kT_app]
          exact pair_app (paired_imp (fun p kv e => cut_same gg _ _ e) hpr) (by rw [cut_out (by simpa using nT)]; exact upd_same)
      rintro H16 ⟨s16, qs2, hD16, hpr⟩
      rw [List.length_map, List.take_length] at hpr
      have tokB : TOk (xs.map fun x => (x, g)) zz ws := TOk.all ndx xm gm
      have zne : (xs.map fun x => (x, g)) ≠ [] := fun e => by have := congrArg List.length e; rw [List.length_map] at this; rw [this] at lx; exact absurd lx.1 (by decide)
      refine ⟨Dq, qs2, kT (xs.map fun x => (x, g)), rfl, SqL.of hD16, paired_imp (fun p kv e => SqT.of (cut_le _ _ e)) hpr, fun Tb hTb => ?_⟩
      rw [merge_id2 (by rw [kT_keys2]; exact inr_nd' tokB.nd)]
      generalize (xs.map fun x => (x, g)) = zt at tokB zne hTb
      have g17 := Same.new (o := .dK (kT zt)) hTb
      have hT17 : TurnsAt (L2.upd H16 Tb (.dK (kT zt))) Tb zt := upd_same
      have s1016 : Same H10 H16 := Same.trans s1013 (Same.trans g14 s16)
      have nT1 : ∀ {d : Addr} {u : HO}, H10 d = some u → Tb ≠ d := fun h e => by rw [e, s1016 _ _ h] at hTb; cases hTb
      generalize L2.upd H16 Tb (.dK (kT zt)) = H17 at g17 hT17
      have s1017 : Same H10 H17 := Same.trans s1016 g17
      refine ⟨by show 2 ≤ sizeLine; decide, fun T1 hT1 => ?_⟩
      have nT2 : ∀ {d : Addr} {u : HO}, H10 d = some u → T1 ≠ d := fun h e => by rw [e, s1017 _ _ h] at hT1; cases hT1
      have g18 := Same.new (o := .tup [.str kd, .ref Tb]) hT1
      have e18 : (L2.upd H17 T1 (.tup [.str kd, .ref Tb])) T1 = some (.tup [.str kd, .ref Tb]) := upd_same
      generalize L2.upd H17 T1 (.tup [.str kd, .ref Tb]) = H18 at g18 e18
      have s1018 : Same H10 H18 := Same.trans s1017 g18
      have lkv : kv.length ≤ 6 := by rw [hR10.len, ← List.length_map (·.1), en, List.length_take]; omega
      have fresh : (Sum.inr si : Key) ∉ kv.map (·.1) := fun z => by
        rw [hR10.keys] at z
        obtain ⟨r0, hr0, e0⟩ := List.mem_map.mp z
        have e0 : r0.1 = si := Sum.inr.inj e0
        have nn := nd_take (ys := zz) ndz (i := i) (z := si) hsi
        exact nn (by rw [← en, ← e0]; exact List.mem_map_of_mem hr0)
      refine ⟨_, rfl, _, rfl, _, rfl, Z, _, _, _, rfl, rfl, (hS10.same s1018).sq, ix0 hsi, Gd, _, rfl, DPut.k (kvs := kv) (k := Sum.inr si) (s1018 _ _ hD10) (by rw [sizeLine_eq]; omega), ?_⟩
      rw [D1.putK_new fresh]
      have hRn : Rows (cut [Fd, Gd] (L2.upd H18 Gd (.dK (kv ++ [(Sum.inr si, .ref T1)])))) (kv ++ [(Sum.inr si, .ref T1)]) (cl ++ [((si, kd, zt) : RowD)]) := by
        rw [cut_upd (by simp)]
        refine pair_app (hR10.same (cut_same s1018)) ⟨rfl, T1, Tb, rfl, ?_, ?_⟩
        · rw [cut_out (by simp [nT2 hFx, nT2 hGx])]; exact e18
        · rw [TurnsAt, cut_out (by simp [nT1 hFx, nT1 hGx])]; exact g18 _ _ hT17
      refine ⟨_, _, _, _, rfl, fun c u e => ?_, upd_same, by rw [upd_ne nGF.symm]; exact s1018 _ _ hF10, by rw [cut_upd (by simp)]; exact hRF.same (cut_same s1018), hRn, by rw [List.map_append, en, take_succ_get hsi]; rfl, fun r hr => ?_⟩
      · rw [upd_ne fun z => by rw [z, hG0] at e; cases e]; exact s1018 _ _ (s10 _ _ e)
      · rcases List.mem_append.mp hr with z | z
        · exact rok r z
        · rw [List.mem_singleton.mp z]
          exact ⟨awz si (List.mem_of_getElem? hsi), .inr ⟨hkd, zne, tokB⟩⟩
    rintro σ X2 ⟨v9, v10, cl, kvG, rfl, s11, hG11, hF11, hRF11, hRG11, enG, rokG⟩
    rw [show zz.take 6 = zz from List.take_of_length_le (by omega)] at enG
    obtain ⟨s0, hs0⟩ : ∃ x, ss[0]? = some x := ⟨_, List.getElem?_eq_getElem (by omega)⟩
    obtain ⟨z0, hz0⟩ : ∃ x, zz[0]? = some x := ⟨_, List.getElem?_eq_getElem (by omega)⟩
    have wf1 : WF bk s0 ws := ⟨by rw [enF]; exact nds, by rw [enF]; exact rokF, by rw [enF]; exact List.mem_of_getElem? hs0, by rw [← List.length_map (·.1), enF]; omega⟩
    have wf2 : WF cl z0 ws := ⟨by rw [enG]; exact ndz, by rw [enG]; exact rokG, by rw [enG]; exact List.mem_of_getElem? hz0, by rw [← List.length_map (·.1), enG]; omega⟩
    have hS11 := hS9.same s11
    have hZ11 := hZ9.same s11
    have hL11 := hLw9.same s11
    have hp11 := hp9.same s11
    have bA : BookAt X2 Fd bk := ⟨kvF, hF11, hRF11.same cut_le⟩
    have bB : BookAt X2 Gd cl := ⟨kvG, hG11, hRG11.same cut_le⟩
    refine ⟨_, rfl, _, rfl, S, _, _, _, rfl, rfl, hS11.sq, atI_nat (j := 0) (by rw [List.getElem?_map, hs0]; rfl), by show 2 ≤ sizeLine; decide, fun A hA => ?_⟩
    have g12 := Same.new (o := .lst [.ref Fd, .str s0]) hA
    have e12 : (L2.upd X2 A (.lst [.ref Fd, .str s0])) A = some (.lst [.ref Fd, .str s0]) := upd_same
    generalize L2.upd X2 A (.lst [.ref Fd, .str s0]) = X3 at g12 e12
    refine ⟨_, rfl, _, rfl, Z, _, _, _, rfl, rfl, (hZ11.same g12).sq, atI_nat (j := 0) (by rw [List.getElem?_map, hz0]; rfl), by show 2 ≤ sizeLine; decide, fun B hB => ?_⟩
    have g13 := Same.new (o := .lst [.ref Gd, .str z0]) hB
    have e13 : (L2.upd X3 B (.lst [.ref Gd, .str z0])) B = some (.lst [.ref Gd, .str z0]) := upd_same
    generalize L2.upd X3 B (.lst [.ref Gd, .str z0]) = X4 at g13 e13
    refine ⟨_, rfl, by show 3 ≤ sizeLine; decide, fun R hR => ?_⟩
    have g14 := Same.new (o := .lst [.ref A, .ref B, .ref Lw]) hR
    have e14 : (L2.upd X4 R (.lst [.ref A, .ref B, .ref Lw])) R = some (.lst [.ref A, .ref B, .ref Lw]) := upd_same
    have hp13 := (hp11.same g12).same g13
    have nRp := hp13.ne hR
    generalize L2.upd X4 R (.lst [.ref A, .ref B, .ref Lw]) = X5 at g14 e14
    have s1214 := Same.trans g12 (Same.trans g13 g14)
    have hp14 := hp11.same s1214
    refine k X5 R A B Lw bk cl s0 z0 ws t8 (b09.trans (But.of (Same.trans s11 s1214))) ⟨by rw [cut_out (by simpa using nRp)]; exact e14, world_cut ⟨Fd, g14 _ _ (g13 _ _ e12), bA.same s1214⟩ hp14, world_cut ⟨Gd, g14 _ _ e13, bB.same s1214⟩ hp14, ?_⟩ wf1 wf2 wok hp14 tt9
    rw [SL, cut_out (by simpa using nLwp)]
    exact hL11.same s1214
end
end D1
end L2
/-! the law's _law_partner -/
namespace L2
namespace D1
open PySem PySem.Spec PyProof.Rows D2 X5 X6
abbrev sPart : Stmt := top 58
def spPart : Sp := fun vs H Q _ => ∃ (p W : Addr) (bk : Bk) (st : Str) (ws : List Str) (n : Nat) (t : Int), vs = [.ref p, .ref W, .int (n : Int)] ∧ Purse H p t ∧ WorldAt (cut [p] H) W bk st ∧ WF bk st ws ∧ WsOk ws ∧ 1 ≤ n ∧ n * bk.length ≤ 6 ∧ t < 2 ^ 25 ∧
  ∀ (H' : Hp) (R : Addr) (cl : Bk) (st' : Str) (t' : Int), But p H H' → H R = none → WorldAt (cut [p] H') R cl st' → WF cl st' ws → Purse H' p t' → t' ≤ t + 100 → Q (.ref R) H'
theorem ps_imp {X : Cx} {st : Stmt} {t t' : TS} (h : PS X st t) (i : ∀ D σ H, t' D σ H → t D σ H) : PS X st t' := ⟨fun pins s σ H D I q => h.run pins s σ H D I (i _ _ _ q)⟩
def NKf (nm : Cp → Str) (ls : List Cp) : List (List Key × V) := ls.map fun q => (kQ q, .str (nm q))
theorem NKf_val {nm : Cp → Str} : ∀ {ls : List Cp} {q : Cp}, q ∈ ls → valV (NKf nm ls) (kQ q) = some (.str (nm q))
  | [], _, h => by cases h
  | x :: r, q, h => by
    by_cases c : x = q
    · subst c; exact valV_pos rfl
    · show valV ((kQ x, V.str (nm x)) :: NKf nm r) (kQ q) = _
      rw [valV_neg (fun e => c (kQ_inj e))]
      exact NKf_val ((List.mem_cons.mp h).resolve_left fun e => c e.symm)
theorem NKf_none {nm : Cp → Str} {ls : List Cp} {q : Cp} (h : q ∉ ls) : valV (NKf nm ls) (kQ q) = none := by
  induction ls with
  | nil => rfl
  | cons x r ih =>
    show valV ((kQ x, V.str (nm x)) :: NKf nm r) (kQ q) = _
    rw [valV_neg (fun e => h (by rw [kQ_inj e]; exact List.mem_cons_self))]
    exact ih fun m => h (List.mem_cons_of_mem _ m)
theorem NKf_put {nm : Cp → Str} {ls : List Cp} {q : Cp} (h : q ∉ ls) : putK (NKf nm ls) (kQ q) (.str (nm q)) = NKf nm (ls ++ [q]) := by
  rw [L2.putK_new _ (NKf_none h), NKf, NKf, List.map_append]; rfl
theorem names_ex {ss : List Str} {n : Nat} (h6 : n * ss.length ≤ 6) (nd : ss.Nodup) : ∃ nm : Cp → Str, (∀ {i : Nat} {s : Str} {j : Nat}, ss[i]? = some s → nm (s, j) = nameP (i * n + j)) ∧ (∀ q, q ∈ pairsC ss n → Wd (nm q)) ∧ (∀ q u, q ∈ pairsC ss n → u ∈ pairsC ss n → nm q = nm u → q = u) ∧ ((pairsC ss n).map nm).Nodup := by
  refine ⟨nmC ss n, ?_, fun q h => nm_wd h6 h, fun q u h1 h2 e => nm_inj h6 h1 h2 e, nm_nd h6 nd⟩
  intro i s j h
  unfold nmC
  dsimp only
  rw [num_at nd h]
theorem lt6_of {i n j L : Nat} (il : i < L) (hj : j < n) (h6 : n * L ≤ 6) : i * n + j < 6 := by
  have : (i + 1) * n ≤ L * n := Nat.mul_le_mul_right _ il
  rw [Nat.add_mul, Nat.one_mul] at this
  rw [Nat.mul_comm] at h6
  omega
theorem sz6 {k : Nat} (h : k ≤ 6) : k < sizeLine := by rw [sizeLine_eq]; omega
theorem tt_of {t t8 t10 t11 : Int} {c u : Nat} (h8 : t8 ≤ t + 13 * (c : Nat)) (h10 : t10 ≤ t8 + 7) (h11 : t11 ≤ t10 + (u : Nat)) (hu : u ≤ 6) : t11 ≤ t + 13 * ((c + 1 : Nat) : Int) := by omega
theorem nat_lt {j n : Nat} (h : j < ((n : Int)).toNat) : j < n := by omega
/-- some of the words of a row, at least one where there is one -/
def tPick : TS := fun D σ H => ∃ (p W B S N a1 Gd L : Addr) (n : Int) (v7 v12 : Option V) (sx kd : Str) (ks gd : List Str) (t : Int), σ = [some (.ref p), some (.ref W), some (.int n), some (.ref B), some (.ref S), some (.ref N), some (.str sx), v7, some (.str kd), some (.ref a1), some (.ref Gd), some (.ref L), v12, none] ∧
  Purse H p t ∧ SL H Gd gd ∧ Gd ≠ p ∧ SL H L ks ∧ L ≠ p ∧ gd.Nodup ∧ (∀ x ∈ gd, x ∈ ks) ∧ ks.Nodup ∧ ks.length ≤ 6 ∧ (∀ x ∈ ks, Wd x) ∧ t < 2 ^ 26 ∧
  ∀ (H' : Hp) (L' : Addr) (us : List Str) (t' : Int), But p H H' → (H L' = none ∨ L' = L) → SL H' L' us → us.Nodup → (∀ x ∈ us, x ∈ ks) → (ks ≠ [] → us ≠ []) → Purse H' p t' → t' ≤ t + 7 →
    D.nx [some (.ref p), some (.ref W), some (.int n), some (.ref B), some (.ref S), some (.ref N), some (.str sx), v7, some (.str kd), some (.ref a1), some (.ref Gd), some (.ref L'), v12, none] H'
section
variable {P : Program} {w : World} {K : PySem.W.Frag} {mg : Str → Option Value} {base : Heap}
abbrev CLName (P : Program) (w : World) (K : PySem.W.Frag) (mg : Str → Option Value) (base : Heap) := Cal P w K mg base "_law_name" 1 ["_law_number"] spName
abbrev CSay (P : Program) (w : World) (K : PySem.W.Frag) (mg : Str → Option Value) (base : Heap) := Cal P w K mg base "_law_sayable" 2 ["_law_world_here", "_law_state"] spSay
abbrev paN : List Str := ["_law_purse_here", "_law_world_here", "_law_copies", "_law_book", "_law_states", "_law_names", "_law_state", "_law_copy", "_law_kind", "_law_turns_here", "_law_good", "_law_words_here", "_law_goals", "_law_word_here"]
theorem scPar : FnScope paN ["_law_purse_here", "_law_world_here", "_law_copies"] (defScope sPart) := ⟨rfl, rfl, rfl, by decide +kernel, rfl, by decide +kernel, by decide +kernel⟩
theorem ok_partner {f : Addr} {fd : FuncData} (F : Fun K "_law_partner" "_law_partner" sPart f fd) (T : Free4 mg) (CN : CLName P w K mg base) (CY : CSay P w K mg base) (CD : CDraw P w K mg base) (CS : CShuf P w K mg base) : FnOk P w K mg base CX0 4 f fd ["_law_purse_here", "_law_world_here", "_law_copies"] spPart := by
  refine F.ok scPar (fun vs H Q E h => ?_) (fun cdv A outer s H vs Q E0' hr h => ?_)
  · obtain ⟨p, W, bk, st, ws, n, t, rfl, _⟩ := h; rfl
  · obtain ⟨p, W, bk, st, ws, n, t, rfl, hp, wa, wf, wok, n1, n6, t1, k⟩ := h
    have hu := hu_of hr
    refine ⟨_, pss_cons (ps_asg (pe_tup (pa_cons pe_dnewK (pa_cons (pe_callTy (call_listD rfl) (by rfl) T.list (by decide +kernel) (pa_cons (pe_ix ix_list (pv 1) pe_int (fun _ _ => rfl)) pa_nil)) (pa_cons pe_dnewT pa_nil)))) (pg_tup rfl (pgs_cons (pg_name (i := 3) scPar.nd rfl (Or.inl rfl)) (pgs_cons (pg_name (i := 4) scPar.nd rfl (Or.inl rfl)) (pgs_cons (pg_name (i := 5) scPar.nd rfl (Or.inr rfl)) pgs_nil)))))
      (pss_cons (ps_for PassesOwn.never rfl (pi_list (pv 4)) (pg_name (i := 6) scPar.nd rfl (Or.inl rfl))
        (pss_one (ps_for PassesOwn.never rfl (pi_range1 rfl T.range (pa_cons (pv 2) pa_nil)) (pg_name (i := 7) scPar.nd rfl (Or.inl rfl))
          (pss_one (ps_dput hu (pv 5) (pe_tup (pa_cons (pv 6) (pa_cons (pv 7) pa_nil))) (pe_cal CN (hr.mono (by decide)) rfl (pa_cons (pe_callB call_len_dT (by rfl) T.len PySem.boot_len (pa_cons (pv 5) pa_nil)) pa_nil)) rfl)))))
      (pss_cons (ps_for PassesOwn.never rfl (pi_list (pv 4)) (pg_name (i := 6) scPar.nd rfl (Or.inl rfl))
        (pss_cons (ps_asg (pe_dget hu (pe_ix ix_list (pv 1) pe_int (fun _ _ => rfl)) (pv 6) (fun _ _ => rfl)) (pg_tup rfl (pgs_cons (pg_name (i := 8) scPar.nd rfl (Or.inl rfl)) (pgs_cons (pg_name (i := 9) scPar.nd rfl (Or.inr rfl)) pgs_nil))))
        (pss_cons (ps_set (i := 10) scPar.nd rfl (Or.inl rfl) (pe_cal CY (hr.mono (by decide)) rfl (pa_cons (pv 1) (pa_cons (pv 6) pa_nil))))
        (pss_one (ps_for PassesOwn.never rfl (pi_range1 rfl T.range (pa_cons (pv 2) pa_nil)) (pg_name (i := 7) scPar.nd rfl (Or.inl rfl))
          (pss_cons (ps_set (i := 11) scPar.nd rfl (Or.inl rfl) (pe_callTy (call_listD rfl) (by rfl) T.list (by decide +kernel) (pa_cons (pv 9) pa_nil)))
          (pss_cons (ps_imp (t' := tPick) (ps_if (PW.pt (pw_and (pt_cmpR op_eq (pv 8) pe_str (nomark _)) (pw_and1 (pt_cmpR (op_neD hr.units) (pv 10) (pe_lst pa_nil) (by rfl)))))
              (pss_one (ps_set (i := 11) scPar.nd rfl (Or.inl rfl) (pe_slice sl_list (pe_cal CS (hr.mono (by decide)) rfl (pa_cons (pv 0) (pa_cons (pv 10) pa_nil))) po_none (po_some (pe_op op_add pe_int (pe_cal CD (hr.mono (by decide)) rfl (pa_cons (pv 0) (pa_cons (pe_callB call_len_seq (by rfl) T.len PySem.boot_len (pa_cons (pv 10) pa_nil)) pa_nil)))))))) pss_nil) ?sub1)
          (pss_cons (ps_set (i := 12) scPar.nd rfl (Or.inl rfl) (pe_callTy (call_dictP rfl) (by rfl) T.dict (by decide +kernel) (pa_cons (pe_lc (own := [("_law_word_here", 13)]) (g := gName 13) (tt := tYes)
              (te := tTup (tCons (tVar 13) (tCons (tDGet (tVar 5) (tTup (tCons (tDGet (tVar 9) (tVar 13)) (tCons (tCall spDraw [] E0 (tCons (tVar 0) (tCons (tVar 2) tNil))) tNil)))) tNil)))
              rfl scPar.nd (pi_list (pv 11)) (blkOk_by (N := paN) (sc := defScope sPart) (by decide +kernel)) (fun _ _ _ _ _ => pg_name (i := 13) scPar.nd rfl (Or.inl rfl)) (fun _ _ _ _ _ => pts_nil)
              (fun _ _ _ _ _ => pe_tup (pa_cons (pv 13) (pa_cons (pe_dget hu (pv 5) (pe_tup (pa_cons (pe_dget hu (pv 9) (pv 13) (fun _ _ => rfl)) (pa_cons (pe_cal CD (hr.mono (by decide)) rfl (pa_cons (pv 0) (pa_cons (pv 2) pa_nil))) pa_nil))) (fun _ _ => rfl)) pa_nil)))) pa_nil)))
          (pss_one (ps_dput hu (pv 3) (pe_dget hu (pv 5) (pe_tup (pa_cons (pv 6) (pa_cons (pv 7) pa_nil))) (fun _ _ => rfl))
              (pe_tup (pa_cons (pe_dget hu (pe_disp (pps_cons pe_str pe_str (pps_cons pe_str pe_str (pps_cons pe_str pe_str pps_nil))) (by rfl) (by rfl) (fun z => by cases z) (by show 3 ≤ 15; decide)) (pv 8) (fun _ _ => rfl)) (pa_cons (pv 12) pa_nil))) rfl))))))))))
      (pss_one (ps_ret (pe_lst (pa_cons (pv 3) (pa_cons (pe_dget hu (pv 5) (pe_tup (pa_cons (pe_ix ix_list (pv 1) pe_int (fun _ _ => rfl)) (pa_cons pe_int pa_nil))) (fun _ _ => rfl)) pa_nil))))))), ?_⟩
    case sub1 =>
      rintro D σ H ⟨p, W, B, S, N, a1, Gd, L, n, v7, v12, sx, kd, ks, gd, t, rfl, hp, hG, nG, hL, nL, ndg, gin, ndk, l6, wd, t1, k⟩
      refine ⟨_, rfl, rfl, _, rfl, ite2 (fun _ => ?_) (fun _ => k H L ks t (fun _ _ _ e => e) (.inr rfl) hL ndk (fun x h => h) (fun h => h) hp (by omega))⟩
      refine ⟨_, rfl, by show 0 ≤ sizeLine; decide, fun E hE => ?_⟩
      have g1 := Same.new (o := .lst []) hE
      have eE : SL (L2.upd H E (.lst [])) E [] := upd_same
      have hp1 := hp.new (o := .lst []) hE
      generalize L2.upd H E (.lst []) = H1 at g1 eE hp1
      have lgd : gd.length ≤ 6 := Nat.le_trans (pigeon gd ks ndg gin) l6
      refine ⟨dW gd, dW [], dp_words (hG.same g1), dp_words eE, sh_words fun x hx => wd x (gin x hx), sh_words (fun _ h => by cases h), _, rfl, ?_⟩
      rw [eqv_nil]
      refine ite2 (fun c => ?_) (fun _ => k H1 L ks t (But.of g1) (.inr rfl) (hL.same g1) ndk (fun x h => h) (fun h => h) hp1 (by omega))
      have gne : gd ≠ [] := fun e => by rw [e] at c; exact absurd c (by decide)
      have gpos := List.length_pos_iff.mpr gne
      refine ⟨_, rfl, _, rfl, p, Gd, _, t, rfl, hp1, hG.same g1, nG, by rw [List.length_map]; omega, by omega, fun H2 R ys t2 b2 nR hR pm hp2 tt2 => ?_⟩
      obtain ⟨zs, rfl, pz⟩ := perm_str pm
      rw [List.length_map] at tt2
      have lz := pz.length_eq
      refine ⟨_, rfl, _, rfl, Gd, _, rfl, .inl (SqL.of (b2 _ _ nG (g1 _ _ hG))), p, _, t2, rfl, hp2, by rw [List.length_map]; omega, by rw [List.length_map]; omega, by omega, fun r t3 o3 r0 r1 tt3 hp3 => ?_⟩
      have nRp : R ≠ p := hp1.ne nR
      refine ⟨_, _, rfl, rfl, 1 + r, rfl, R, _, rfl, SqL.of (by rw [upd_ne nRp]; exact hR), fun q hq => ?_⟩
      rw [cutV_map, cutL_to _ (by omega)]
      have b3 := (But.of g1).trans (b2.trans (But.upd p H2 o3))
      have nqp := hp3.ne hq
      refine k _ q _ t3 (b3.newt hq) (.inl (b3.fr hq nqp)) upd_same ?_ ?_ ?_ (hp3.new hq) (by omega)
      · exact (List.take_sublist _ _).nodup (pz.nodup_iff.mpr ndg)
      · exact fun x hx => gin x (pz.mem_iff.mp (List.mem_of_mem_take hx))
      · intro _ e
        have := congrArg List.length e
        rw [List.length_take, List.length_nil] at this
        omega
    have ok := wf.dok wok
    obtain ⟨b, hWc, kvs, hbc, hRc⟩ := id wa
    have hW := cut_le _ _ hWc
    have hb := cut_le _ _ hbc
    have nWp : W ≠ p := fun e => by rw [e, cut_in (by simp)] at hWc; cases hWc
    have lb := wf.len
    have h6 : n * (bk.map (·.1)).length ≤ 6 := by rw [List.length_map]; exact n6
    have n6' : n ≤ 6 := by
      have : 1 ≤ bk.length := List.length_pos_iff.mpr ok.ne
      have : n * 1 ≤ n * bk.length := Nat.mul_le_mul_left _ this
      omega
    have snd := ok.nd
    have rof := fun r hr => (wf.rs r hr)
    have stm := wf.st
    have ek : kvs.map (fun kv => kV kv.1) = (bk.map (·.1)).map V.str := by
      have := congrArg (List.map kV) hRc.keys
      rw [List.map_map, List.map_map] at this
      rw [List.map_map]; exact this
    obtain ⟨nm, nm1, nm2, nm3, nm4⟩ := names_ex h6 snd
    have lss : (bk.map (·.1)).length ≤ 6 := by rw [List.length_map]; exact lb
    refine fun B hB => ?_
    have g1 := Same.new (o := .dK []) hB
    have eB1 : (L2.upd H B (.dK [])) B = some (.dK []) := upd_same
    have hp1 := hp.new (o := .dK []) hB
    have nBp := hp.ne hB
    generalize L2.upd H B (.dK []) = H1 at g1 eB1 hp1
    refine ⟨_, rfl, W, _, _, _, rfl, rfl, SqL.of (g1 _ _ hW), atI_nat (j := 0) rfl, b, kvs, rfl, .inl (g1 _ _ hb), fun S hS => ?_⟩
    rw [ek]
    have g2 := Same.new (o := .lst ((bk.map (·.1)).map V.str)) hS
    have eS2 : SL (L2.upd H1 S (.lst ((bk.map (·.1)).map V.str))) S (bk.map (·.1)) := upd_same
    have hp2 := hp1.new (o := .lst ((bk.map (·.1)).map V.str)) hS
    have nSp := hp1.ne hS
    have nBS : B ≠ S := ne_of_none eB1 hS
    generalize L2.upd H1 S (.lst ((bk.map (·.1)).map V.str)) = H2 at g2 eS2 hp2
    refine fun N hN => ?_
    have g3 := Same.new (o := .dT []) hN
    have eN3 : (L2.upd H2 N (.dT [])) N = some (.dT []) := upd_same
    have hp3 := hp2.new (o := .dT []) hN
    have nNp := hp2.ne hN
    have nBN : B ≠ N := ne_of_none (g2 _ _ eB1) hN
    have nSN : S ≠ N := ne_of_none eS2 hN
    have hN0 : H N = none := (Same.trans g1 g2).free hN
    generalize L2.upd H2 N (.dT []) = H3 at g3 eN3 hp3
    refine ⟨by show 3 ≤ sizeLine; decide, fun T0 hT0 => ⟨T0, _, rfl, SqT.of upd_same, rfl, _, _, rfl, _, _, rfl, _, _, rfl, rfl, ?_⟩⟩
    have g4 := Same.new (o := .tup [.ref B, .ref S, .ref N]) hT0
    have hp4 := hp3.new (o := .tup [.ref B, .ref S, .ref N]) hT0
    generalize L2.upd H3 T0 (.tup [.ref B, .ref S, .ref N]) = H4 at g4 hp4
    have s04 : Same H H4 := Same.trans (Same.trans g1 g2) (Same.trans g3 g4)
    have eB4 : H4 B = some (.dK []) := g4 _ _ (g3 _ _ (g2 _ _ eB1))
    have eS4 : SL H4 S (bk.map (·.1)) := g4 _ _ (g3 _ _ eS2)
    have eN4 : H4 N = some (.dT (NKf nm [])) := g4 _ _ eN3
    clear g1 g2 g3 g4 eB1 eS2 eN3 hp1 hp2 hp3 hT0 hN hS
    refine ⟨_, rfl, S, rfl, ⟨_, eS4.sq⟩, ?_⟩
    refine for_list (K := K) (a := S) (xs := (bk.map (·.1)).map V.str) (fun i σ H' => ∃ (v6 v7 : Option V), σ = [some (.ref p), some (.ref W), some (.int (n : Int)), some (.ref B), some (.ref S), some (.ref N), v6, v7, none, none, none, none, none, none] ∧ Same (cut [N] H4) (cut [N] H') ∧ H' N = some (.dT (NKf nm (pairsC ((bk.map (·.1)).take i) n))))
      ⟨none, none, rfl, Same.refl _, eN4⟩ (fun i σ H' _ ⟨_, _, _, z, _⟩ => SqL.of (cut_le _ _ (z S _ (by rw [cut_out (by simpa using nSN)]; exact eS4)))) ?_ ?_
    · rintro i x σ H5 hx ⟨v6, v7, rfl, s5, eN5⟩
      obtain ⟨sx, hs, rfl⟩ := D1.get_map hx
      have il : i < (bk.map (·.1)).length := (List.getElem?_eq_some_iff.mp hs).1
      refine ⟨_, rfl, (n : Int), rfl, by omega, by omega, ?_⟩
      refine for_range (n := (n : Int).toNat) (fun j σ H' => ∃ (v7 : Option V), σ = [some (.ref p), some (.ref W), some (.int (n : Int)), some (.ref B), some (.ref S), some (.ref N), some (.str sx), v7, none, none, none, none, none, none] ∧ Same (cut [N] H4) (cut [N] H') ∧ H' N = some (.dT (NKf nm (pairsC ((bk.map (·.1)).take i) n ++ (List.range j).map fun c => (sx, c)))))
        ⟨v7, rfl, s5, by rw [List.range_zero, List.map_nil, List.append_nil]; exact eN5⟩ ?_ ?_
      · rintro j σ H6 hj ⟨v7, rfl, s6, eN6⟩
        have lN : (NKf nm (pairsC ((bk.map (·.1)).take i) n ++ (List.range j).map fun c => (sx, c))).length = i * n + j := by
          rw [NKf, List.length_map, List.length_append, pairsC_len, List.length_map, List.length_range, List.length_take]
          rw [Nat.min_eq_left (Nat.le_of_lt il)]
        have lt6 : i * n + j < 6 := lt6_of il (nat_lt hj) h6
        refine ⟨_, rfl, N, _, rfl, eN6, i * n + j, by rw [lN]; rfl, by omega, ?_⟩
        rw [show (0 : Int) + (j : Int) = (j : Int) from Int.zero_add _]
        refine ⟨_, rfl, _, rfl, _, rfl, by show 2 ≤ sizeLine; decide, fun T1 hT1 => ?_⟩
        have g := Same.new (o := .tup ((kQ (sx, j)).map kV)) hT1
        have eT1 : (L2.upd H6 T1 (.tup ((kQ (sx, j)).map kV))) T1 = some (.tup ((kQ (sx, j)).map kV)) := upd_same
        have eN7 := g _ _ eN6
        refine ⟨N, _, rfl, DPut.t (k := kQ (sx, j)) eN7 eT1 (by rw [lN, sizeLine_eq]; omega), ?_⟩
        have fresh : (sx, j) ∉ pairsC ((bk.map (·.1)).take i) n ++ (List.range j).map fun c => (sx, c) := fun m => by
          rcases List.mem_append.mp m with m | m
          · exact nd_take snd hs (mem_pairsC.mp m).1
          · obtain ⟨c, hc, e⟩ := List.mem_map.mp m
            have e : c = j := (Prod.ext_iff.mp e).2
            have := List.mem_range.mp hc
            omega
        have en : nameP (i * n + j) = nm (sx, j) := (nm1 hs).symm
        rw [en, NKf_put fresh]
        refine ⟨_, rfl, by rw [cut_upd (by simp)]; exact Same.trans s6 (cut_same g), ?_⟩
        rw [upd_same, List.range_succ, List.map_append, ← List.append_assoc]; rfl
      · rintro σ H6 ⟨v7, rfl, s6, eN6⟩
        refine ⟨_, _, rfl, s6, ?_⟩
        rw [take_succ_get hs, pairsC_snoc]; exact eN6
    rintro σ H5 ⟨v6, v7, rfl, s45, eN5⟩
    rw [List.length_map, List.take_length] at eN5
    have s5 : ∀ {c : Addr} {u : HO}, c ≠ N → H4 c = some u → H5 c = some u := fun {c u} nc e => cut_le _ _ (s45 c u (by rw [cut_out (by simpa using nc)]; exact e))
    have s05 : Same H H5 := fun c u e => s5 (ne_of_none e hN0) (s04 _ _ e)
    have hp5 : Purse H5 p t := by
      obtain ⟨g, b', z, e, r⟩ := hp4
      exact ⟨g, b', z, s5 nNp.symm e, r⟩
    have eB5 := s5 nBN eB4
    have eS5 : SL H5 S (bk.map (·.1)) := s5 nSN eS4
    have sP : Same (cut [p] H) (cut [p, B] H5) := fun c u e => by
      obtain ⟨n1, e⟩ := cut_some e
      have n1 : c ≠ p := fun z => n1 (by simp [z])
      have n2 := ne_of_none e hB
      rw [cut_out (by simp [n1, n2])]; exact s05 _ _ e
    have cN5 : (cut [p, B] H5) N = some (.dT (NKf nm (pairsC (bk.map (·.1)) n))) := by rw [cut_out (by simp [nNp, nBN.symm])]; exact eN5
    have cS5 : SL (cut [p, B] H5) S (bk.map (·.1)) := by rw [SL, cut_out (by simp [nSp, nBS.symm])]; exact eS5
    clear s45 s5 eB4 eS4 eN4 hp4 s04
    refine ⟨_, rfl, S, rfl, ⟨_, eS5.sq⟩, ?_⟩
    refine for_list (K := K) (a := S) (xs := (bk.map (·.1)).map V.str) (fun i σ H' => ∃ (v6 v7 v8 v9 v10 v11 v12 : Option V) (cl : Bk) (kv' : List (Key × V)) (t' : Int), σ = [some (.ref p), some (.ref W), some (.int (n : Int)), some (.ref B), some (.ref S), some (.ref N), v6, v7, v8, v9, v10, v11, v12, none] ∧ Same (cut [p, B] H5) (cut [p, B] H') ∧ H' B = some (.dK kv') ∧ Rows (cut [p, B] H') kv' cl ∧
        cl.map (·.1) = (pairsC ((bk.map (·.1)).take i) n).map (nm) ∧ (∀ r ∈ cl, ROk ((pairsC (bk.map (·.1)) n).map (nm)) ws r) ∧ Purse H' p t' ∧ t' ≤ t + 13 * cl.length)
      ⟨_, _, none, none, none, none, none, [], [], t, rfl, Same.refl _, eB5, .nil, rfl, (fun r hr => by cases hr), hp5, by simp⟩ (fun i σ H' _ ⟨_, _, _, _, _, _, _, _, _, _, _, z, _⟩ => (SL.same (SL.same cS5 z) cut_le).sq) ?_ ?_
    · rintro i x σ H6 hx ⟨v6, v7, v8, v9, v10, v11, v12, cl, kv', t6, rfl, s6, hB6, hR6, en6, ro6, hp6, tt6⟩
      obtain ⟨sx, hs, rfl⟩ := D1.get_map hx
      have hsm := List.mem_of_getElem? hs
      have il : i < (bk.map (·.1)).length := (List.getElem?_eq_some_iff.mp hs).1
      have sW := Same.trans sP s6
      have wa6 : WorldAt H6 W bk st := (wa.same sW).same cut_le
      have hW6 := cut_le _ _ (sW _ _ hWc)
      have hb6 := cut_le _ _ (sW _ _ hbc)
      have hR := hRc.same sW
      obtain ⟨v, ev, ⟨t1', a1, rfl, ht1, h1⟩, m1⟩ := hR.look hsm
      refine ⟨_, rfl, W, _, _, _, rfl, rfl, SqL.of hW6, atI_nat (j := 0) rfl, _, rfl, b, _, rfl, .inl ⟨kvs, .inr sx, .inl hb6, rfl, ev.symm⟩, t1', _, rfl, SqT.of (cut_le _ _ ht1), rfl, _, _, rfl, _, _, rfl, rfl, ?_⟩
      refine ⟨_, rfl, _, rfl, W, bk, st, sx, rfl, wa6, ok, hsm, fun H7 Gd gd g7 nG hG ndg gin => ?_⟩
      have s7 : Same (cut [p, B] H6) (cut [p, B] H7) := cut_same g7
      have h17 := h1.same s7
      have nGp := hp6.ne nG
      have nGB : Gd ≠ B := fun e => by rw [e, hB6] at nG; cases nG
      have cG7 : SL (cut [p, B] H7) Gd gd := by rw [SL, cut_out (by simp [nGp, nGB])]; exact hG
      have rowk := (rof _ m1).2
      have ndt : ((rowOf bk sx).2.map (·.1)).Nodup := ok.tk _ m1
      have form : RForm (rowOf bk sx).1 (rowOf bk sx).2 := (ok.rs _ m1).2.1
      have tin : ∀ x ∈ (rowOf bk sx).2.map (·.1), x ∈ ws ∧ goalT (rowOf bk sx).2 x ∈ bk.map (·.1) := fun x hx => by
        refine ⟨?_, ok.toBWf.goal hsm ndt hx⟩
        rcases rowk with ⟨_, e⟩ | ⟨_, _, tok⟩
        · have e : (rowOf bk sx).2 = [] := e
          rw [e] at hx; cases hx
        · obtain ⟨t, ht, e⟩ := List.mem_map.mp hx
          rw [← e]; exact tok.ks t ht
      have l6 : ((rowOf bk sx).2.map (·.1)).length ≤ 6 := Nat.le_trans (pigeon _ ws ndt fun x hx => (tin x hx).1) wok.hi
      have ekt : (kT (rowOf bk sx).2).map (fun kv => kV kv.1) = ((rowOf bk sx).2.map (·.1)).map V.str := by rw [kT, List.map_map, List.map_map]; rfl
      refine ⟨_, rfl, (n : Int), rfl, by omega, by omega, ?_⟩
      refine for_range (n := (n : Int).toNat) (fun j σ H' => ∃ (v7 v11 v12 : Option V) (cl : Bk) (kv' : List (Key × V)) (t' : Int), σ = [some (.ref p), some (.ref W), some (.int (n : Int)), some (.ref B), some (.ref S), some (.ref N), some (.str sx), v7, some (.str (rowOf bk sx).1), some (.ref a1), some (.ref Gd), v11, v12, none] ∧ Same (cut [p, B] H7) (cut [p, B] H') ∧ H' B = some (.dK kv') ∧ Rows (cut [p, B] H') kv' cl ∧
          cl.map (·.1) = (pairsC ((bk.map (·.1)).take i) n ++ (List.range j).map fun c => (sx, c)).map (nm) ∧ (∀ r ∈ cl, ROk ((pairsC (bk.map (·.1)) n).map (nm)) ws r) ∧ Purse H' p t' ∧ t' ≤ t + 13 * cl.length)
        ?_ ?_ ?_
      · refine ⟨_, _, _, cl, kv', t6, rfl, ?_⟩
        exact ⟨Same.refl _, g7 _ _ hB6, hR6.same s7, by rw [List.range_zero, List.map_nil, List.append_nil]; exact en6, ro6, hp6.same g7, tt6⟩
      · rintro j σ H8 hj ⟨v7, v11, v12, cl, kv', t8, rfl, s8, hB8, hR8, en8, ro8, hp8, tt8⟩
        rw [show (0 : Int) + (j : Int) = (j : Int) from Int.zero_add _]
        have lcl : cl.length = i * n + j := by
          have := congrArg List.length en8
          rw [List.length_map, List.length_map, List.length_append, pairsC_len, List.length_map, List.length_range, List.length_take, Nat.min_eq_left (Nat.le_of_lt il)] at this
          exact this
        have lt6 : i * n + j < 6 := lt6_of il (nat_lt hj) h6
        have h18 := h17.same s8
        have h18a : TurnsAt H8 a1 (rowOf bk sx).2 := cut_le _ _ h18
        refine ⟨_, rfl, a1, kT (rowOf bk sx).2, rfl, .inl h18a, fun L hL => ?_⟩
        rw [ekt]
        have nLp := hp8.ne hL
        have nLB : L ≠ B := fun e => by rw [e, hB8] at hL; cases hL
        have g9 := Same.new (o := .lst (((rowOf bk sx).2.map (·.1)).map V.str)) hL
        have eL9 : SL (L2.upd H8 L (.lst (((rowOf bk sx).2.map (·.1)).map V.str))) L ((rowOf bk sx).2.map (·.1)) := upd_same
        have hp9 := hp8.new (o := .lst (((rowOf bk sx).2.map (·.1)).map V.str)) hL
        generalize L2.upd H8 L (.lst (((rowOf bk sx).2.map (·.1)).map V.str)) = H9 at g9 eL9 hp9
        have cG9 : SL H9 Gd gd := cut_le _ _ ((cG7.same s8).same (cut_same g9))
        refine ⟨p, W, B, S, N, a1, Gd, L, _, _, _, sx, _, _, gd, t8, rfl, hp9, cG9, nGp, eL9, nLp, ndg, gin, ndt, l6, fun x hx => wok.wd x (tin x hx).1, by omega, fun H10 L' us t10 b10 nL' hL' ndu uin une hp10 tt10 => ?_⟩
        have nL'p : L' ≠ p := nL'.elim (fun n => hp9.ne n) fun e => e ▸ nLp
        have hB10 := b10 _ _ nBp (g9 _ _ hB8)
        have s10 : Same (cut [p, B] H8) (cut [p, B] H10) := Same.trans (cut_same g9) (cut_but b10 (by simp))
        have sH10 := Same.trans s8 s10
        have h110 : TurnsAt H10 a1 (rowOf bk sx).2 := cut_le _ _ (h18.same s10)
        have na1p : a1 ≠ p := fun e => by have := (h18.same s10); rw [TurnsAt, e, cut_in (by simp)] at this; cases this
        have cN10 := sH10 _ _ (s7 _ _ (s6 _ _ cN5))
        have hN10 := cut_le _ _ cN10
        have lu : us.length ≤ 6 := Nat.le_trans (pigeon us _ ndu uin) l6
        refine ⟨_, rfl, L', rfl, ⟨_, hL'.sq⟩, fun M hM => ?_⟩
        have nMp := hp10.ne hM
        have nML' : L' ≠ M := ne_of_none hL' hM
        have nMB : M ≠ B := fun e => by rw [e, hB10] at hM; cases hM
        refine lc_list (K := K) (a := L') (xs := us.map V.str) (fun i H' => ∃ (ps : List Addr) (ts : List (Str × Str)) (t' : Int), But p H10 H' ∧ H' M = some (.lst (ps.map V.ref)) ∧ Paired (fun a (kv : Key × V) => (cut [p, M] H') a = some (.tup [kV kv.1, kv.2])) ps (kT ts) ∧ ts.map (·.1) = us.take i ∧ (∀ t ∈ ts, t.2 ∈ (pairsC (bk.map (·.1)) n).map (nm)) ∧ Purse H' p t' ∧ t' ≤ t10 + i)
          ⟨[], [], t10, But.new hM, upd_same, .nil, rfl, (fun t ht => by cases ht), hp10.new hM, by omega⟩ (fun i H' _ ⟨_, _, _, z, _⟩ => SqL.of (z _ _ nL'p hL')) ?_ ?_
        · rintro i2 x H11 hx ⟨ps, ts, t11, b11, hM11, hps, ets, tin2, hp11, tt11⟩
          obtain ⟨wd, hw, rfl⟩ := D1.get_map hx
          have li2 : i2 < us.length := (List.getElem?_eq_some_iff.mp hw).1
          obtain ⟨_, gin2⟩ := tin wd (uin wd (List.mem_of_getElem? hw))
          have hw1 := uin wd (List.mem_of_getElem? hw)
          refine ⟨rfl, ?_⟩
          dsimp only [tYes]
          rw [if_pos rfl]
          refine ⟨_, rfl, _, rfl, _, rfl, _, rfl, a1, _, rfl, .inl ⟨kT (rowOf bk sx).2, .inr wd, .inl (b11 _ _ na1p h110), rfl, (valV_goal hw1).symm⟩, _, rfl, _, rfl, p, _, t11, rfl, hp11, by omega, by omega, by omega, fun r t12 o12 r0 r1 tt12 hp12 => ⟨by show 2 ≤ sizeLine; decide, fun T1 hT1 => ?_⟩⟩
          obtain ⟨c, rfl⟩ := Int.eq_ofNat_of_zero_le r0
          have b12 := b11.trans (But.upd p H11 o12)
          have hM12 : (L2.upd H11 p o12) M = some (.lst (ps.map V.ref)) := by rw [upd_ne nMp]; exact hM11
          have c12 : cut [p, M] (L2.upd H11 p o12) = cut [p, M] H11 := cut_upd (by simp)
          rw [← c12] at hps
          generalize L2.upd H11 p o12 = H12 at b12 hM12 hps hp12 hT1
          have g1 := Same.new (o := .tup ((kQ (goalT (rowOf bk sx).2 wd, c)).map kV)) hT1
          have eT1 : (L2.upd H12 T1 (.tup ((kQ (goalT (rowOf bk sx).2 wd, c)).map kV))) T1 = some (.tup ((kQ (goalT (rowOf bk sx).2 wd, c)).map kV)) := upd_same
          have hp13 := hp12.new (o := .tup ((kQ (goalT (rowOf bk sx).2 wd, c)).map kV)) hT1
          have qm : (goalT (rowOf bk sx).2 wd, c) ∈ pairsC (bk.map (·.1)) n := mem_pairsC.mpr ⟨gin2, by
            have r1 : (c : Int) < (n : Int) := r1
            omega⟩
          have dgN : DGet (L2.upd H12 T1 (.tup ((kQ (goalT (rowOf bk sx).2 wd, c)).map kV))) N (.ref T1) (some (.str (nm (goalT (rowOf bk sx).2 wd, c)))) := by
            rw [← NKf_val qm]; exact DGet.t (g1 _ _ (b12 _ _ nNp hN10)) eT1
          refine ⟨N, _, rfl, dgN, by show 2 ≤ sizeLine; decide, fun T2 hT2 => ?_⟩
          have g2 := Same.new (o := .tup [.str wd, .str (nm (goalT (rowOf bk sx).2 wd, c))]) hT2
          have g := Same.trans g1 g2
          have nT2p := hp13.ne hT2
          have nT2M : T2 ≠ M := (ne_of_none (g1 _ _ hM12) hT2).symm
          have lps : ps.length = i2 := by
            rw [paired_len hps, kT, List.length_map, ← List.length_map (·.1), ets, List.length_take]; omega
          refine ⟨_, g _ _ hM12, by rw [List.length_map, lps, sizeLine_eq]; omega, ps ++ [T2], ts ++ [(wd, nm (goalT (rowOf bk sx).2 wd, c))], t12, fun q u nq e => ?_, by rw [upd_same, List.map_append]; rfl, ?_, ?_, fun t ht => ?_, ((hp12.same g)).upd nMp.symm, by omega⟩
          · rw [upd_ne (ne_of_none e hM)]; exact g _ _ (b12 _ _ nq e)
          · rw [cut_upd (by simp), kT, List.map_append]
            have hp' := paired_imp (fun p' (kv : Key × V) (e : (cut [p, M] H12) p' = some (.tup [kV kv.1, kv.2])) => cut_same g _ _ e) hps
            exact pair_app hp' (by rw [cut_out (by simp [nT2p, nT2M])]; exact upd_same)
          · rw [List.map_append, ets, take_succ_get hw]; rfl
          · rcases List.mem_append.mp ht with z | z
            · exact tin2 t z
            · rw [List.mem_singleton.mp z]; exact List.mem_map_of_mem qm
        rintro H11 ⟨ps, ts, t11, b11, hM11, hps, ets, tin2, hp11, tt11⟩
        rw [List.length_map, List.take_length] at ets
        rw [List.length_map] at tt11
        have hp3 : Paired (fun p' (kv : Key × V) => SqT K H11 p' [kV kv.1, kv.2]) ps (kT ts) := paired_imp (fun p' kv e => SqT.of (cut_le _ _ e)) hps
        have ndts : (ts.map (·.1)).Nodup := by rw [ets]; exact ndu
        refine ⟨M, ps, kT ts, rfl, SqL.of hM11, hp3, fun Dg hDg => ?_⟩
        rw [merge_id2 (by rw [kT_keys]; exact inr_nd' ndts)]
        have nDp := hp11.ne hDg
        have hB11 := b11 _ _ nBp hB10
        have nDB : Dg ≠ B := fun e => by rw [e, hB11] at hDg; cases hDg
        have gD := Same.new (o := .dK (kT ts)) hDg
        have eD : TurnsAt (L2.upd H11 Dg (.dK (kT ts))) Dg ts := upd_same
        have hp12 := hp11.new (o := .dK (kT ts)) hDg
        generalize L2.upd H11 Dg (.dK (kT ts)) = H12 at gD eD hp12
        intro Td hTd
        refine ⟨upd_same, kT thT, rfl, by show 3 ≤ 15; decide, ?_⟩
        rw [merge_id2 (by rw [kT_keys]; exact inr_nd' thT_nd), updd2]
        have gT := Same.new (o := .dK (kT thT)) hTd
        have eTd : TurnsAt (L2.upd H12 Td (.dK (kT thT))) Td thT := upd_same
        generalize L2.upd H12 Td (.dK (kT thT)) = H13 at gT eTd
        have s1113 := Same.trans gD gT
        have hp13 := hp12.same gT
        refine ⟨_, rfl, Td, _, rfl, .inl ⟨kT thT, .inr (rowOf bk sx).1, .inl eTd, rfl, (thT_goal form).symm⟩, _, rfl, by show 2 ≤ sizeLine; decide, fun T3 hT3 => ?_⟩
        have g3 := Same.new (o := .tup [.str (flipK (rowOf bk sx).1), .ref Dg]) hT3
        have eT3 : (L2.upd H13 T3 (.tup [.str (flipK (rowOf bk sx).1), .ref Dg])) T3 = some (.tup [.str (flipK (rowOf bk sx).1), .ref Dg]) := upd_same
        have nT3p := hp13.ne hT3
        have nT3B : T3 ≠ B := fun e => by rw [e, s1113 _ _ hB11] at hT3; cases hT3
        have hp14 := hp13.new (o := .tup [.str (flipK (rowOf bk sx).1), .ref Dg]) hT3
        generalize L2.upd H13 T3 (.tup [.str (flipK (rowOf bk sx).1), .ref Dg]) = H14 at g3 eT3 hp14
        refine ⟨_, rfl, _, rfl, _, rfl, _, rfl, by show 2 ≤ sizeLine; decide, fun T4 hT4 => ?_⟩
        have g4 := Same.new (o := .tup ((kQ (sx, j)).map kV)) hT4
        have eT4 : (L2.upd H14 T4 (.tup ((kQ (sx, j)).map kV))) T4 = some (.tup ((kQ (sx, j)).map kV)) := upd_same
        have hp15 := hp14.new (o := .tup ((kQ (sx, j)).map kV)) hT4
        have s15 := Same.trans s1113 (Same.trans g3 g4)
        have qm : (sx, j) ∈ pairsC (bk.map (·.1)) n := mem_pairsC.mpr ⟨hsm, nat_lt hj⟩
        have dgN : DGet (L2.upd H14 T4 (.tup ((kQ (sx, j)).map kV))) N (.ref T4) (some (.str (nm (sx, j)))) := by
          rw [← NKf_val qm]; exact DGet.t (s15 _ _ (b11 _ _ nNp hN10)) eT4
        have lkv : kv'.length ≤ 6 := by rw [hR8.len, lcl]; exact Nat.le_of_lt lt6
        refine ⟨N, _, rfl, dgN, B, _, rfl, DPut.k (kvs := kv') (k := Sum.inr (nm (sx, j))) (s15 _ _ hB11) (sz6 lkv), ?_⟩
        have fresh : nm (sx, j) ∉ cl.map (·.1) := fun m => by
          rw [en8] at m
          obtain ⟨q, hq, e⟩ := List.mem_map.mp m
          have qin : q ∈ pairsC (bk.map (·.1)) n := by
            rcases List.mem_append.mp hq with z | z
            · obtain ⟨z1, z2⟩ := mem_pairsC.mp z
              exact mem_pairsC.mpr ⟨List.mem_of_mem_take z1, z2⟩
            · obtain ⟨c, hc, rfl⟩ := List.mem_map.mp z
              exact mem_pairsC.mpr ⟨hsm, Nat.lt_trans (List.mem_range.mp hc) (nat_lt hj)⟩
          have := nm3 _ _ qin qm e
          subst this
          rcases List.mem_append.mp hq with z | z
          · exact nd_take snd hs (mem_pairsC.mp z).1
          · obtain ⟨c, hc, e⟩ := List.mem_map.mp z
            have e : c = j := (Prod.ext_iff.mp e).2
            exact absurd (e ▸ List.mem_range.mp hc) (Nat.lt_irrefl _)
        have sE : Same (cut [p, B] H8) (cut [p, B] (L2.upd H14 T4 (.tup ((kQ (sx, j)).map kV)))) := Same.trans s10 (Same.trans (cut_but b11 (by simp)) (cut_same s15))
        rw [D1.putK_new (hR8.fresh fresh)]
        refine ⟨_, _, _, cl ++ [(nm (sx, j), flipK (rowOf bk sx).1, ts)], _, t11, rfl, by rw [cut_upd (by simp)]; exact Same.trans s8 sE, upd_same, ?_, ?_, fun r hr => ?_, hp15.upd nBp.symm, by rw [List.length_append]; exact tt_of tt8 tt10 tt11 lu⟩
        · rw [cut_upd (by simp)]
          refine (hR8.same sE).app ⟨T3, Dg, rfl, ?_, ?_⟩
          · rw [cut_out (by simp [nT3p, nT3B])]; exact g4 _ _ eT3
          · rw [TurnsAt, cut_out (by simp [nDp, nDB])]; exact g4 _ _ (g3 _ _ (gT _ _ eD))
        · rw [List.map_append, en8, List.range_succ]; simp only [List.map_append, List.map_cons, List.map_nil, List.append_assoc]
        · rcases List.mem_append.mp hr with z | z
          · exact ro8 r z
          · rw [List.mem_singleton.mp z]
            refine ⟨nm2 _ qm, ?_⟩
            rcases rowk with ⟨e1, e2⟩ | ⟨kk, tne, tok⟩
            · have e1 : (rowOf bk sx).1 = "done" := e1
              have e2 : (rowOf bk sx).2 = [] := e2
              left
              refine ⟨by show flipK (rowOf bk sx).1 = "done"; rw [e1]; decide +kernel, ?_⟩
              have : us = [] := List.eq_nil_iff_forall_not_mem.mpr fun x hx => by have := uin x hx; rw [e2] at this; cases this
              rw [this] at ets
              exact List.map_eq_nil_iff.mp ets
            · right
              have tne : (rowOf bk sx).2 ≠ [] := tne
              refine ⟨?_, fun e => ?_, ⟨ndts, fun t ht => ?_, tin2⟩⟩
              · rcases kk with kk | kk
                · have kk : (rowOf bk sx).1 = "says" := kk
                  right; show flipK (rowOf bk sx).1 = "hears"; rw [kk]; decide +kernel
                · have kk : (rowOf bk sx).1 = "hears" := kk
                  left; show flipK (rowOf bk sx).1 = "says"; rw [kk]; decide +kernel
              · have e : ts = [] := e
                rw [e] at ets
                exact une (fun z => tne (List.map_eq_nil_iff.mp z)) ets.symm
              · have : t.1 ∈ us := by rw [← ets]; exact List.mem_map_of_mem ht
                exact (tin _ (uin _ this)).1
      · rintro σ H8 ⟨v7, v11, v12, cl, kv', t8, rfl, s8, hB8, hR8, en8, ro8, hp8, tt8⟩
        refine ⟨_, _, _, _, _, _, _, cl, kv', t8, rfl, Same.trans s6 (Same.trans s7 s8), hB8, hR8, ?_, ro8, hp8, tt8⟩
        rw [take_succ_get hs, pairsC_snoc]; exact en8
    · rintro σ H6 ⟨v6, v7, v8, v9, v10, v11, v12, cl, kv', t6, rfl, s6, hB6, hR6, en6, ro6, hp6, tt6⟩
      rw [List.length_map, List.take_length] at en6
      have sW := Same.trans sP s6
      have hW6 := cut_le _ _ (sW _ _ hWc)
      refine ⟨_, rfl, _, rfl, _, rfl, W, _, _, _, rfl, rfl, SqL.of hW6, atI_nat (j := 1) rfl, by show 2 ≤ sizeLine; decide, fun T1 hT1 => ?_⟩
      have g1 := Same.new (o := .tup ((kQ (st, 0)).map kV)) hT1
      have eT1 : (L2.upd H6 T1 (.tup ((kQ (st, 0)).map kV))) T1 = some (.tup ((kQ (st, 0)).map kV)) := upd_same
      have hp7 := hp6.new (o := .tup ((kQ (st, 0)).map kV)) hT1
      have qm : (st, 0) ∈ pairsC (bk.map (·.1)) n := mem_pairsC.mpr ⟨stm, n1⟩
      have dgN : DGet (L2.upd H6 T1 (.tup ((kQ (st, 0)).map kV))) N (.ref T1) (some (.str (nm (st, 0)))) := by
        rw [← NKf_val qm]; exact DGet.t (g1 _ _ (cut_le _ _ (s6 _ _ cN5))) eT1
      refine ⟨N, _, rfl, dgN, by show 2 ≤ sizeLine; decide, fun R hR => ?_⟩
      have nRp := hp7.ne hR
      have g2 := Same.new (o := .lst [.ref B, .str (nm (st, 0))]) hR
      have g := Same.trans g1 g2
      have bF : But p H H6 := fun c u nc e => by
        have := cut_le _ _ (sP c u (by rw [cut_out (by simpa using nc)]; exact e))
        exact cut_le _ _ (s6 c u (sP c u (by rw [cut_out (by simpa using nc)]; exact e)))
      have lcl : cl.length ≤ 6 := by
        have := congrArg List.length en6
        rw [List.length_map, List.length_map, pairsC_len] at this
        rw [this, Nat.mul_comm]; exact h6
      have bF2 : But p H (L2.upd H6 T1 (.tup ((kQ (st, 0)).map kV))) := bF.newt hT1
      refine k _ R cl (nm (st, 0)) t6 (bF2.newt hR) (bF2.fr hR nRp) ⟨B, by rw [cut_out (by simpa using nRp)]; exact upd_same, kv', ?_, ?_⟩ ?_ (hp7.new hR) (by omega)
      · rw [cut_out (by simpa using nBp)]; exact g _ _ hB6
      · exact hR6.same (Same.trans (cut_mono (by simp)) (cut_same g))
      · refine ⟨by rw [en6]; exact nm4, fun r hr => by rw [en6]; exact ro6 r hr, by rw [en6]; exact List.mem_map_of_mem qm, lcl⟩
end
end D1
end L2
/-! shape -/
namespace L2
namespace D1
open PySem PySem.Spec PyProof.Rows
theorem merge_nd : ∀ (more kvs : List (Key × V)), (∀ p ∈ more, p.1 ∉ kvs.map (·.1)) → (more.map (·.1)).Nodup → mergeK kvs more = kvs ++ more
  | [], kvs, _, _ => (List.append_nil _).symm
  | p :: r, kvs, h, nd => by
    have nd' := List.nodup_cons.mp nd
    show mergeK (putK kvs p.1 p.2) r = _
    rw [putK_new (h p List.mem_cons_self), merge_nd r _ ?_ nd'.2, List.append_assoc]
    · rfl
    · intro q hq z
      rw [List.map_append] at z
      rcases List.mem_append.mp z with z | z
      · exact h q (List.mem_cons_of_mem _ hq) z
      · have : q.1 = p.1 := List.mem_singleton.mp z
        exact nd'.1 (by show p.1 ∈ _; rw [← this]; exact List.mem_map_of_mem hq)
theorem merge_id {kvs : List (Key × V)} (nd : (kvs.map (·.1)).Nodup) : mergeK [] kvs = kvs := by
  rw [merge_nd kvs [] (by simp) nd]; rfl
theorem inr_nd {l : List Str} (h : l.Nodup) : (l.map (Sum.inr : Str → Key)).Nodup := by
  induction l with
  | nil => exact List.nodup_nil
  | cons a r ih =>
    have h' := List.nodup_cons.mp h
    refine List.nodup_cons.mpr ⟨fun z => ?_, ih h'.2⟩
    obtain ⟨b, hb, e⟩ := List.mem_map.mp z
    exact h'.1 (by rw [← Sum.inr.inj e]; exact hb)
theorem kT_nd {ts : List (Str × Str)} (h : (ts.map (·.1)).Nodup) : ((kT ts).map (·.1)).Nodup := by
  have : (kT ts).map (·.1) = (ts.map (·.1)).map Sum.inr := by rw [kT, List.map_map, List.map_map]; rfl
  rw [this]; exact inr_nd h
/-- a new row, its words and goals in slots -/
def tRow (k : Str) (l : List (Nat × Nat)) : TE := fun σ H Q => ∃ ts : List (Str × Str), Paired (fun ij t => σ[ij.1]? = some (some (.str t.1)) ∧ σ[ij.2]? = some (some (.str t.2))) l ts ∧ (ts.map (·.1)).Nodup ∧
  ∀ (H' : Hp) (T E : Addr), Same H H' → H T = none → H E = none → H' T = some (.tup [.str k, .ref E]) → TurnsAt H' E ts → Q (.ref T) H'
theorem row2 {X : Cx} {k : Str} {i j m n : Nat} {e1 e2 e3 e4 : Expr} {pos pos' : Pos} {x1 j0 : Nat} {ps : Pos} (h1 : PE X e1 (tVar i)) (h2 : PE X e2 (tVar j)) (h3 : PE X e3 (tVar m)) (h4 : PE X e4 (tVar n)) :
    PE X (.Tuple [.Constant (.str k) j0 ps, .Dict [some e1, some e3] [e2, e4] pos] x1 pos') (tRow k [(i, j), (m, n)]) := by
  refine pe_imp (pe_tup (pa_cons pe_str (pa_cons (pe_disp (pps_cons h1 h2 (pps_cons h3 h4 pps_nil)) (by rfl) (by rfl) (fun z => by cases z) (by show 2 ≤ 15; decide)) pa_nil))) ?_
  rintro σ H Q ⟨ts, pr, nd, kk⟩
  cases pr with
  | @cons _ t1 _ _ a pr =>
    cases pr with
    | @cons _ t2 _ _ b pr =>
      cases pr
      refine fun E hE => ⟨_, a.1, _, a.2, _, b.1, _, b.2, upd_same, kT [t1, t2], rfl, by show 2 ≤ 15; decide, by show 2 ≤ sizeLine; decide, fun T hT => ?_⟩
      rw [merge_id (kT_nd nd)] at hT ⊢
      have hT2 := upd_none' hT
      have nET : E ≠ T := fun e => by rw [← e, upd_same] at hT; cases hT
      refine kk _ T E (fun c u ec => ?_) (upd_none' hT2) hE upd_same (by rw [TurnsAt, upd_ne nET, upd_same])
      rw [upd_ne (ne_of_none ec (upd_none' hT2)), upd_ne (ne_of_none ec hE), upd_ne (ne_of_none ec hE)]; exact ec
theorem row1 {X : Cx} {k : Str} {i j : Nat} {e1 e2 : Expr} {pos pos' : Pos} {x1 j0 : Nat} {ps : Pos} (h1 : PE X e1 (tVar i)) (h2 : PE X e2 (tVar j)) :
    PE X (.Tuple [.Constant (.str k) j0 ps, .Dict [some e1] [e2] pos] x1 pos') (tRow k [(i, j)]) := by
  refine pe_imp (pe_tup (pa_cons pe_str (pa_cons (pe_disp (pps_cons h1 h2 pps_nil) (by rfl) (by rfl) (fun z => by cases z) (by show 1 ≤ 15; decide)) pa_nil))) ?_
  rintro σ H Q ⟨ts, pr, nd, kk⟩
  cases pr with
  | @cons _ t1 _ _ a pr =>
    cases pr
    refine fun E hE => ⟨_, a.1, _, a.2, upd_same, kT [t1], rfl, by show 1 ≤ 15; decide, by show 2 ≤ sizeLine; decide, fun T hT => ?_⟩
    rw [merge_id (kT_nd nd)] at hT ⊢
    have hT2 := upd_none' hT
    have nET : E ≠ T := fun e => by rw [← e, upd_same] at hT; cases hT
    refine kk _ T E (fun c u ec => ?_) (upd_none' hT2) hE upd_same (by rw [TurnsAt, upd_ne nET, upd_same])
    rw [upd_ne (ne_of_none ec (upd_none' hT2)), upd_ne (ne_of_none ec hE), upd_ne (ne_of_none ec hE)]; exact ec
theorem row0 {X : Cx} {k : Str} {pos pos' : Pos} {x1 j0 : Nat} {ps : Pos} :
    PE X (.Tuple [.Constant (.str k) j0 ps, .Dict [] [] pos] x1 pos') (tRow k []) := by
  refine pe_imp (pe_tup (pa_cons pe_str (pa_cons pe_dnewK pa_nil))) ?_
  rintro σ H Q ⟨ts, pr, nd, kk⟩
  cases pr
  refine fun E hE => ⟨by show 2 ≤ sizeLine; decide, fun T hT => ?_⟩
  have nET : E ≠ T := fun e => by rw [← e, upd_same] at hT; cases hT
  refine kk _ T E (fun c u ec => ?_) (upd_none' hT) hE upd_same (by rw [TurnsAt, upd_ne nET, upd_same]; rfl)
  rw [upd_ne (ne_of_none ec (upd_none' hT)), upd_ne (ne_of_none ec hE)]; exact ec
/-- a row that stands new -/
theorem RowAt.mk' {S : List Addr} {H H' : Hp} {T E : Addr} {k : Str} {ts : List (Str × Str)} (hS : ∀ b ∈ S, ∃ u, H b = some u) (nT : H T = none) (nE : H E = none) (h1 : H' T = some (.tup [.str k, .ref E])) (h2 : TurnsAt H' E ts) : RowAt (cut S H') (.ref T) k ts := by
  refine ⟨T, E, rfl, ?_, ?_⟩
  · rw [cut_out fun z => by obtain ⟨u, hu⟩ := hS T z; rw [hu] at nT; cases nT]; exact h1
  · rw [TurnsAt, cut_out fun z => by obtain ⟨u, hu⟩ := hS E z; rw [hu] at nE; cases nE]; exact h2
abbrev sShape : Stmt := top 49
def spShape : Sp := fun vs H Q _ => ∃ (p W : Addr) (ws : List Str) (t : Int), vs = [.ref p, .ref W] ∧ Purse H p t ∧ SL H W ws ∧ W ≠ p ∧ WsOk ws ∧ 4 ≤ ws.length ∧ t < 2 ^ 26 ∧
  ∀ (H' : Hp) (R : Addr) (bk : Bk) (st : Str) (t' : Int), But p H H' → H R = none → WorldAt (cut [p] H') R bk st → WF bk st ws → Purse H' p t' → t' ≤ t + 700 → Q (.ref R) H'
/-- the end of a display of a book -/
theorem book_end {p B R : Addr} {H3 : Hp} {kvs : List (Key × V)} {bk : Bk} {st : Str} (hp : p ≠ B) (hRw : Rows (cut [p, B] H3) kvs bk) (nd : (bk.map (·.1)).Nodup) (hR : (L2.upd H3 B (.dK (mergeK [] kvs))) R = none) (nRp : R ≠ p) :
    WorldAt (cut [p] (L2.upd (L2.upd H3 B (.dK (mergeK [] kvs))) R (.lst [.ref B, .str st]))) R bk st := by
  have nd2 : (kvs.map (·.1)).Nodup := by
    have z := inr_nd nd
    rw [List.map_map] at z
    rw [hRw.keys]; exact z
  have nBR : B ≠ R := fun e => by rw [← e, upd_same] at hR; cases hR
  refine ⟨B, by rw [cut_out (by simpa using nRp)]; exact upd_same, kvs, ?_, ?_⟩
  · rw [cut_out (by simpa using hp.symm), upd_ne nBR, upd_same, merge_id nd2]
  · refine hRw.same fun c u e => ?_
    obtain ⟨nc, e⟩ := cut_some e
    simp only [List.mem_cons, List.not_mem_nil, or_false, not_or] at nc
    have ncR : c ≠ R := fun z => by rw [z] at e nc; rw [upd_ne nc.2] at hR; rw [hR] at e; cases e
    rw [cut_out (by simpa using nc.1), upd_ne ncR, upd_ne nc.2]; exact e
theorem tok2 {a b c d : Str} {ss ws : List Str} (n : a ≠ b) (ha : a ∈ ws) (hb : b ∈ ws) (hc : c ∈ ss) (hd : d ∈ ss) : TOk [(a, c), (b, d)] ss ws :=
  ⟨by simpa using n, by simp [ha, hb], by simp [hc, hd]⟩
theorem tok1 {a c : Str} {ss ws : List Str} (ha : a ∈ ws) (hc : c ∈ ss) : TOk [(a, c)] ss ws := ⟨by simp, by simp [ha], by simp [hc]⟩
end D1
end L2
/-! shape, its body -/
namespace L2
namespace D1
open PySem PySem.Spec PyProof.Rows
section
variable {P : Program} {w : World} {K : PySem.W.Frag} {mg : Str → Option Value} {base : Heap}
theorem scSa : FnScope ["_law_purse_here", "_law_words_here", "_law_way", "_law_states", "_law_begin", "_law_second", "_law_third", "_law_last", "_law_go", "_law_out", "_law_on", "_law_end", "_law_row"] ["_law_purse_here", "_law_words_here"] (defScope sShape) := ⟨rfl, rfl, rfl, by decide +kernel, rfl, by decide +kernel, by decide +kernel⟩
theorem ok_shape {f : Addr} {fd : FuncData} (F : Fun K "_law_shape" "_law_shape" sShape f fd) (T : Free2 mg) (CD : CDraw P w K mg base) (CW : CWords P w K mg base) :
    FnOk P w K mg base CX0 5 f fd ["_law_purse_here", "_law_words_here"] spShape := by
  refine F.ok scSa (fun vs H Q E h => ?_) (fun cdv A outer s H vs Q E hr h => ?_)
  · obtain ⟨p, W, ws, t, rfl, _⟩ := h; rfl
  · obtain ⟨p, W, ws, t, rfl, hp, hW, nW, wok, l4, t1, k⟩ := h
    have hu := hu_of hr
    refine ⟨_, pss_cons (ps_par (i := 2) (j := 3) rfl scSa.nd rfl rfl (by decide) rfl rfl (pa_cons (pe_cal CD (hr.mono (by decide)) rfl (pa_cons (pv 0) (pa_cons pe_int pa_nil))) (pa_cons (pe_cal CW (hr.mono (by decide)) rfl (pa_cons (pv 0) (pa_cons pe_int pa_nil))) pa_nil)) (by rfl))
      (pss_cons (ps_asg (pv 3) (pg_lst rfl (pgs_cons (pg_name (i := 4) scSa.nd rfl (Or.inl rfl)) (pgs_cons (pg_name (i := 5) scSa.nd rfl (Or.inl rfl)) (pgs_cons (pg_name (i := 6) scSa.nd rfl (Or.inl rfl)) (pgs_cons (pg_name (i := 7) scSa.nd rfl (Or.inl rfl)) pgs_nil))))))
      (pss_cons (ps_asg (pe_slice sl_list (pv 1) po_none (po_some pe_int)) (pg_lst rfl (pgs_cons (pg_name (i := 8) scSa.nd rfl (Or.inl rfl)) (pgs_cons (pg_name (i := 9) scSa.nd rfl (Or.inl rfl)) (pgs_cons (pg_name (i := 10) scSa.nd rfl (Or.inl rfl)) (pgs_cons (pg_name (i := 11) scSa.nd rfl (Or.inl rfl)) pgs_nil))))))
      (pss_cons (ps_if (pt_cmpR op_eq (pv 2) pe_int (nomark _)) (pss_one (ps_ret (pe_lst (pa_cons (pe_disp (pps_cons (pv 4) (row2 (pv 8) (pv 4) (pv 9) (pv 5)) (pps_cons (pv 5) row0 pps_nil)) (by rfl) (by rfl) (fun z => by cases z) (by show 2 ≤ 15; decide)) (pa_cons (pv 4) pa_nil))))) pss_nil)
      (pss_cons (ps_if (pt_cmpR op_eq (pv 2) pe_int (nomark _)) (pss_one (ps_ret (pe_lst (pa_cons (pe_disp (pps_cons (pv 4) (row2 (pv 8) (pv 5) (pv 9) (pv 6)) (pps_cons (pv 5) (row2 (pv 10) (pv 4) (pv 11) (pv 6)) (pps_cons (pv 6) row0 pps_nil))) (by rfl) (by rfl) (fun z => by cases z) (by show 3 ≤ 15; decide)) (pa_cons (pv 4) pa_nil))))) pss_nil)
      (pss_cons (ps_set (i := 12) scSa.nd rfl (Or.inl rfl) (pe_disp (pps_cons (pv 4) (row2 (pv 8) (pv 5) (pv 9) (pv 6)) (pps_cons (pv 5) (row2 (pv 10) (pv 4) (pv 11) (pv 7)) (pps_cons (pv 7) row0 pps_nil))) (by rfl) (by rfl) (fun z => by cases z) (by show 3 ≤ 15; decide)))
      (pss_cons (ps_dput hu (pv 12) (pv 6) (pe_ifExp (pt_cmpR op_eq (pv 2) pe_int (nomark _)) (row2 (pv 10) (pv 4) (pv 11) (pv 7)) (row1 (pv 10) (pv 6))) rfl)
      (pss_one (ps_ret (pe_lst (pa_cons (pv 12) (pa_cons (pv 4) pa_nil))))))))))), ?_⟩
    refine ⟨_, rfl, p, 4, t, rfl, hp, by decide, by decide, by omega, fun way t2 o r0 r1 tt2 hp2 => ?_⟩
    have b2 := But.upd p H o
    have hW2 : SL (L2.upd H p o) W ws := by rw [SL, upd_ne nW]; exact hW
    generalize L2.upd H p o = H2 at b2 hW2 hp2
    refine ⟨_, rfl, p, 4, t2, rfl, hp2, by decide, by decide, by omega, fun H3 S ss t3 b3 hS hSS ls nd aw hp3 tt3 => ⟨_, _, rfl, ?_⟩⟩
    have b03 := b2.trans b3
    have hW3 : SL H3 W ws := b3 _ _ nW hW2
    have ls4 : ss.length = 4 := ls
    obtain ⟨b', s', d', l', rfl⟩ : ∃ a b c d, ss = [a, b, c, d] := by
      match ss, ls4 with
      | [a, b, c, d], _ => exact ⟨a, b, c, d, rfl⟩
    refine ⟨_, rfl, S, _, rfl, hSS.sq, rfl, _, _, rfl, _, _, rfl, _, _, rfl, _, _, rfl, rfl, ?_⟩
    refine ⟨_, rfl, _, rfl, W, _, rfl, hW3.sq, fun q hq => ?_⟩
    rw [cutV_map, cutL_to _ (by decide)]
    obtain ⟨g', o', n', e', ew⟩ : ∃ a b c d, ws.take (4 : Int).toNat = [a, b, c, d] := by
      match ws, l4 with
      | a :: b :: c :: d :: r, _ => exact ⟨a, b, c, d, rfl⟩
    rw [ew]
    have wnd : ([g', o', n', e'] : List Str).Nodup := ew ▸ List.Nodup.sublist (List.take_sublist _ _) wok.nd
    have wm : ∀ x ∈ ([g', o', n', e'] : List Str), x ∈ ws := fun x hx => List.mem_of_mem_take (by rw [ew]; exact hx)
    refine ⟨q, _, rfl, SqL.of upd_same, rfl, _, _, rfl, _, _, rfl, _, _, rfl, _, _, rfl, rfl, ?_⟩
    have hp4 : Purse (L2.upd H3 q (.lst ([g', o', n', e'].map V.str))) p t3 := hp3.new hq
    have b04 : But p H (L2.upd H3 q (.lst ([g', o', n', e'].map V.str))) := b03.newt hq
    generalize L2.upd H3 q (.lst ([g', o', n', e'].map V.str)) = H4 at hp4 b04
    simp only [List.nodup_cons, List.mem_cons, List.not_mem_nil, or_false, not_or, not_false_eq_true, List.nodup_nil, and_true] at nd wnd
    obtain ⟨⟨nbs, nbd, nbl⟩, ⟨nsd, nsl⟩, ndl⟩ := nd
    obtain ⟨⟨ngo, ngn, nge⟩, ⟨non, noe⟩, nne⟩ := wnd
    have nld : ¬ l' = d' := fun e => ndl e.symm
    have gm := wm g' (by simp)
    have om := wm o' (by simp)
    have nm := wm n' (by simp)
    have em := wm e' (by simp)
    have wb := aw b' (by simp)
    have wsc := aw s' (by simp)
    have wd' := aw d' (by simp)
    have wl := aw l' (by simp)
    change Ends.nx _ [some (.ref p), some (.ref W), some (.int way), some (.ref S), some (.str b'), some (.str s'), some (.str d'), some (.str l'), some (.str g'), some (.str o'), some (.str n'), some (.str e'), none] _
    clear wm aw ls ls4 hSS hW3 hp3 hq b03 b3 hp2 b2 hW2
    refine ⟨_, rfl, rfl, _, rfl, ?_⟩
    refine ite2 (fun _ => ?_) (fun _ => ?_)
    · skip
      refine fun B hB => ?_
      have nBp := hp4.ne hB
      have hB0 : H B = none := b04.fr hB nBp
      have k0 : ∀ c ∈ [p, B], ∃ u, (L2.upd H4 B (.dK [])) c = some u := fun c hc => by
        rcases List.mem_cons.mp hc with rfl | hc
        · exact (hp4.new hB).some
        · obtain rfl := List.mem_singleton.mp hc; exact ⟨_, upd_same⟩
      have s0 : Same (L2.upd H4 B (.dK [])) (L2.upd H4 B (.dK [])) := Same.refl _
      refine ⟨_, rfl, [(g', b'), (o', s')], (.cons ⟨rfl, rfl⟩ (.cons ⟨rfl, rfl⟩ .nil)), by simpa using ngo, fun G1 T1 E1 s1 nT1 nE1 h1 e1 => ?_⟩
      have R1 := RowAt.mk' k0 nT1 nE1 h1 e1
      have k1 : ∀ c ∈ [p, B], ∃ u, G1 c = some u := fun c hc => by obtain ⟨u, hu⟩ := k0 c hc; exact ⟨u, s1 _ _ hu⟩
      refine ⟨_, rfl, [], .nil, by simp, fun G2 T2 E2 s2 nT2 nE2 h2 e2 => ?_⟩
      have R2 := RowAt.mk' k1 nT2 nE2 h2 e2
      have k2 : ∀ c ∈ [p, B], ∃ u, G2 c = some u := fun c hc => by obtain ⟨u, hu⟩ := k1 c hc; exact ⟨u, s2 _ _ hu⟩
      have hRw : Rows (cut [p, B] G2) [(.inr b', .ref T1), (.inr s', .ref T2)] [(b', "says", [(g', b'), (o', s')]), (s', "done", [])] := (.cons ⟨rfl, (R1).same (cut_same s2)⟩ (.cons ⟨rfl, R2⟩ .nil))
      have sT : Same (L2.upd H4 B (.dK [])) G2 := (Same.trans s1 s2)
      have hG := (hp4.new (o := .dK []) hB).same sT
      have bG : But p H G2 := (b04.newt hB).trans (But.of sT)
      refine ⟨sT _ _ upd_same, [(.inr b', .ref T1), (.inr s', .ref T2)], rfl, by show 2 ≤ 15; decide, ?_⟩
      refine ⟨_, rfl, by show 2 ≤ sizeLine; decide, fun R hR => ?_⟩
      have hG2 : Purse (L2.upd G2 B (.dK (mergeK [] [(.inr b', .ref T1), (.inr s', .ref T2)]))) p t3 := hG.upd nBp.symm
      have bG2 : But p H (L2.upd G2 B (.dK (mergeK [] [(.inr b', .ref T1), (.inr s', .ref T2)]))) := But.ofL hB0 bG
      refine k _ R [(b', "says", [(g', b'), (o', s')]), (s', "done", [])] b' t3 (bG2.newt hR) (bG2.fr hR (hG2.ne hR)) (book_end nBp.symm hRw (by simp [nbs, nbd, nbl, nsd, nsl, ndl, nld]) hR (hG2.ne hR)) ?_ (hG2.new hR) (by omega)
      refine ⟨by simp [nbs, nbd, nbl, nsd, nsl, ndl, nld], fun r hr => ?_, by simp, by simp⟩
      simp only [List.mem_cons, List.not_mem_nil, or_false] at hr
      rcases hr with rfl | rfl
      · exact ⟨wb, .inr ⟨.inl rfl, by simp, tok2 ngo gm om (by simp) (by simp)⟩⟩
      · exact ⟨wsc, .inl ⟨rfl, rfl⟩⟩
    · refine ⟨_, rfl, rfl, _, rfl, ?_⟩
      refine ite2 (fun _ => ?_) (fun _ => ?_)
      · skip
        refine fun B hB => ?_
        have nBp := hp4.ne hB
        have hB0 : H B = none := b04.fr hB nBp
        have k0 : ∀ c ∈ [p, B], ∃ u, (L2.upd H4 B (.dK [])) c = some u := fun c hc => by
          rcases List.mem_cons.mp hc with rfl | hc
          · exact (hp4.new hB).some
          · obtain rfl := List.mem_singleton.mp hc; exact ⟨_, upd_same⟩
        have s0 : Same (L2.upd H4 B (.dK [])) (L2.upd H4 B (.dK [])) := Same.refl _
        refine ⟨_, rfl, [(g', s'), (o', d')], (.cons ⟨rfl, rfl⟩ (.cons ⟨rfl, rfl⟩ .nil)), by simpa using ngo, fun G1 T1 E1 s1 nT1 nE1 h1 e1 => ?_⟩
        have R1 := RowAt.mk' k0 nT1 nE1 h1 e1
        have k1 : ∀ c ∈ [p, B], ∃ u, G1 c = some u := fun c hc => by obtain ⟨u, hu⟩ := k0 c hc; exact ⟨u, s1 _ _ hu⟩
        refine ⟨_, rfl, [(n', b'), (e', d')], (.cons ⟨rfl, rfl⟩ (.cons ⟨rfl, rfl⟩ .nil)), by simpa using nne, fun G2 T2 E2 s2 nT2 nE2 h2 e2 => ?_⟩
        have R2 := RowAt.mk' k1 nT2 nE2 h2 e2
        have k2 : ∀ c ∈ [p, B], ∃ u, G2 c = some u := fun c hc => by obtain ⟨u, hu⟩ := k1 c hc; exact ⟨u, s2 _ _ hu⟩
        refine ⟨_, rfl, [], .nil, by simp, fun G3 T3 E3 s3 nT3 nE3 h3 e3 => ?_⟩
        have R3 := RowAt.mk' k2 nT3 nE3 h3 e3
        have k3 : ∀ c ∈ [p, B], ∃ u, G3 c = some u := fun c hc => by obtain ⟨u, hu⟩ := k2 c hc; exact ⟨u, s3 _ _ hu⟩
        have hRw : Rows (cut [p, B] G3) [(.inr b', .ref T1), (.inr s', .ref T2), (.inr d', .ref T3)] [(b', "says", [(g', s'), (o', d')]), (s', "says", [(n', b'), (e', d')]), (d', "done", [])] := (.cons ⟨rfl, ((R1).same (cut_same s2)).same (cut_same s3)⟩ (.cons ⟨rfl, (R2).same (cut_same s3)⟩ (.cons ⟨rfl, R3⟩ .nil)))
        have sT : Same (L2.upd H4 B (.dK [])) G3 := (Same.trans (Same.trans s1 s2) s3)
        have hG := (hp4.new (o := .dK []) hB).same sT
        have bG : But p H G3 := (b04.newt hB).trans (But.of sT)
        refine ⟨sT _ _ upd_same, [(.inr b', .ref T1), (.inr s', .ref T2), (.inr d', .ref T3)], rfl, by show 3 ≤ 15; decide, ?_⟩
        refine ⟨_, rfl, by show 2 ≤ sizeLine; decide, fun R hR => ?_⟩
        have hG2 : Purse (L2.upd G3 B (.dK (mergeK [] [(.inr b', .ref T1), (.inr s', .ref T2), (.inr d', .ref T3)]))) p t3 := hG.upd nBp.symm
        have bG2 : But p H (L2.upd G3 B (.dK (mergeK [] [(.inr b', .ref T1), (.inr s', .ref T2), (.inr d', .ref T3)]))) := But.ofL hB0 bG
        refine k _ R [(b', "says", [(g', s'), (o', d')]), (s', "says", [(n', b'), (e', d')]), (d', "done", [])] b' t3 (bG2.newt hR) (bG2.fr hR (hG2.ne hR)) (book_end nBp.symm hRw (by simp [nbs, nbd, nbl, nsd, nsl, ndl, nld]) hR (hG2.ne hR)) ?_ (hG2.new hR) (by omega)
        refine ⟨by simp [nbs, nbd, nbl, nsd, nsl, ndl, nld], fun r hr => ?_, by simp, by simp⟩
        simp only [List.mem_cons, List.not_mem_nil, or_false] at hr
        rcases hr with rfl | rfl | rfl
        · exact ⟨wb, .inr ⟨.inl rfl, by simp, tok2 ngo gm om (by simp) (by simp)⟩⟩
        · exact ⟨wsc, .inr ⟨.inl rfl, by simp, tok2 nne nm em (by simp) (by simp)⟩⟩
        · exact ⟨wd', .inl ⟨rfl, rfl⟩⟩
      · skip
        refine fun B hB => ?_
        have nBp := hp4.ne hB
        have hB0 : H B = none := b04.fr hB nBp
        have k0 : ∀ c ∈ [p, B], ∃ u, (L2.upd H4 B (.dK [])) c = some u := fun c hc => by
          rcases List.mem_cons.mp hc with rfl | hc
          · exact (hp4.new hB).some
          · obtain rfl := List.mem_singleton.mp hc; exact ⟨_, upd_same⟩
        have s0 : Same (L2.upd H4 B (.dK [])) (L2.upd H4 B (.dK [])) := Same.refl _
        refine ⟨_, rfl, [(g', s'), (o', d')], (.cons ⟨rfl, rfl⟩ (.cons ⟨rfl, rfl⟩ .nil)), by simpa using ngo, fun G1 T1 E1 s1 nT1 nE1 h1 e1 => ?_⟩
        have R1 := RowAt.mk' k0 nT1 nE1 h1 e1
        have k1 : ∀ c ∈ [p, B], ∃ u, G1 c = some u := fun c hc => by obtain ⟨u, hu⟩ := k0 c hc; exact ⟨u, s1 _ _ hu⟩
        refine ⟨_, rfl, [(n', b'), (e', l')], (.cons ⟨rfl, rfl⟩ (.cons ⟨rfl, rfl⟩ .nil)), by simpa using nne, fun G2 T2 E2 s2 nT2 nE2 h2 e2 => ?_⟩
        have R2 := RowAt.mk' k1 nT2 nE2 h2 e2
        have k2 : ∀ c ∈ [p, B], ∃ u, G2 c = some u := fun c hc => by obtain ⟨u, hu⟩ := k1 c hc; exact ⟨u, s2 _ _ hu⟩
        refine ⟨_, rfl, [], .nil, by simp, fun G3 T3 E3 s3 nT3 nE3 h3 e3 => ?_⟩
        have R3 := RowAt.mk' k2 nT3 nE3 h3 e3
        have k3 : ∀ c ∈ [p, B], ∃ u, G3 c = some u := fun c hc => by obtain ⟨u, hu⟩ := k2 c hc; exact ⟨u, s3 _ _ hu⟩
        have hRw : Rows (cut [p, B] G3) [(.inr b', .ref T1), (.inr s', .ref T2), (.inr l', .ref T3)] [(b', "hears", [(g', s'), (o', d')]), (s', "says", [(n', b'), (e', l')]), (l', "done", [])] := (.cons ⟨rfl, ((R1).same (cut_same s2)).same (cut_same s3)⟩ (.cons ⟨rfl, (R2).same (cut_same s3)⟩ (.cons ⟨rfl, R3⟩ .nil)))
        have sT : Same (L2.upd H4 B (.dK [])) G3 := (Same.trans (Same.trans s1 s2) s3)
        have hG := (hp4.new (o := .dK []) hB).same sT
        have bG : But p H G3 := (b04.newt hB).trans (But.of sT)
        refine ⟨sT _ _ upd_same, [(.inr b', .ref T1), (.inr s', .ref T2), (.inr l', .ref T3)], rfl, by show 3 ≤ 15; decide, ?_⟩
        have mid : mergeK [] [(.inr b', .ref T1), (.inr s', .ref T2), (.inr l', .ref T3)] = [(.inr b', .ref T1), (.inr s', .ref T2), (.inr l', .ref T3)] := merge_id (inr_nd (l := [b', s', l']) (by simp [nbs, nbl, nsl]))
        have hG2 : Purse (L2.upd G3 B (.dK (mergeK [] [(.inr b', .ref T1), (.inr s', .ref T2), (.inr l', .ref T3)]))) p t3 := hG.upd nBp.symm
        have bG2 : But p H (L2.upd G3 B (.dK (mergeK [] [(.inr b', .ref T1), (.inr s', .ref T2), (.inr l', .ref T3)]))) := But.ofL hB0 bG
        have hRw5 : Rows (cut [p, B] (L2.upd G3 B (.dK (mergeK [] [(.inr b', .ref T1), (.inr s', .ref T2), (.inr l', .ref T3)])))) [(.inr b', .ref T1), (.inr s', .ref T2), (.inr l', .ref T3)] [(b', "hears", [(g', s'), (o', d')]), (s', "says", [(n', b'), (e', l')]), (l', "done", [])] := by rw [cut_upd (by simp)]; exact hRw
        have k4 : ∀ c ∈ [p, B], ∃ u, (L2.upd G3 B (.dK (mergeK [] [(.inr b', .ref T1), (.inr s', .ref T2), (.inr l', .ref T3)]))) c = some u := fun c hc => by
          rcases List.mem_cons.mp hc with rfl | hc
          · exact hG2.some
          · obtain rfl := List.mem_singleton.mp hc; exact ⟨_, upd_same⟩
        refine ⟨_, rfl, rfl, _, rfl, ?_⟩
        refine ite2 (fun _ => ?_) (fun _ => ?_)
        ·   refine ⟨[(n', b'), (e', l')], (.cons ⟨rfl, rfl⟩ (.cons ⟨rfl, rfl⟩ .nil)), by simpa using nne, fun G4 T4 E4 s4 nT4 nE4 h4 e4 => ?_⟩
            have R4 := RowAt.mk' k4 nT4 nE4 h4 e4
            have hB4 : G4 B = some (.dK [(.inr b', .ref T1), (.inr s', .ref T2), (.inr l', .ref T3)]) := s4 _ _ (by rw [upd_same, mid])
            have hRw4 : Rows (cut [p, B] G4) [(.inr b', .ref T1), (.inr s', .ref T2), (.inr l', .ref T3)] [(b', "hears", [(g', s'), (o', d')]), (s', "says", [(n', b'), (e', l')]), (l', "done", [])] := (hRw5.same (cut_same s4))
            refine ⟨_, rfl, _, rfl, B, _, rfl, DPut.k (k := Sum.inr d') hB4 (by rw [sizeLine_eq]; show 3 < _; decide), ?_⟩
            have hRw6 := hRw4.app (s := d') R4
            have ep : putK ([(.inr b', .ref T1), (.inr s', .ref T2), (.inr l', .ref T3)] : List (Key × V)) (.inr d') (.ref T4) = ([(.inr b', .ref T1), (.inr s', .ref T2), (.inr l', .ref T3)] : List (Key × V)) ++ ([(.inr d', .ref T4)] : List (Key × V)) := putK_new (hRw4.fresh (by simp [Ne.symm nbd, Ne.symm nsd, ndl]))
            rw [ep]
            have hG4 := hG2.same s4
            have bG4 := bG2.trans (But.of s4)
            refine ⟨_, rfl, _, rfl, by show 2 ≤ sizeLine; decide, fun R hR => ?_⟩
            have hG5 : Purse (L2.upd G4 B (.dK (([(.inr b', .ref T1), (.inr s', .ref T2), (.inr l', .ref T3)] : List (Key × V)) ++ ([(.inr d', .ref T4)] : List (Key × V))))) p t3 := hG4.upd nBp.symm
            have bG5 : But p H (L2.upd G4 B (.dK (([(.inr b', .ref T1), (.inr s', .ref T2), (.inr l', .ref T3)] : List (Key × V)) ++ ([(.inr d', .ref T4)] : List (Key × V))))) := But.ofL hB0 bG4
            have nRp := hG5.ne hR
            have nBR : B ≠ R := fun e => by rw [← e, upd_same] at hR; cases hR
            refine k _ R [(b', "hears", [(g', s'), (o', d')]), (s', "says", [(n', b'), (e', l')]), (l', "done", []), (d', "says", [(n', b'), (e', l')])] b' t3 (bG5.newt hR) (bG5.fr hR nRp) ⟨B, by rw [cut_out (by simpa using nRp)]; exact upd_same, _, by rw [cut_out (by simpa using nBp), upd_ne nBR, upd_same], hRw6.same fun c u e => ?_⟩ ?_ (hG5.new hR) (by omega)
            · obtain ⟨nc, e⟩ := cut_some e
              simp only [List.mem_cons, List.not_mem_nil, or_false, not_or] at nc
              have ncR : c ≠ R := fun z => by rw [z] at e nc; rw [upd_ne nc.2] at hR; rw [hR] at e; cases e
              rw [cut_out (by simpa using nc.1), upd_ne ncR, upd_ne nc.2]; exact e
            · refine ⟨by simp [nbs, nbd, nbl, nsd, nsl, ndl, nld], fun r hr => ?_, by simp, by simp⟩
              simp only [List.mem_cons, List.not_mem_nil, or_false] at hr
              rcases hr with rfl | rfl | rfl | rfl
              · exact ⟨wb, .inr ⟨.inr rfl, by simp, tok2 ngo gm om (by simp) (by simp)⟩⟩
              · exact ⟨wsc, .inr ⟨.inl rfl, by simp, tok2 nne nm em (by simp) (by simp)⟩⟩
              · exact ⟨wl, .inl ⟨rfl, rfl⟩⟩
              · exact ⟨wd', .inr ⟨.inl rfl, by simp, tok2 nne nm em (by simp) (by simp)⟩⟩
        ·   refine ⟨[(n', d')], (.cons ⟨rfl, rfl⟩ .nil), by simp, fun G4 T4 E4 s4 nT4 nE4 h4 e4 => ?_⟩
            have R4 := RowAt.mk' k4 nT4 nE4 h4 e4
            have hB4 : G4 B = some (.dK [(.inr b', .ref T1), (.inr s', .ref T2), (.inr l', .ref T3)]) := s4 _ _ (by rw [upd_same, mid])
            have hRw4 : Rows (cut [p, B] G4) [(.inr b', .ref T1), (.inr s', .ref T2), (.inr l', .ref T3)] [(b', "hears", [(g', s'), (o', d')]), (s', "says", [(n', b'), (e', l')]), (l', "done", [])] := (hRw5.same (cut_same s4))
            refine ⟨_, rfl, _, rfl, B, _, rfl, DPut.k (k := Sum.inr d') hB4 (by rw [sizeLine_eq]; show 3 < _; decide), ?_⟩
            have hRw6 := hRw4.app (s := d') R4
            have ep : putK ([(.inr b', .ref T1), (.inr s', .ref T2), (.inr l', .ref T3)] : List (Key × V)) (.inr d') (.ref T4) = ([(.inr b', .ref T1), (.inr s', .ref T2), (.inr l', .ref T3)] : List (Key × V)) ++ ([(.inr d', .ref T4)] : List (Key × V)) := putK_new (hRw4.fresh (by simp [Ne.symm nbd, Ne.symm nsd, ndl]))
            rw [ep]
            have hG4 := hG2.same s4
            have bG4 := bG2.trans (But.of s4)
            refine ⟨_, rfl, _, rfl, by show 2 ≤ sizeLine; decide, fun R hR => ?_⟩
            have hG5 : Purse (L2.upd G4 B (.dK (([(.inr b', .ref T1), (.inr s', .ref T2), (.inr l', .ref T3)] : List (Key × V)) ++ ([(.inr d', .ref T4)] : List (Key × V))))) p t3 := hG4.upd nBp.symm
            have bG5 : But p H (L2.upd G4 B (.dK (([(.inr b', .ref T1), (.inr s', .ref T2), (.inr l', .ref T3)] : List (Key × V)) ++ ([(.inr d', .ref T4)] : List (Key × V))))) := But.ofL hB0 bG4
            have nRp := hG5.ne hR
            have nBR : B ≠ R := fun e => by rw [← e, upd_same] at hR; cases hR
            refine k _ R [(b', "hears", [(g', s'), (o', d')]), (s', "says", [(n', b'), (e', l')]), (l', "done", []), (d', "says", [(n', d')])] b' t3 (bG5.newt hR) (bG5.fr hR nRp) ⟨B, by rw [cut_out (by simpa using nRp)]; exact upd_same, _, by rw [cut_out (by simpa using nBp), upd_ne nBR, upd_same], hRw6.same fun c u e => ?_⟩ ?_ (hG5.new hR) (by omega)
            · obtain ⟨nc, e⟩ := cut_some e
              simp only [List.mem_cons, List.not_mem_nil, or_false, not_or] at nc
              have ncR : c ≠ R := fun z => by rw [z] at e nc; rw [upd_ne nc.2] at hR; rw [hR] at e; cases e
              rw [cut_out (by simpa using nc.1), upd_ne ncR, upd_ne nc.2]; exact e
            · refine ⟨by simp [nbs, nbd, nbl, nsd, nsl, ndl, nld], fun r hr => ?_, by simp, by simp⟩
              simp only [List.mem_cons, List.not_mem_nil, or_false] at hr
              rcases hr with rfl | rfl | rfl | rfl
              · exact ⟨wb, .inr ⟨.inr rfl, by simp, tok2 ngo gm om (by simp) (by simp)⟩⟩
              · exact ⟨wsc, .inr ⟨.inl rfl, by simp, tok2 nne nm em (by simp) (by simp)⟩⟩
              · exact ⟨wl, .inl ⟨rfl, rfl⟩⟩
              · exact ⟨wd', .inr ⟨.inl rfl, by simp, tok1 nm (by simp)⟩⟩
end
end D1
end L2
/-! long -/
namespace L2
namespace D1
open PySem PySem.Spec PyProof.Rows
def spLong : Sp := fun vs H Q _ => ∃ (p W : Addr) (ws : List Str) (most t : Int), vs = [.ref p, .ref W, .int most] ∧ Purse H p t ∧ SL H W ws ∧ W ≠ p ∧ WsOk ws ∧ 3 ≤ most ∧ most ≤ 6 ∧ t < 2 ^ 26 ∧
  ∀ (H' : Hp) (R : Addr) (bk : Bk) (st : Str) (t' : Int), But p H H' → H R = none → WorldAt (cut [p] H') R bk st → WF bk st ws → Purse H' p t' → t' ≤ t + 700 → Q (.ref R) H'
theorem atI_last {xs : List V} {v : V} (h : xs[xs.length - 1]? = some v) : atI xs (-1) = some v := by
  have hl : 0 < xs.length := by
    rcases Nat.eq_zero_or_pos xs.length with e | e
    · rw [List.length_eq_zero_iff.mp e] at h; cases h
    · exact e
  unfold atI ixN
  rw [if_neg (by decide), if_pos (by omega)]
  show xs[(-1 + (xs.length : Int)).toNat]? = _
  rw [show (-1 + (xs.length : Int)).toNat = xs.length - 1 by omega]
  exact h
theorem updd {H : Hp} {a : Addr} {o o' : HO} : L2.upd (L2.upd H a o) a o' = L2.upd H a o' := by
  funext b
  by_cases h : b = a
  · rw [h, upd_same, upd_same]
  · rw [upd_ne h, upd_ne h, upd_ne h]
section
variable {P : Program} {w : World} {K : PySem.W.Frag} {mg : Str → Option Value} {base : Heap}
end
end D1
end L2
/-! row_of, rich -/
namespace L2
namespace D1
open PySem PySem.Spec PyProof.Rows
abbrev sRowOf : Stmt := top 60
/-- a list of a world and its words -/
def RichAt (H : Hp) (R : Addr) (bk : Bk) (st : Str) (ws : List Str) : Prop := ∃ W L, H R = some (.lst [.ref W, .ref L]) ∧ WorldAt H W bk st ∧ SL H L ws
theorem RichAt.same {H H' : Hp} {R : Addr} {bk : Bk} {st : Str} {ws : List Str} (h : RichAt H R bk st ws) (s : Same H H') : RichAt H' R bk st ws := by
  obtain ⟨W, L, h1, h2, h3⟩ := h; exact ⟨W, L, s _ _ h1, h2.same s, h3.same s⟩
def spRow (c d : Int) : Sp := fun vs H Q _ => ∃ (p : Addr) (top' t : Int), vs = [.ref p, .int top'] ∧ Purse H p t ∧ 3 ≤ top' ∧ top' ≤ 6 ∧ t < c ∧
  ∀ (H' : Hp) (R : Addr) (bk : Bk) (st : Str) (ws : List Str) (t' : Int), But p H H' → RichAt (cut [p] H') R bk st ws → WF bk st ws → WsOk ws → Purse H' p t' → t' ≤ t + d → Q (.ref R) H'
theorem rich_new {p R W L : Addr} {H : Hp} {bk : Bk} {st : Str} {ws : List Str} (hR : H R = none) (nR : R ≠ p) (hW : WorldAt (cut [p] H) W bk st) (hL : SL H L ws) (nL : L ≠ p) : RichAt (cut [p] (L2.upd H R (.lst [.ref W, .ref L]))) R bk st ws :=
  ⟨W, L, by rw [cut_out (by simpa using nR)]; exact upd_same, hW.same (cut_new hR), by rw [SL, cut_out (by simpa using nL)]; exact hL.new hR⟩
theorem ws_take {ws : List Str} (l : ws.length = 6) (nd : ws.Nodup) (aw : ∀ x ∈ ws, Wd x) {k : Nat} (h : 1 ≤ k) : WsOk (ws.take k) :=
  ⟨by rw [List.length_take]; omega, by rw [List.length_take]; omega, List.Nodup.sublist (List.take_sublist _ _) nd, fun x hx => aw x (List.mem_of_mem_take hx)⟩
section
variable {P : Program} {w : World} {K : PySem.W.Frag} {mg : Str → Option Value} {base : Heap}
abbrev CPool (P : Program) (w : World) (K : PySem.W.Frag) (mg : Str → Option Value) (base : Heap) := Cal P w K mg base "_law_pool" 5 ["_law_purse_here"] spPool
abbrev CWorld (P : Program) (w : World) (K : PySem.W.Frag) (mg : Str → Option Value) (base : Heap) := Cal P w K mg base "_law_world" 5 ["_law_purse_here", "_law_many", "_law_words_here", "_law_top"] spWorld
abbrev CShape (P : Program) (w : World) (K : PySem.W.Frag) (mg : Str → Option Value) (base : Heap) := Cal P w K mg base "_law_shape" 5 ["_law_purse_here", "_law_words_here"] spShape
abbrev CLong (P : Program) (w : World) (K : PySem.W.Frag) (mg : Str → Option Value) (base : Heap) := Cal P w K mg base "_law_long" 5 ["_law_purse_here", "_law_words_here", "_law_most"] spLong
abbrev CRow (P : Program) (w : World) (K : PySem.W.Frag) (mg : Str → Option Value) (base : Heap) := Cal P w K mg base "_law_row_of" 6 ["_law_purse_here", "_law_top"] (spRow (2 ^ 25) 1800)
theorem scRo : FnScope ["_law_purse_here", "_law_top", "_law_pool_here", "_law_words_here"] ["_law_purse_here", "_law_top"] (defScope sRowOf) := ⟨rfl, rfl, rfl, by decide +kernel, rfl, by decide +kernel, by decide +kernel⟩
theorem ok_row {f : Addr} {fd : FuncData} (F : Fun K "_law_row_of" "_law_row_of" sRowOf f fd) (T : Free2 mg) (CD : CDraw P w K mg base) (CP : CPool P w K mg base) (CW : CWorld P w K mg base) (CS : CShape P w K mg base) :
    FnOk P w K mg base CX0 6 f fd ["_law_purse_here", "_law_top"] (spRow (2 ^ 25) 1800) := by
  refine F.ok scRo (fun vs H Q E h => ?_) (fun cdv A outer s H vs Q E hr h => ?_)
  · obtain ⟨p, m, t, rfl, _⟩ := h; rfl
  · obtain ⟨p, top', t, rfl, hp, m3, m6, t1, k⟩ := h
    refine ⟨_, pss_cons (ps_set (i := 2) scRo.nd rfl (Or.inl rfl) (pe_cal CP (hr.mono (by decide)) rfl (pa_cons (pv 0) pa_nil)))
      (pss_cons (ps_if (pt_cmpR op_eq (pe_cal CD (hr.mono (by decide)) rfl (pa_cons (pv 0) (pa_cons pe_int pa_nil))) pe_int (nomark _))
        (pss_one (ps_ret (pe_lst (pa_cons (pe_cal CW (hr.mono (by decide)) rfl (pa_cons (pv 0) (pa_cons (pe_op op_add pe_int (pe_cal CD (hr.mono (by decide)) rfl (pa_cons (pv 0) (pa_cons (pv 1) pa_nil)))) (pa_cons (pe_slice sl_list (pv 2) po_none (po_some pe_int)) (pa_cons pe_int pa_nil))))) (pa_cons (pe_slice sl_list (pv 2) po_none (po_some pe_int)) pa_nil))))) pss_nil)
      (pss_cons (ps_set (i := 3) scRo.nd rfl (Or.inl rfl) (pe_slice sl_list (pv 2) po_none (po_some (pe_op op_add pe_int (pe_cal CD (hr.mono (by decide)) rfl (pa_cons (pv 0) (pa_cons (pe_callB (call_min2 rfl) (by rfl) T.min (by decide +kernel) (pa_cons pe_int (pa_cons (pe_callB call_len_seq (by rfl) T.len PySem.boot_len (pa_cons (pv 2) pa_nil)) pa_nil))) pa_nil)))))))
      (pss_cons (ps_if (PW.pt (pw_and (pt_cmpR op_gt (pe_callB call_len_seq (by rfl) T.len PySem.boot_len (pa_cons (pv 3) pa_nil)) pe_int (nomark _)) (pw_and1 (pt_cmpR op_eq (pe_cal CD (hr.mono (by decide)) rfl (pa_cons (pv 0) (pa_cons pe_int pa_nil))) pe_int (nomark _)))))
        (pss_one (ps_ret (pe_lst (pa_cons (pe_cal CS (hr.mono (by decide)) rfl (pa_cons (pv 0) (pa_cons (pv 3) pa_nil))) (pa_cons (pv 3) pa_nil))))) pss_nil)
      (pss_one (ps_ret (pe_lst (pa_cons (pe_cal CW (hr.mono (by decide)) rfl (pa_cons (pv 0) (pa_cons (pe_op op_add pe_int (pe_cal CD (hr.mono (by decide)) rfl (pa_cons (pv 0) (pa_cons (pv 1) pa_nil)))) (pa_cons (pv 3) (pa_cons pe_int pa_nil))))) (pa_cons (pv 3) pa_nil)))))))), ?_⟩
    refine ⟨_, rfl, p, t, rfl, hp, by omega, fun H1 L ps t1 b1 hL hLL lp nd aw hp1 tt1 => ?_⟩
    have nL := hp.ne hL
    refine ⟨_, rfl, p, 8, t1, rfl, hp1, by decide, by decide, by omega, fun r t2 o r0 r1 tt2 hp2 => ?_⟩
    have b2 := b1.trans (But.upd p H1 o)
    have hL2 : SL (L2.upd H1 p o) L ps := by rw [SL, upd_ne nL]; exact hLL
    generalize L2.upd H1 p o = H2 at b2 hL2 hp2
    refine ⟨rfl, _, rfl, ?_⟩
    refine ite2 (fun _ => ?_) (fun _ => ?_)
    · refine ⟨_, rfl, _, rfl, _, rfl, p, top', t2, rfl, hp2, by omega, by omega, by omega, fun r3 t3 o3 r30 r31 tt3 hp3 => ?_⟩
      have b3 := b2.trans (But.upd p H2 o3)
      have hL3 : SL (L2.upd H2 p o3) L ps := by rw [SL, upd_ne nL]; exact hL2
      generalize L2.upd H2 p o3 = H3 at b3 hL3 hp3
      refine ⟨_, _, rfl, rfl, _, rfl, _, rfl, L, _, rfl, hL3.sq, fun q hq => ?_⟩
      rw [cutV_map, cutL_to _ (by decide)]
      have wok := ws_take lp nd aw (k := (6 : Int).toNat) (by decide)
      refine ⟨p, q, ps.take (6 : Int).toNat, 1 + r3, 6, t3, rfl, hp3.new hq, upd_same, hp3.ne hq, wok, by omega, by omega, by decide, by decide, by omega, fun H4 W bk st t4 b4 hW0 hW wf hp4 tt4 => ?_⟩
      have hL4 : SL H4 L ps := b4 _ _ nL (hL3.new hq)
      have b04 := (b3.newt hq).trans b4
      refine ⟨_, rfl, _, rfl, L, _, rfl, hL4.sq, fun q2 hq2 => ?_⟩
      rw [cutV_map, cutL_to _ (by decide)]
      refine ⟨by show 2 ≤ sizeLine; decide, fun R hR => ?_⟩
      exact k _ R bk st _ t4 ((b04.newt hq2).newt hR) (rich_new hR ((hp4.new hq2).ne hR) (hW.same (cut_new hq2)) upd_same (hp4.ne hq2)) wf wok ((hp4.new hq2).new hR) (by omega)
    · refine ⟨_, rfl, _, rfl, _, rfl, L, _, rfl, .inl hL2.sq, 5, _, rfl, ?_⟩
      rw [List.length_map, lp]
      refine ⟨p, 5, t2, rfl, hp2, by decide, by decide, by omega, fun r3 t3 o3 r30 r31 tt3 hp3 => ?_⟩
      have b3 := b2.trans (But.upd p H2 o3)
      have hL3 : SL (L2.upd H2 p o3) L ps := by rw [SL, upd_ne nL]; exact hL2
      generalize L2.upd H2 p o3 = H3 at b3 hL3 hp3
      refine ⟨_, _, rfl, rfl, _, rfl, L, _, rfl, hL3.sq, fun q hq => ?_⟩
      rw [cutV_map, cutL_to _ (by omega)]
      have wok := ws_take lp nd aw (k := (1 + r3).toNat) (by omega)
      generalize ps.take (1 + r3).toNat = ws at wok
      have hq3 : SL (L2.upd H3 q (.lst (ws.map V.str))) q ws := upd_same
      have hp4 := hp3.new (o := .lst (ws.map V.str)) hq
      have b4 := b3.newt (o := .lst (ws.map V.str)) hq
      have nq := hp3.ne hq
      generalize L2.upd H3 q (.lst (ws.map V.str)) = H4 at hq3 hp4 b4
      refine ⟨_, rfl, q, _, rfl, .inl hq3.sq, _, _, rfl, rfl, _, rfl, ?_⟩
      rw [List.length_map]
      refine ite2 (fun c => ?_) (fun c => ?_)
      · refine ⟨_, rfl, p, 3, t3, rfl, hp4, by decide, by decide, by omega, fun r5 t5 o5 r50 r51 tt5 hp5 => ?_⟩
        have b5 := b4.trans (But.upd p H4 o5)
        have hq5 : SL (L2.upd H4 p o5) q ws := by rw [SL, upd_ne nq]; exact hq3
        generalize L2.upd H4 p o5 = H5 at b5 hq5 hp5
        refine ⟨rfl, _, rfl, ?_⟩
        refine ite2 (fun c2 => ?_) (fun c2 => ?_)
        · have c' := of_decide_eq_true c
          refine ⟨_, rfl, _, rfl, p, q, ws, t5, rfl, hp5, hq5, nq, wok, by omega, by omega, fun H6 W bk st t6 b6 hW0 hW wf hp6 tt6 => ?_⟩
          have hq6 : SL H6 q ws := b6 _ _ nq hq5
          refine ⟨_, rfl, by show 2 ≤ sizeLine; decide, fun R hR => ?_⟩
          exact k _ R bk st _ t6 ((b5.trans b6).newt hR) (rich_new hR (hp6.ne hR) hW hq6 nq) wf wok (hp6.new hR) (by omega)
        · refine ⟨_, rfl, _, rfl, _, rfl, p, top', t5, rfl, hp5, by omega, by omega, by omega, fun r7 t7 o7 r70 r71 tt7 hp7 => ?_⟩
          have b7 := b5.trans (But.upd p H5 o7)
          have hq7 : SL (L2.upd H5 p o7) q ws := by rw [SL, upd_ne nq]; exact hq5
          generalize L2.upd H5 p o7 = H7 at b7 hq7 hp7
          refine ⟨_, _, rfl, rfl, _, rfl, p, q, ws, 1 + r7, 3, t7, rfl, hp7, hq7, nq, wok, by omega, by omega, by decide, by decide, by omega, fun H8 W bk st t8 b8 hW0 hW wf hp8 tt8 => ?_⟩
          have hq8 : SL H8 q ws := b8 _ _ nq hq7
          refine ⟨_, rfl, by show 2 ≤ sizeLine; decide, fun R hR => ?_⟩
          exact k _ R bk st _ t8 ((b7.trans b8).newt hR) (rich_new hR (hp8.ne hR) hW hq8 nq) wf wok (hp8.new hR) (by omega)
      · refine ⟨_, rfl, _, rfl, _, rfl, p, top', t3, rfl, hp4, by omega, by omega, by omega, fun r7 t7 o7 r70 r71 tt7 hp7 => ?_⟩
        have b7 := b4.trans (But.upd p H4 o7)
        have hq7 : SL (L2.upd H4 p o7) q ws := by rw [SL, upd_ne nq]; exact hq3
        generalize L2.upd H4 p o7 = H7 at b7 hq7 hp7
        refine ⟨_, _, rfl, rfl, _, rfl, p, q, ws, 1 + r7, 3, t7, rfl, hp7, hq7, nq, wok, by omega, by omega, by decide, by decide, by omega, fun H8 W bk st t8 b8 hW0 hW wf hp8 tt8 => ?_⟩
        have hq8 : SL H8 q ws := b8 _ _ nq hq7
        refine ⟨_, rfl, by show 2 ≤ sizeLine; decide, fun R hR => ?_⟩
        exact k _ R bk st _ t8 ((b7.trans b8).newt hR) (rich_new hR (hp8.ne hR) hW hq8 nq) wf wok (hp8.new hR) (by omega)
end
end D1
end L2
/-! the law's _law_two -/
namespace L2
namespace D1
open PySem PySem.Spec PyProof.Rows D2 X5 X6
abbrev sTwo : Stmt := top 64
def spTwo : Sp := fun vs H Q _ => ∃ (p : Addr) (t : Int), vs = [.ref p] ∧ Purse H p t ∧ t < 2 ^ 23 ∧
  ∀ (H' : Hp) (R A B L : Addr) (bk cl : Bk) (st st' : Str) (ws : List Str) (t' : Int), But p H H' → TriAt (cut [p] H') R A B L bk cl st st' ws → WF bk st ws → WF cl st' ws → WsOk ws → Purse H' p t' → t' ≤ t + 6000 → Q (.ref R) H'
/-- the third way, or on -/
def tTrd : TS := fun D σ H => ∃ (p W L : Addr) (way : Int) (bk : Bk) (st : Str) (ws : List Str) (t : Int), σ = [some (.ref p), some (.ref W), some (.ref L), some (.int way)] ∧ Purse H p t ∧ WorldAt (cut [p] H) W bk st ∧ SL H L ws ∧ L ≠ p ∧ WF bk st ws ∧ WsOk ws ∧ t < 2 ^ 24 ∧
  (∀ (H' : Hp) (B : Addr) (cl : Bk) (st' : Str) (t' : Int), But p H H' → WorldAt (cut [p] H') B cl st' → WF cl st' ws → Purse H' p t' → t' ≤ t + 1000 → ∀ R, H' R = none → D.rt (.ref R) (L2.upd H' R (.lst [.ref W, .ref B, .ref L]))) ∧ D.nx σ H
section
variable {P : Program} {w : World} {K : PySem.W.Frag} {mg : Str → Option Value} {base : Heap}
abbrev CPart (P : Program) (w : World) (K : PySem.W.Frag) (mg : Str → Option Value) (base : Heap) := Cal P w K mg base "_law_partner" 4 ["_law_purse_here", "_law_world_here", "_law_copies"] spPart
abbrev CLTurned (P : Program) (w : World) (K : PySem.W.Frag) (mg : Str → Option Value) (base : Heap) := Cal P w K mg base "_law_turned" 1 ["_law_world_here"] spLTurned
abbrev CNewer (P : Program) (w : World) (K : PySem.W.Frag) (mg : Str → Option Value) (base : Heap) := Cal P w K mg base "_law_newer" 5 ["_law_purse_here", "_law_world_here", "_law_words_here", "_law_times"] spNewer
abbrev CEnded (P : Program) (w : World) (K : PySem.W.Frag) (mg : Str → Option Value) (base : Heap) := Cal P w K mg base "_law_ended" 5 ["_law_purse_here", "_law_world_here"] spEnded
abbrev CRound (P : Program) (w : World) (K : PySem.W.Frag) (mg : Str → Option Value) (base : Heap) := Cal P w K mg base "_law_round_two" 5 ["_law_purse_here"] spRound
abbrev CSafer (P : Program) (w : World) (K : PySem.W.Frag) (mg : Str → Option Value) (base : Heap) := Cal P w K mg base "_law_safer" 5 ["_law_purse_here", "_law_world_here", "_law_words_here"] spSafer
abbrev twN : List Str := ["_law_purse_here", "_law_world_here", "_law_words_here", "_law_way"]
theorem scTwo : FnScope twN ["_law_purse_here"] (defScope sTwo) := ⟨rfl, rfl, rfl, by decide +kernel, rfl, by decide +kernel, by decide +kernel⟩
theorem ok_two {f : Addr} {fd : FuncData} (F : Fun K "_law_two" "_law_two" sTwo f fd) (T : Free3 mg) (CD : CDraw P w K mg base) (CR : CRow P w K mg base) (CP : CPart P w K mg base) (CT : CLTurned P w K mg base) (CN : CNewer P w K mg base) (CW : CWorld P w K mg base) (CE : CEnded P w K mg base) (CO : CRound P w K mg base) (CS : CSafer P w K mg base) : FnOk P w K mg base CX0 7 f fd ["_law_purse_here"] spTwo := by
  refine F.ok scTwo (fun vs H Q E h => ?_) (fun cdv A outer s H vs Q E0' hr h => ?_)
  · obtain ⟨p, t, rfl, _⟩ := h; rfl
  · obtain ⟨p, t, rfl, hp, t1, k⟩ := h
    have hu := hu_of hr
    refine ⟨_, pss_cons (ps_if (pt_cmpR op_eq (pe_cal CD (hr.mono (by decide)) rfl (pa_cons (pv 0) (pa_cons pe_int pa_nil))) pe_int (nomark _)) (pss_one (ps_ret (pe_cal CO (hr.mono (by decide)) rfl (pa_cons (pv 0) pa_nil)))) pss_nil)
      (pss_cons (ps_asg (pe_cal CR (hr.mono (by decide)) rfl (pa_cons (pv 0) (pa_cons pe_int pa_nil))) (pg_lst rfl (pgs_cons (pg_name (i := 1) scTwo.nd rfl (Or.inl rfl)) (pgs_cons (pg_name (i := 2) scTwo.nd rfl (Or.inl rfl)) pgs_nil))))
      (pss_cons (ps_set (i := 1) scTwo.nd rfl (Or.inl rfl) (pe_cal CE (hr.mono (by decide)) rfl (pa_cons (pv 0) (pa_cons (pv 1) pa_nil))))
      (pss_cons (ps_set (i := 3) scTwo.nd rfl (Or.inl rfl) (pe_cal CD (hr.mono (by decide)) rfl (pa_cons (pv 0) (pa_cons pe_int pa_nil))))
      (pss_cons (ps_if (pt_cmpR op_lt (pv 3) pe_int (nomark _)) (pss_one (ps_ret (pe_lst (pa_cons (pv 1) (pa_cons (pe_cal CS (hr.mono (by decide)) rfl (pa_cons (pv 0) (pa_cons (pv 1) (pa_cons (pv 2) pa_nil)))) (pa_cons (pv 2) pa_nil)))))) pss_nil)
      (pss_cons (ps_if (pt_cmpR op_eq (pv 3) pe_int (nomark _)) (pss_one (ps_ret (pe_lst (pa_cons (pv 1) (pa_cons (pe_cal CN (hr.mono (by decide)) rfl (pa_cons (pv 0) (pa_cons (pv 1) (pa_cons (pv 2) (pa_cons (pe_op op_add pe_int (pe_cal CD (hr.mono (by decide)) rfl (pa_cons (pv 0) (pa_cons pe_int pa_nil)))) pa_nil))))) (pa_cons (pv 2) pa_nil)))))) pss_nil)
      (pss_cons (ps_imp (t' := tTrd) (ps_if (PW.pt (pw_and (pt_cmpR op_eq (pv 3) pe_int (nomark _)) (pw_and1 (pt_cmpR op_lt (pe_callB call_lenD (by rfl) T.len PySem.boot_len (pa_cons (pe_ix ix_list (pv 1) pe_int (fun _ _ => rfl)) pa_nil)) pe_int (nomark _)))))
          (pss_one (ps_ret (pe_lst (pa_cons (pv 1) (pa_cons (pe_cal CT (hr.mono (by decide)) rfl (pa_cons (pe_cal CP (hr.mono (by decide)) rfl (pa_cons (pv 0) (pa_cons (pv 1) (pa_cons (pe_ifExp (pt_cmpR op_lt (pe_callB call_lenD (by rfl) T.len PySem.boot_len (pa_cons (pe_ix ix_list (pv 1) pe_int (fun _ _ => rfl)) pa_nil)) pe_int (nomark _)) pe_int pe_int) pa_nil)))) pa_nil)) (pa_cons (pv 2) pa_nil)))))) pss_nil) ?third)
      (pss_cons (ps_if (pt_cmpR op_eq (pv 3) pe_int (nomark _)) (pss_one (ps_ret (pe_lst (pa_cons (pv 1) (pa_cons (pe_cal CN (hr.mono (by decide)) rfl (pa_cons (pv 0) (pa_cons (pe_cal CS (hr.mono (by decide)) rfl (pa_cons (pv 0) (pa_cons (pv 1) (pa_cons (pv 2) pa_nil)))) (pa_cons (pv 2) (pa_cons pe_int pa_nil))))) (pa_cons (pv 2) pa_nil)))))) pss_nil)
      (pss_one (ps_ret (pe_lst (pa_cons (pv 1) (pa_cons (pe_ifExp (pt_cmpR op_eq (pv 3) pe_int (nomark _)) (pe_cal CW (hr.mono (by decide)) rfl (pa_cons (pv 0) (pa_cons (pe_op op_add pe_int (pe_cal CD (hr.mono (by decide)) rfl (pa_cons (pv 0) (pa_cons pe_int pa_nil)))) (pa_cons (pv 2) (pa_cons pe_int pa_nil))))) (pv 1)) (pa_cons (pv 2) pa_nil))))))))))))), ?_⟩
    case third =>
      rintro D σ H ⟨p, W, L, way, bk, st, ws, t, rfl, hp, hW, hL, nL, wf, wok, t1, kr, kn⟩
      obtain ⟨b, eW, kvs, eb, hR⟩ := id hW
      have lk : kvs.length = bk.length := hR.len
      have lb1 : 1 ≤ bk.length := List.length_pos_iff.mpr (wf.dok wok).ne
      refine ⟨_, rfl, rfl, _, rfl, ite2 (fun _ => ⟨_, rfl, W, _, _, _, rfl, rfl, SqL.of (cut_le _ _ eW), atI_nat (j := 0) rfl, b, kvs, rfl, cut_le _ _ eb, _, _, rfl, rfl, _, rfl, ite2 (fun c4 => ?_) (fun _ => kn)⟩) (fun _ => iteF kn)⟩
      have c5 : (kvs.length : Int) < 4 := of_decide_eq_true c4
      refine ⟨_, rfl, _, rfl, _, rfl, _, rfl, W, _, _, _, rfl, rfl, SqL.of (cut_le _ _ eW), atI_nat (j := 0) rfl, b, kvs, rfl, cut_le _ _ eb, _, _, rfl, rfl, _, rfl, (if_pos c4).mpr ?_⟩
      refine ⟨p, W, bk, st, ws, 2, t, rfl, hp, hW, wf, wok, by decide, by omega, by omega, fun H4 B cl st2 t4 b4 nB hB wf2 hp4 tt4 => ?_⟩
      refine ⟨B, cl, st2, rfl, hB.same cut_le, wf2.dok wok, fun H5 R5 g5 nR5 hR5 => ?_⟩
      have hp5 := hp4.same g5
      exact ⟨_, rfl, by show 3 ≤ sizeLine; decide, kr H5 R5 _ st2 t4 (b4.trans (But.of g5)) (world_cut hR5 hp5) wf2.turn hp5 (by omega)⟩
    refine ⟨_, rfl, p, 8, t, rfl, hp, by decide, by decide, by omega, fun r0 t0 o0 z0 z1 tt0 hp0 => ?_⟩
    have b0 := But.upd p H o0
    generalize L2.upd H p o0 = H0 at b0 hp0
    refine ⟨rfl, _, rfl, ite2 (fun _ => ⟨_, rfl, p, t0, rfl, hp0, by omega, fun H' R A B L bk cl st st' ws t' bb tri w1 w2 wo hp' tt' => k H' R A B L bk cl st st' ws t' (b0.trans bb) tri w1 w2 wo hp' (by omega)⟩) (fun _ => ?_)⟩
    refine ⟨_, rfl, p, 6, t0, rfl, hp0, by decide, by decide, by omega, fun H1 R0 bk0 st0 ws t1' b1 hR0 wf0 wok hp1 tt1 => ?_⟩
    obtain ⟨W0, L, hRl, hW0, hL⟩ := hR0
    have nL : L ≠ p := fun e => by rw [SL, e, cut_in (by simp)] at hL; cases hL
    refine ⟨R0, _, rfl, SqL.of (cut_le _ _ hRl), rfl, _, _, rfl, _, _, rfl, rfl, ?_⟩
    refine ⟨_, rfl, _, rfl, p, W0, bk0, st0, ws, t1', rfl, hp1, hW0, wf0, wok, by omega, fun H2 W st t2 b2 hW wf hp2 tt2 => ?_⟩
    generalize bk0 = bk at hW wf
    have hL1 : SL H1 L ws := cut_le _ _ hL
    refine ⟨_, rfl, p, 6, t2, rfl, hp2, by decide, by decide, by omega, fun way t3 o3 y0 y1 tt3 hp3 => ?_⟩
    have b3 := b2.trans (But.upd p H2 o3)
    have hW3 : WorldAt (cut [p] (L2.upd H2 p o3)) W bk st := by rw [cut_upd (by simp)]; exact hW
    generalize L2.upd H2 p o3 = H3 at b3 hW3 hp3
    have hL3 : SL H3 L ws := b3 _ _ nL hL1
    have b03 : But p H H3 := b0.trans (b1.trans b3)
    have fin : ∀ {H4 : Hp} {B : Addr} {cl : Bk} {st' : Str} {t4 : Int}, But p H3 H4 → WorldAt (cut [p] H4) B cl st' → WF cl st' ws → Purse H4 p t4 → t4 ≤ t3 + 1000 → ∀ R, H4 R = none → Q (.ref R) (L2.upd H4 R (.lst [.ref W, .ref B, .ref L])) := fun {H4 B cl st' t4} b4 hB wf2 hp4 tt4 R hR => by
      have nRp := hp4.ne hR
      have g := Same.new (o := .lst [.ref W, .ref B, .ref L]) hR
      refine k _ R W B L bk cl st st' ws t4 (b03.trans (b4.trans (But.of g))) ⟨by rw [cut_out (by simpa using nRp)]; exact upd_same, (hW3.same (cut_but b4 (by simp))).same (cut_same g), hB.same (cut_same g), ?_⟩ wf wf2 wok (hp4.new hR) (by omega)
      rw [SL, cut_out (by simpa using nL)]; exact g _ _ (b4 _ _ nL hL3)
    refine ⟨_, rfl, _, _, rfl, rfl, _, rfl, ite2 (fun c1 => ?_) (fun c1 => ?_)⟩
    · refine ⟨_, rfl, _, rfl, _, rfl, _, rfl, p, W, L, bk, st, ws, t3, rfl, hp3, hW3, hL3, nL, wf, wok, by omega, fun H4 B cl t4 b4 hp4 tt4 nB hB wf2 => ⟨_, rfl, by show 3 ≤ sizeLine; decide, fin b4 hB wf2 hp4 (by omega)⟩⟩
    refine ⟨_, rfl, rfl, _, rfl, ite2 (fun c2 => ?_) (fun c2 => ?_)⟩
    · refine ⟨_, rfl, _, rfl, _, rfl, _, rfl, _, rfl, p, 2, t3, rfl, hp3, by decide, by decide, by omega, fun r t5 o5 r0 r1 tt5 hp5 => ⟨_, _, rfl, rfl, ?_⟩⟩
      have b5 := But.upd p H3 o5
      have hW5 : WorldAt (cut [p] (L2.upd H3 p o5)) W bk st := by rw [cut_upd (by simp)]; exact hW3
      refine ⟨p, W, L, bk, st, ws, _, t5, rfl, hp5, hW5, b5 _ _ nL hL3, nL, wf, wok, by omega, by omega, by omega, fun H4 B cl t4 b4 hp4 tt4 nB hB wf2 => ⟨_, rfl, by show 3 ≤ sizeLine; decide, fin (b5.trans b4) hB wf2 hp4 (by omega)⟩⟩
    refine ⟨p, W, L, way, bk, st, ws, t3, rfl, hp3, hW3, hL3, nL, wf, wok, by omega, fun H4 B cl st' t4 b4 hB wf2 hp4 tt4 => fin b4 hB wf2 hp4 tt4, ?_⟩
    refine ⟨_, rfl, rfl, _, rfl, ite2 (fun c5 => ?_) (fun c5 => ?_)⟩
    · refine ⟨_, rfl, _, rfl, _, rfl, _, rfl, _, rfl, p, W, L, bk, st, ws, t3, rfl, hp3, hW3, hL3, nL, wf, wok, by omega, fun H4 B cl t4 b4 hp4 tt4 nB hB wf2 => ?_⟩
      refine ⟨_, rfl, p, B, L, _, _, ws, 1, t4, rfl, hp4, hB, b4 _ _ nL hL3, nL, wf2, wok, by decide, by decide, by omega, fun H5 B5 cl5 t5 b5 hp5 tt5 nB5 hB5 wf5 => ?_⟩
      exact ⟨_, rfl, by show 3 ≤ sizeLine; decide, fin (b4.trans b5) hB5 wf5 hp5 (by omega)⟩
    refine ⟨_, rfl, _, rfl, rfl, _, rfl, ite2 (fun c6 => ?_) (fun c6 => ?_)⟩
    · refine ⟨_, rfl, _, rfl, p, 6, t3, rfl, hp3, by decide, by decide, by omega, fun r t5 o5 r0 r1 tt5 hp5 => ⟨_, _, rfl, rfl, ?_⟩⟩
      have b5 := But.upd p H3 o5
      refine ⟨_, rfl, p, L, ws, _, 3, t5, rfl, hp5, b5 _ _ nL hL3, nL, wok, by omega, by omega, by decide, by decide, by omega, fun H4 B cl st' t4 b4 nB hB wf2 hp4 tt4 => ?_⟩
      exact ⟨_, rfl, by show 3 ≤ sizeLine; decide, fin (b5.trans b4) hB wf2 hp4 (by omega)⟩
    · exact ⟨_, rfl, _, rfl, by show 3 ≤ sizeLine; decide, fin (fun _ _ _ e => e) hW3 wf hp3 (by omega)⟩
end
end D1
end L2
/-! the law's _law_judged_right -/
namespace L2
namespace D1
open PySem PySem.Spec PyProof.Rows D2 X5 X6
abbrev sJudged : Stmt := top 69
theorem sl_ne {H : Hp} {p a : Addr} {t : Int} {ss : List Str} (hp : Purse H p t) (h : SL H a ss) : a ≠ p := fun e => by
  obtain ⟨g, b, z, ep, _⟩ := hp
  rw [SL, e, ep] at h
  cases ss with
  | nil => cases h
  | cons x r => have := Option.some.inj h; cases this
theorem ll_ne {H : Hp} {p R : Addr} {t : Int} {tss : List (List Str)} (hp : Purse H p t) (h : LL H R tss) : R ≠ p := fun e => by
  obtain ⟨g, b, z, ep, _⟩ := hp
  obtain ⟨as, h, _⟩ := h
  rw [e, ep] at h
  cases as with
  | nil => cases h
  | cons x r => have := Option.some.inj h; cases this
theorem LL.but {H H' : Hp} {p R : Addr} {t : Int} {tss : List (List Str)} (hp : Purse H p t) (h : LL H R tss) (b : But p H H') : LL H' R tss := by
  have n := ll_ne hp h
  obtain ⟨as, h, pr⟩ := h
  exact ⟨as, b _ _ n h, paired_imp (fun a ts e => b _ _ (sl_ne hp e) e) pr⟩
/-- some talks, none of them long -/
def TsB (ws : List Str) (tss : List (List Str)) : Prop := ∀ ts ∈ tss, ts.length ≤ 80 ∧ ∀ x ∈ ts, x ∈ ws
theorem TsB.app {ws : List Str} {a b : List (List Str)} (h : TsB ws a) (g : TsB ws b) : TsB ws (a ++ b) := fun t ht => (List.mem_append.mp ht).elim (h t) (g t)
theorem TsB.one {ws ts : List Str} (h : ts.length ≤ 80) (g : ∀ x ∈ ts, x ∈ ws) : TsB ws [ts] := fun t ht => by rw [List.mem_singleton.mp ht]; exact ⟨h, g⟩
theorem LL.app {H : Hp} {R : Addr} {as bs : List Addr} {a b : List (List Str)} (e : H R = some (.lst (as.map V.ref ++ bs.map V.ref))) (h : Paired (fun x ts => SL H x ts) as a) (g : Paired (fun x ts => SL H x ts) bs b) : LL H R (a ++ b) := ⟨as ++ bs, by rw [e, List.map_append], paired_cat h g⟩
theorem paired_take {α β : Type} {R : α → β → Prop} : ∀ {xs : List α} {ys : List β} (n : Nat), Paired R xs ys → Paired R (xs.take n) (ys.take n)
  | _, _, 0, _ => by rw [List.take_zero, List.take_zero]; exact .nil
  | _, _, n + 1, .nil => by rw [List.take_nil, List.take_nil]; exact .nil
  | _, _, n + 1, .cons h r => by rw [List.take_succ_cons, List.take_succ_cons]; exact .cons h (paired_take n r)
/-- two or three -/
def tTS : TE := fun σ H Q => ∃ (L : Addr) (ws : List Str), σ[5]? = some (some (.ref L)) ∧ SL H L ws ∧ ∀ n : Int, 0 ≤ n → n ≤ 3 → Q (.int n) H
/-- none, or a talk -/
def ToldAt (H : Hp) (v : V) (ws : List Str) : Prop := v = .non ∨ ∃ T way, v = .ref T ∧ SL H T way ∧ way.length ≤ 38 ∧ ∀ x ∈ way, x ∈ ws
theorem ToldAt.but {H H' : Hp} {p : Addr} {t : Int} {v : V} {ws : List Str} (hp : Purse H p t) (h : ToldAt H v ws) (b : But p H H') : ToldAt H' v ws := h.imp id fun ⟨T, way, e, hT, l, m⟩ => ⟨T, way, e, b _ _ (sl_ne hp hT) hT, l, m⟩
structure Jd (C : Addr) (H : Hp) (W1 W2 q1 q2 L : Addr) (bk cl : Bk) (st st' : Str) (ws : List Str) : Prop where
  w1 : WorldAt H W1 bk st
  w2 : WorldAt H W2 cl st'
  two : Two C H q1 q2 bk cl st st'
  wl : SL H L ws
theorem Jd.same {C : Addr} {H H' : Hp} {W1 W2 q1 q2 L : Addr} {bk cl : Bk} {st st' : Str} {ws : List Str} (h : Jd C H W1 W2 q1 q2 L bk cl st st' ws) (s : Same H H') : Jd C H' W1 W2 q1 q2 L bk cl st st' ws := ⟨h.w1.same s, h.w2.same s, h.two.same s, h.wl.same s⟩
def spJudged (C : Addr) : Sp := fun vs H Q _ => ∃ (p W1 W2 q1 q2 L : Addr) (v : V) (bk cl : Bk) (st st' : Str) (ws : List Str) (t : Int), vs = [.ref p, .ref W1, .ref W2, .ref q1, .ref q2, .ref L, v] ∧ Purse H p t ∧ Jd C (cut [p] H) W1 W2 q1 q2 L bk cl st st' ws ∧ DOk bk st ∧ DOk cl st' ∧ WsOk ws ∧ ToldAt H v ws ∧ t < 2 ^ 25 ∧
  ∀ (H' : Hp) (t' : Int), But p H H' → Purse H' p t' → t' ≤ t + 200 → Q (.bl true) H'
/-- more talks where one was told -/
def tMore : TS := fun D σ H => ∃ (p L Sm : Addr) (v : V) (ws : List Str) (tss : List (List Str)) (t : Int) (a1 a2 a3 a4 : Option V), σ = [some (.ref p), a1, a2, a3, a4, some (.ref L), some v, some (.ref Sm), none, none, none, none, none, none, none, none] ∧ Purse H p t ∧ SL H L ws ∧ WsOk ws ∧ ToldAt H v ws ∧ LL H Sm tss ∧ TsB ws tss ∧ tss.length ≤ 120 ∧ t < 2 ^ 26 ∧
  ∀ (H' : Hp) (Sm' : Addr) (tss' : List (List Str)) (t' : Int), But p H H' → Purse H' p t' → t' ≤ t + 40 → LL H' Sm' tss' → TsB ws tss' → tss'.length ≤ 300 → D.nx [some (.ref p), a1, a2, a3, a4, some (.ref L), some v, some (.ref Sm'), none, none, none, none, none, none, none, none] H'
/-- one of the words -/
def tPk (i j : Nat) : TE := fun σ H Q => ∃ (p L : Addr) (ws : List Str) (t : Int), σ[i]? = some (some (.ref p)) ∧ σ[j]? = some (some (.ref L)) ∧ Purse H p t ∧ SL H L ws ∧ WsOk ws ∧ t < 2 ^ 27 ∧ ∀ (x : Str) (H' : Hp) (t' : Int), x ∈ ws → But p H H' → Purse H' p t' → t' ≤ t + 1 → Q (.str x) H'
/-- a talk with one word exchanged -/
def tSpl : TE := fun σ H Q => ∃ (p L T : Addr) (m : Nat) (ws way : List Str) (t : Int), σ[0]? = some (some (.ref p)) ∧ σ[5]? = some (some (.ref L)) ∧ σ[6]? = some (some (.ref T)) ∧ σ[15]? = some (some (.int (0 + (m : Int)))) ∧ Purse H p t ∧ SL H L ws ∧ WsOk ws ∧ SL H T way ∧ way.length ≤ 38 ∧ (∀ x ∈ way, x ∈ ws) ∧ t < 2 ^ 27 ∧
  ∀ (H' : Hp) (R : Addr) (ts : List Str) (t' : Int), But p H H' → H R = none → SL H' R ts → ts.length ≤ 80 → (∀ x ∈ ts, x ∈ ws) → Purse H' p t' → t' ≤ t + 1 → Q (.ref R) H'
theorem cut_sub {xs : List Str} {lo hi : Option Int} {x : Str} (h : x ∈ cutL xs lo hi) : x ∈ xs := List.mem_of_mem_drop (List.mem_of_mem_take h)
theorem cutL_le {xs : List Str} {lo hi : Option Int} : (cutL xs lo hi).length ≤ xs.length := by
  unfold cutL
  rw [List.length_take, List.length_drop]
  omega
/-- the two answers differ -/
def tDf (C : Addr) (i j : Nat) : TT := fun σ H Q => ∃ (W1 W2 q1 q2 L A B : Addr) (bk cl : Bk) (st st' : Str) (ws way : List Str), σ[1]? = some (some (.ref W1)) ∧ σ[2]? = some (some (.ref W2)) ∧ σ[3]? = some (some (.ref q1)) ∧ σ[4]? = some (some (.ref q2)) ∧ σ[i]? = some (some (.ref A)) ∧ σ[j]? = some (some (.ref B)) ∧ Jd C H W1 W2 q1 q2 L bk cl st st' ws ∧ DOk bk st ∧ DOk cl st' ∧ SL H A way ∧ SL H B way ∧ way.length ≤ 80 ∧ (∀ x ∈ way, Wd x) ∧ ∀ H', Same H H' → Q false H'
section
variable {P : Program} {w : World} {K : PySem.W.Frag} {mg : Str → Option Value} {base : Heap} {C : Addr}
abbrev CUnf (P : Program) (w : World) (K : PySem.W.Frag) (mg : Str → Option Value) (base : Heap) (C : Addr) := Cal P w K mg base "is_unfit_talk" 6 ["elder", "newer", "value"] (spIsUnfit C)
abbrev CUnfO (P : Program) (w : World) (K : PySem.W.Frag) (mg : Str → Option Value) (base : Heap) (C : Addr) := Cal P w K mg base "is_unfit_talk" 6 ["elder", "newer", "value"] (spIsUnfitO C K)
abbrev CLIsU (P : Program) (w : World) (K : PySem.W.Frag) (mg : Str → Option Value) (base : Heap) := Cal P w K mg base "_law_is_unfit" 2 ["_law_elder", "_law_newer_here", "_law_value"] spLIsU
abbrev CTalks (P : Program) (w : World) (K : PySem.W.Frag) (mg : Str → Option Value) (base : Heap) := Cal P w K mg base "_law_talks" 1 ["_law_words_here", "_law_size"] spTalks
theorem bl_eqx {H : Hp} {n : Nat} (b : Bool) : EqX n H (.bl b) (.bl b) := EqX.up (m := 0) ⟨.bl b, rfl⟩ (Nat.zero_le _)
theorem joinz {ws : List Str} (wok : WsOk ws) : (ws.map (·.length)).sum + ws.length * Str.length "" ≤ 16777216 := by
  have h : ∀ l : List Str, (∀ x ∈ l, Wd x) → (l.map (·.length)).sum ≤ 8 * l.length := fun l hl => by
    induction l with
    | nil => simp
    | cons x r ih =>
      rw [List.map_cons, List.sum_cons, List.length_cons]
      have a := ih fun y hy => hl y (List.mem_cons_of_mem _ hy)
      have b := (hl x (by simp)).hi
      omega
  have a := h ws wok.wd
  have b := wok.hi
  have c : Str.length "" = 0 := by decide +kernel
  rw [c]
  omega
abbrev jdN : List Str := ["_law_purse_here", "_law_elder", "_law_newer_here", "_law_one", "_law_other", "_law_words_here", "_law_told", "_law_some", "_law_turn", "_law_long", "_law_value", "_law_handed", "_law_grown", "_law_bent", "_law_word_here", "_law_at"]
abbrev jdP : List Str := ["_law_purse_here", "_law_elder", "_law_newer_here", "_law_one", "_law_other", "_law_words_here", "_law_told"]
theorem scJd : FnScope jdN jdP (defScope sJudged) := ⟨rfl, rfl, rfl, by decide +kernel, rfl, by decide +kernel, by decide +kernel⟩
theorem ok_judged {f : Addr} {fd : FuncData} (F : Fun K "_law_judged_right" "_law_judged_right" sJudged f fd) (T : Free4 mg) (OC : OddC K C) (CO : COne P w K mg base) (CT : CTalks P w K mg base) (CX : CExact P w K mg base 0) (CU : CUnf P w K mg base C) (CUO : CUnfO P w K mg base C) (CL : CLIsU P w K mg base) : FnOk P w K mg base CX0 7 f fd jdP (spJudged C) := by
  refine F.ok scJd (fun vs H Q E h => ?_) (fun cdv A outer s H vs Q E0' hr h => ?_)
  · obtain ⟨p, W1, W2, q1, q2, L, v, bk, cl, st, st', ws, t, rfl, _⟩ := h; rfl
  · obtain ⟨p, W1, W2, q1, q2, L, v, bk, cl, st, st', ws, t, rfl, hp, jd, o1, o2, wok, ht, t1, k⟩ := h
    have hu := hu_of hr
    refine ⟨_, pss_cons (ps_set (i := 7) scJd.nd rfl (Or.inl rfl) (pe_slice sl_list (pe_cal CT (hr.mono (by decide)) rfl (pa_cons (pv 5) (pa_cons (pe_imp (t' := tTS) (pe_ifExp (pt_cmpR op_lt (pe_callB call_len_seq (by rfl) T.len PySem.boot_len (pa_cons (pv 5) pa_nil)) pe_int (nomark _)) pe_int pe_int) (by
        rintro σ H Q ⟨L, ws, e5, hL, k⟩
        exact ⟨_, e5, L, _, rfl, .inl hL.sq, _, _, rfl, rfl, _, rfl, ite2 (fun _ => k 3 (by decide) (by decide)) (fun _ => k 2 (by decide) (by decide))⟩)) pa_nil))) po_none (po_some pe_int)))
      (pss_cons (ps_imp (t' := tMore) (ps_if (pt_cmp (pc_notN (pv 6)) rfl)
          (pss_cons (ps_set (i := 7) scJd.nd rfl (Or.inl rfl) (pe_op op_cat (pe_op op_cat (pe_op op_cat (pv 7) (pe_lst (pa_cons (pv 6) pa_nil)))
              (pe_lc (own := [("_law_word_here", 14)]) (g := gName 14) (tt := tYes) (te := tOp rCat (tVar 6) (tLst (tCons (tVar 14) tNil))) rfl scJd.nd (pi_list (pv 5)) (blkOk_by (N := jdN) (sc := defScope sJudged) (by decide +kernel)) (fun _ _ _ _ _ => pg_name (i := 14) scJd.nd rfl (Or.inl rfl)) (fun _ _ _ _ _ => pts_nil) (fun _ _ _ _ _ => pe_op op_cat (pv 6) (pe_lst (pa_cons (pv 14) pa_nil)))))
              (pe_lc (own := [("_law_at", 15)]) (g := gName 15) (tt := tYes) (te := tSpl) rfl scJd.nd (pi_range1 rfl T.range (pa_cons (pe_callB call_len_seq (by rfl) T.len PySem.boot_len (pa_cons (pv 6) pa_nil)) pa_nil)) (blkOk_by (N := jdN) (sc := defScope sJudged) (by decide +kernel)) (fun _ _ _ _ _ => pg_name (i := 15) scJd.nd rfl (Or.inl rfl)) (fun _ _ _ _ _ => pts_nil)
                (fun _ _ _ _ _ => pe_imp (t' := tSpl) (pe_op op_cat (pe_op op_cat (pe_slice sl_list (pv 6) po_none (po_some (pv 15))) (pe_lst (pa_cons (pe_cal CO (hr.mono (by decide)) rfl (pa_cons (pv 0) (pa_cons (pv 5) pa_nil))) pa_nil))) (pe_slice sl_list (pv 6) (po_some (pe_op op_add (pv 15) pe_int)) po_none)) ?pk1))))
          (pss_one (ps_set (i := 7) scJd.nd rfl (Or.inl rfl) (pe_op op_cat (pv 7) (pe_lst (pa_cons (pe_slice sl_list (pv 6) (po_some pe_int) po_none) (pa_cons (pe_slice sl_list (pv 6) po_none (po_some (pe_un un_neg pe_int))) (pa_cons (pe_slice sl_list (pe_op op_cat (pv 6) (pv 6)) po_none (po_some pe_int)) pa_nil))))))))
          pss_nil) ?more)
      (pss_cons (ps_setLc (i := 9) (own := [("_law_turn", 8)]) (g := gName 8) (tt := tYes) (te := tPk 0 5) rfl scJd.nd rfl rfl (sw_true rfl rfl rfl rfl) (pi_range1 rfl T.range (pa_cons pe_int pa_nil)) (blkOk_by (N := jdN) (sc := defScope sJudged) (by decide +kernel)) (fun _ _ _ _ _ => pg_name (i := 8) scJd.nd rfl (Or.inl rfl)) (fun _ _ _ _ _ => pts_nil)
          (fun _ _ _ _ _ => pe_imp (t' := tPk 0 5) (pe_cal CO (hr.mono (by decide)) rfl (pa_cons (pv 0) (pa_cons (pv 5) pa_nil))) ?pk2))
      (pss_cons (ps_for PassesOwn.never rfl (pi_list (pe_op op_cat (pv 7) (pe_lst (pa_cons (pv 9) (pa_cons (pe_slice sl_list (pv 9) po_none (po_some pe_int)) pa_nil))))) (pg_name (i := 10) scJd.nd rfl (Or.inl rfl))
        (pss_cons (ps_set (i := 11) scJd.nd rfl (Or.inl rfl) (pe_callTy call_list_of (by rfl) T.list (by decide +kernel) (pa_cons (pv 10) pa_nil)))
        (pss_one (ps_if (pt_imp (t' := tDf C 11 10) (PW.pt (pw_or (pt_not (pt_val (pe_cal CX (hr.mono (by decide)) rfl (pa_cons (pe_cal CU (hr.mono (by decide)) rfl (pa_cons (pv 3) (pa_cons (pv 4) (pa_cons (pv 11) pa_nil)))) (pa_cons (pe_cal CL (hr.mono (by decide)) rfl (pa_cons (pv 1) (pa_cons (pv 2) (pa_cons (pv 10) pa_nil)))) pa_nil))))) (pw_or1 (pt_cmpR (op_neD hr.units) (pv 11) (pv 10) (by rfl))))) ?df1) (pss_one (ps_ret pe_bl)) pss_nil))))
      (pss_cons (ps_set (i := 12) scJd.nd rfl (Or.inl rfl) (pe_lst pa_nil))
      (pss_cons (ps_for PassesOwn.never rfl (pi_range1 rfl T.range (pa_cons pe_int pa_nil)) (pg_name (i := 8) scJd.nd rfl (Or.inl rfl))
        (pss_cons (ps_if (pt_imp (t' := tDf C 12 12) (pt_not (pt_val (pe_cal CX (hr.mono (by decide)) rfl (pa_cons (pe_cal CU (hr.mono (by decide)) rfl (pa_cons (pv 3) (pa_cons (pv 4) (pa_cons (pv 12) pa_nil)))) (pa_cons (pe_cal CL (hr.mono (by decide)) rfl (pa_cons (pv 1) (pa_cons (pv 2) (pa_cons (pv 12) pa_nil)))) pa_nil))))) ?df2) (pss_one (ps_ret pe_bl)) pss_nil)
        (pss_one (ps_expr (pe_bm PySem.F.plainAttrs_list PySem.F.slot_list_append PySem.F.type_list_append mt_append (pv 12) (pa_cons (pe_cal CO (hr.mono (by decide)) rfl (pa_cons (pv 0) (pa_cons (pv 5) pa_nil))) pa_nil))))))
      (pss_cons (ps_set (i := 13) scJd.nd rfl (Or.inl rfl) (pe_lst (pa_cons pe_non (pa_cons pe_int (pa_cons pe_bl (pa_cons pe_str (pa_cons pe_dnewK (pa_cons (pe_tup pa_nil) (pa_cons (pv 3) (pa_cons (pe_lst (pa_cons (pv 3) pa_nil)) (pa_cons (pe_tup (pa_cons pe_str pa_nil)) (pa_cons (pe_lst (pa_cons pe_non pa_nil)) (pa_cons (pe_lst (pa_cons pe_int pa_nil)) (pa_cons (pe_lst (pa_cons (pe_lst pa_nil) pa_nil)) (pa_cons (pe_lst (pa_cons pe_str pa_nil)) (pa_cons (pe_lst (pa_cons pe_str pa_nil)) (pa_cons (pe_lst (pa_cons (pe_tup (pa_cons pe_str pa_nil)) pa_nil)) (pa_cons (pe_disp (pps_cons pe_str pe_int pps_nil) (by rfl) (by rfl) (fun z => by cases z) (by show 1 ≤ 15; decide)) (pa_cons (pe_callTy call_tuple_of (by rfl) T.tuple (by decide +kernel) (pa_cons (pv 5) pa_nil)) (pa_cons (pe_join pe_str (pv 5)) (pa_cons (pe_lst (pa_cons (pv 5) pa_nil)) pa_nil)))))))))))))))))))))
      (pss_one (ps_ret (pe_callB (cr_all rfl) (by rfl) T.all (by decide +kernel) (pa_cons (pe_lc (own := [("_law_value", 10)]) (g := gName 10) (tt := tYes) (te := tOp rIsB (tCall (spIsUnfitO C K) [] E0 (tCons (tVar 3) (tCons (tVar 4) (tCons (tVar 10) tNil)))) (tC (.bl false))) rfl scJd.nd (pi_list (pv 13)) (blkOk_by (N := jdN) (sc := defScope sJudged) (by decide +kernel)) (fun _ _ _ _ _ => pg_name (i := 10) scJd.nd rfl (Or.inl rfl)) (fun _ _ _ _ _ => pts_nil)
          (fun _ _ _ _ _ => pe_cmpR op_isBl (pe_cal CUO (hr.mono (by decide)) rfl (pa_cons (pv 3) (pa_cons (pv 4) (pa_cons (pv 10) pa_nil)))) pe_bl (by rfl))) pa_nil)))))))))), ?_⟩
    case pk1 =>
      rintro σ H Q ⟨p, L, Tl, m, ws, way, t, e0, e5, e6, e15, hp, hL, wok, hT, lw, mw, t1, k⟩
      have l1 := wok.lo
      have l2 := wok.hi
      have nL := sl_ne hp hL
      have nT := sl_ne hp hT
      refine ⟨_, e6, _, e15, _, rfl, Tl, _, rfl, hT.sq, fun a1 h1 => ?_⟩
      rw [cutV_map]
      have m1 : ∀ x ∈ cutL way none (some (0 + (m : Int))), x ∈ ws := fun x hx => mw x (cut_sub hx)
      have ll1 : (cutL way none (some (0 + (m : Int)))).length ≤ 38 := Nat.le_trans cutL_le lw
      generalize cutL way none (some (0 + (m : Int))) = c1 at m1 ll1
      have g1 := Same.new (o := .lst (c1.map V.str)) h1
      have s1 : SL (L2.upd H a1 (.lst (c1.map V.str))) a1 c1 := upd_same
      have hp1 := hp.new (o := .lst (c1.map V.str)) h1
      have n1 := hp.ne h1
      generalize L2.upd H a1 (.lst (c1.map V.str)) = H1 at g1 s1 hp1
      refine ⟨_, e0, _, e5, p, L, _, t, rfl, hp1, hL.same g1, nL, by rw [List.length_map]; omega, by rw [List.length_map]; omega, by omega, fun i v t2 o hj tt2 hp2 => ?_⟩
      obtain ⟨x, hx, rfl⟩ := get_map hj
      have mx := List.mem_of_getElem? hx
      have b12 := But.upd p H1 o
      generalize L2.upd H1 p o = H2 at b12 hp2
      refine ⟨by show 1 ≤ sizeLine; decide, fun a2 h2 => ?_⟩
      have g2 := Same.new (o := .lst [.str x]) h2
      have s2 : SL (L2.upd H2 a2 (.lst [.str x])) a2 [x] := upd_same
      have hp3 := hp2.new (o := .lst [.str x]) h2
      generalize L2.upd H2 a2 (.lst [.str x]) = H3 at g2 s2 hp3
      refine ⟨a1, a2, _, _, rfl, rfl, g2 _ _ (b12 _ _ n1 s1), s2, by rw [List.length_map, List.length_map, sizeLine_eq]; show _ + 1 ≤ _; omega, fun a3 h3 => ?_⟩
      have g3 := Same.new (o := .lst (c1.map V.str ++ [x].map V.str)) h3
      have s3 : SL (L2.upd H3 a3 (.lst (c1.map V.str ++ [x].map V.str))) a3 (c1 ++ [x]) := by rw [SL, upd_same, List.map_append]
      have hp4 := hp3.new (o := .lst (c1.map V.str ++ [x].map V.str)) h3
      generalize L2.upd H3 a3 (.lst (c1.map V.str ++ [x].map V.str)) = H4 at g3 s3 hp4
      have b04 : But p H H4 := (But.of g1).trans (b12.trans (But.of (Same.trans g2 g3)))
      refine ⟨_, e6, _, e15, _, _, rfl, rfl, _, rfl, Tl, _, rfl, SL.sq (b04 _ _ nT hT), fun a4 h4 => ?_⟩
      rw [cutV_map]
      have m2 : ∀ x ∈ cutL way (some (0 + (m : Int) + 1)) none, x ∈ ws := fun x hx => mw x (cut_sub hx)
      have ll2 : (cutL way (some (0 + (m : Int) + 1)) none).length ≤ 38 := Nat.le_trans cutL_le lw
      generalize cutL way (some (0 + (m : Int) + 1)) none = c2 at m2 ll2
      have g4 := Same.new (o := .lst (c2.map V.str)) h4
      have s4 : SL (L2.upd H4 a4 (.lst (c2.map V.str))) a4 c2 := upd_same
      have hp5 := hp4.new (o := .lst (c2.map V.str)) h4
      generalize L2.upd H4 a4 (.lst (c2.map V.str)) = H5 at g4 s4 hp5
      refine ⟨a3, a4, _, _, rfl, rfl, s3.same g4, s4, by rw [List.length_map, List.length_map, List.length_append, sizeLine_eq]; show _ + 1 + _ ≤ _; omega, fun R hR => ?_⟩
      have nR := hp5.ne hR
      have b05 : But p H H5 := b04.trans (But.of g4)
      refine k _ R ((c1 ++ [x]) ++ c2) t2 (b05.newt hR) (b05.fr hR nR) (by rw [SL, upd_same, List.map_append (l₁ := c1 ++ [x])]) (by rw [List.length_append, List.length_append]; show _ + 1 + _ ≤ _; omega) (fun y hy => ?_) (hp5.new hR) tt2
      rcases List.mem_append.mp hy with z | z
      · rcases List.mem_append.mp z with z | z
        · exact m1 y z
        · rw [List.mem_singleton.mp z]; exact mx
      · exact m2 y z
    case pk2 =>
      rintro σ H Q ⟨p, L, ws, t, e0, e5, hp, hL, wok, t1, k⟩
      have l1 := wok.lo
      have l2 := wok.hi
      refine ⟨_, e0, _, e5, p, L, _, t, rfl, hp, hL, sl_ne hp hL, by rw [List.length_map]; omega, by rw [List.length_map]; omega, by omega, fun i v t2 o hj tt2 hp2 => ?_⟩
      obtain ⟨x, hx, rfl⟩ := get_map hj
      exact k x _ t2 (List.mem_of_getElem? hx) (But.upd p H o) hp2 tt2
    case more =>
      rintro D σ H ⟨p, L, Sm, v, ws, tss, t, a1, a2, a3, a4, rfl, hp, hL, wok, ht, hS, tb, ls, t1, k⟩
      rcases ht with rfl | ⟨Tl, way, rfl, hT, lw, mw⟩
      · exact ⟨_, rfl, _, rfl, iteF (k H Sm tss t (fun _ _ _ e => e) hp (by omega) hS tb (by omega))⟩
      refine ⟨_, rfl, _, rfl, iteT ?_⟩
      have l1 := wok.lo
      have l2 := wok.hi
      have nL := sl_ne hp hL
      have nT := sl_ne hp hT
      obtain ⟨as, hSm, pS⟩ := id hS
      have las : as.length = tss.length := paired_len pS
      refine ⟨_, rfl, _, rfl, by show 1 ≤ sizeLine; decide, fun A1 hA1 => ?_⟩
      have g1 := Same.new (o := .lst [.ref Tl]) hA1
      have e1 : (L2.upd H A1 (.lst [.ref Tl])) A1 = some (.lst ([Tl].map V.ref)) := upd_same
      generalize L2.upd H A1 (.lst [.ref Tl]) = H1 at g1 e1
      refine ⟨Sm, A1, _, _, rfl, rfl, g1 _ _ hSm, e1, by rw [List.length_map, List.length_map, sizeLine_eq]; show _ + 1 ≤ _; omega, fun B1 hB1 => ?_⟩
      have g2 := Same.new (o := .lst (as.map V.ref ++ [Tl].map V.ref)) hB1
      have e2 : (L2.upd H1 B1 (.lst (as.map V.ref ++ [Tl].map V.ref))) B1 = some (.lst ((as ++ [Tl]).map V.ref)) := by rw [upd_same, List.map_append]
      generalize L2.upd H1 B1 (.lst (as.map V.ref ++ [Tl].map V.ref)) = H2 at g2 e2
      have s02 := Same.trans g1 g2
      have hT2 := hT.same s02
      have hL2 := hL.same s02
      have pS2 : Paired (fun a ts => SL H2 a ts) (as ++ [Tl]) (tss ++ [way]) := pair_app (paired_imp (fun _ _ e => e.same s02) pS) hT2
      have tb2 : TsB ws (tss ++ [way]) := tb.app (TsB.one (by omega) mw)
      have ls2 : (tss ++ [way]).length ≤ 121 := by rw [List.length_append]; show _ + 1 ≤ _; omega
      generalize tss ++ [way] = tss2 at pS2 tb2 ls2
      generalize as ++ [Tl] = as2 at pS2 e2
      have las2 : as2.length = tss2.length := paired_len pS2
      refine ⟨_, rfl, L, rfl, ⟨_, hL2.sq⟩, fun D1 hD1 => ?_⟩
      refine lc_list (K := K) (a := L) (xs := ws.map V.str) (fun j H' => Same H2 H' ∧ ∃ (ds : List Addr) (uss : List (List Str)), H' D1 = some (.lst (ds.map V.ref)) ∧ Paired (fun a ts => SL (cut [D1] H') a ts) ds uss ∧ TsB ws uss ∧ uss.length = j) ⟨Same.new hD1, [], [], upd_same, .nil, (fun t ht => by cases ht), rfl⟩ (fun m H' _ z => (hL2.same z.1).sq) ?_ ?_
      · rintro m v H8 hv ⟨s8, ds, uss, hD8, pd, td, ld⟩
        obtain ⟨z, hz, rfl⟩ := get_map hv
        have hm : m < ws.length := (List.getElem?_eq_some_iff.mp hz).1
        refine ⟨rfl, ?_⟩
        dsimp only [tYes]
        rw [if_pos rfl]
        refine ⟨_, rfl, _, rfl, by show 1 ≤ sizeLine; decide, fun e hE => ?_⟩
        have hc8 := hT2.same s8
        refine ⟨Tl, e, _, _, rfl, rfl, hc8.new hE, upd_same, by rw [List.length_map, sizeLine_eq]; show _ + 1 ≤ _; omega, fun e' hE' => ?_⟩
        have q1 := Same.new (o := .lst [.str z]) hE
        have q2 := Same.new (o := .lst (way.map V.str ++ [.str z])) hE'
        have q := Same.trans q1 q2
        have nD : e' ≠ D1 := fun h => by rw [h, q1 _ _ hD8] at hE'; cases hE'
        have lds := paired_len pd
        refine ⟨_, q _ _ hD8, by rw [List.length_map, lds, ld, sizeLine_eq]; omega, fun b u eb => ?_, ds ++ [e'], uss ++ [way ++ [z]], by rw [upd_same, List.map_append]; rfl, ?_, td.app (TsB.one (by rw [List.length_append]; show _ + 1 ≤ _; omega) fun y hy => ?_), by rw [List.length_append, ld]; rfl⟩
        · rw [upd_ne (ne_of_none eb hD1)]; exact q _ _ (s8 _ _ eb)
        · rw [cut_upd (by simp)]
          refine pair_app (paired_imp (fun _ _ z => z.same (cut_same q)) pd) ?_
          rw [SL, cut_out (by simpa using nD), upd_same, List.map_append]; rfl
        · rcases List.mem_append.mp hy with h2 | h2
          · exact mw y h2
          · rw [List.mem_singleton.mp h2]; exact List.mem_of_getElem? hz
      rintro H3 ⟨s23, ds, uss, hD3, pd, td, ld⟩
      rw [List.length_map] at ld
      have lds := paired_len pd
      refine ⟨B1, D1, _, _, rfl, rfl, s23 _ _ e2, hD3, by rw [List.length_map, List.length_map, sizeLine_eq]; omega, fun B2 hB2 => ?_⟩
      have g4 := Same.new (o := .lst (as2.map V.ref ++ ds.map V.ref)) hB2
      have e4 : (L2.upd H3 B2 (.lst (as2.map V.ref ++ ds.map V.ref))) B2 = some (.lst ((as2 ++ ds).map V.ref)) := by rw [upd_same, List.map_append]
      generalize L2.upd H3 B2 (.lst (as2.map V.ref ++ ds.map V.ref)) = H4 at g4 e4
      have s04 := Same.trans s02 (Same.trans s23 g4)
      have pS4 : Paired (fun a ts => SL H4 a ts) (as2 ++ ds) (tss2 ++ uss) := paired_cat (paired_imp (fun _ _ e => (e.same s23).same g4) pS2) (paired_imp (fun _ _ e => (e.same cut_le).same g4) pd)
      have tb4 : TsB ws (tss2 ++ uss) := tb2.app td
      have ls4 : (tss2 ++ uss).length ≤ 127 := by rw [List.length_append]; omega
      generalize tss2 ++ uss = tss4 at pS4 tb4 ls4
      generalize as2 ++ ds = as4 at pS4 e4
      have las4 : as4.length = tss4.length := paired_len pS4
      have hp4 := hp.same s04
      have hT4 := hT.same s04
      have hL4 := hL.same s04
      refine ⟨_, rfl, Tl, _, rfl, .inl hT4.sq, _, rfl, by rw [List.length_map]; omega, by rw [List.length_map]; omega, fun D2 hD2 => ?_⟩
      have nD2 := hp4.ne hD2
      refine lc_range (n := (way.map V.str).length) (fun i H' => But p H4 H' ∧ ∃ (t' : Int) (ds : List Addr) (uss : List (List Str)), Purse H' p t' ∧ t' ≤ t + i ∧ H' D2 = some (.lst (ds.map V.ref)) ∧ Paired (fun a ts => SL (cut [D2] H') a ts) ds uss ∧ TsB ws uss ∧ uss.length = i) ⟨(But.new hD2), t, [], [], hp4.new hD2, by omega, upd_same, .nil, (fun t ht => by cases ht), rfl⟩ ?_ ?_
      · rintro i H5 hi ⟨b45, t5, ds, uss, hp5, tt5, hD5, pd, td, ld⟩
        rw [List.length_map] at hi
        refine ⟨rfl, ?_⟩
        dsimp only [tYes]
        rw [if_pos rfl]
        refine ⟨p, L, Tl, i, ws, way, t5, rfl, rfl, rfl, rfl, hp5, b45 _ _ nL hL4, wok, b45 _ _ nT hT4, lw, mw, by omega, fun H6 R ts t6 b56 nR hR lts mts hp6 tt6 => ?_⟩
        have nRD : R ≠ D2 := fun e => by rw [e, hD5] at nR; cases nR
        have lds := paired_len pd
        refine ⟨_, b56 _ _ nD2 hD5, by rw [List.length_map, lds, ld, sizeLine_eq]; omega, fun c u n e => ?_, t6, ds ++ [R], uss ++ [ts], hp6.upd nD2.symm, by omega, by rw [upd_same, List.map_append]; rfl, ?_, td.app (TsB.one lts mts), by rw [List.length_append, ld]; rfl⟩
        · rw [upd_ne (ne_of_none e hD2)]; exact b56 _ _ n (b45 _ _ n e)
        · rw [cut_upd (by simp)]
          refine pair_app (paired_imp (fun a ts e => ?_) pd) (by rw [SL, cut_out (by simpa using nRD)]; exact hR)
          have n1 := sl_ne hp5 (e.same cut_le)
          obtain ⟨n2, e⟩ := cut_some e
          rw [SL, cut_out n2]; exact b56 _ _ n1 e
      rintro H5 ⟨b45, t5, ds2, uss2, hp5, tt5, hD5, pd2, td2, ld2⟩
      rw [List.length_map] at tt5 ld2
      have lds2 := paired_len pd2
      have nB2 : B2 ≠ p := ll_ne hp4 ⟨as4, e4, pS4⟩
      refine ⟨B2, D2, _, _, rfl, rfl, b45 _ _ nB2 e4, hD5, by rw [List.length_map, List.length_map, sizeLine_eq]; omega, fun B3 hB3 => ?_⟩
      have g6 := Same.new (o := .lst (as4.map V.ref ++ ds2.map V.ref)) hB3
      have e6 : (L2.upd H5 B3 (.lst (as4.map V.ref ++ ds2.map V.ref))) B3 = some (.lst ((as4 ++ ds2).map V.ref)) := by rw [upd_same, List.map_append]
      generalize L2.upd H5 B3 (.lst (as4.map V.ref ++ ds2.map V.ref)) = H6 at g6 e6
      have pS6 : Paired (fun a ts => SL H6 a ts) (as4 ++ ds2) (tss4 ++ uss2) := paired_cat (paired_imp (fun a _ e => SL.same (b45 _ _ (sl_ne hp4 e) e) g6) pS4) (paired_imp (fun _ _ e => (e.same cut_le).same g6) pd2)
      have tb6 : TsB ws (tss4 ++ uss2) := tb4.app td2
      have ls6 : (tss4 ++ uss2).length ≤ 170 := by rw [List.length_append]; omega
      generalize tss4 ++ uss2 = tss6 at pS6 tb6 ls6
      generalize as4 ++ ds2 = as6 at pS6 e6
      have las6 : as6.length = tss6.length := paired_len pS6
      have hp6 := hp5.same g6
      have hT6 : SL H6 Tl way := SL.same (b45 _ _ nT hT4) g6
      have b06 : But p H H6 := (But.of s04).trans (b45.trans (But.of g6))
      refine ⟨_, rfl, _, rfl, _, rfl, Tl, _, rfl, hT6.sq, fun c1 hc1 => ?_⟩
      rw [cutV_map]
      have m1 : ∀ x ∈ cutL way (some 1) none, x ∈ ws := fun x hx => mw x (cut_sub hx)
      have ll1 : (cutL way (some 1) none).length ≤ 38 := Nat.le_trans cutL_le lw
      generalize cutL way (some 1) none = x1 at m1 ll1
      have k1 := Same.new (o := .lst (x1.map V.str)) hc1
      have f1 : SL (L2.upd H6 c1 (.lst (x1.map V.str))) c1 x1 := upd_same
      generalize L2.upd H6 c1 (.lst (x1.map V.str)) = H7 at k1 f1
      refine ⟨_, rfl, _, rfl, _, rfl, Tl, _, rfl, (hT6.same k1).sq, fun c2 hc2 => ?_⟩
      rw [cutV_map]
      have m2 : ∀ x ∈ cutL way none (some (-1)), x ∈ ws := fun x hx => mw x (cut_sub hx)
      have ll2 : (cutL way none (some (-1))).length ≤ 38 := Nat.le_trans cutL_le lw
      generalize cutL way none (some (-1)) = x2 at m2 ll2
      have k2 := Same.new (o := .lst (x2.map V.str)) hc2
      have f2 : SL (L2.upd H7 c2 (.lst (x2.map V.str))) c2 x2 := upd_same
      generalize L2.upd H7 c2 (.lst (x2.map V.str)) = H8 at k2 f2
      have hT8 := hT6.same (Same.trans k1 k2)
      refine ⟨_, rfl, _, rfl, Tl, Tl, _, _, rfl, rfl, hT8, hT8, by rw [List.length_map, sizeLine_eq]; omega, fun c3 hc3 => ?_⟩
      have k3 := Same.new (o := .lst (way.map V.str ++ way.map V.str)) hc3
      have f3 : SL (L2.upd H8 c3 (.lst (way.map V.str ++ way.map V.str))) c3 (way ++ way) := by rw [SL, upd_same, List.map_append]
      generalize L2.upd H8 c3 (.lst (way.map V.str ++ way.map V.str)) = H9 at k3 f3
      refine ⟨_, rfl, c3, _, rfl, f3.sq, fun c4 hc4 => ?_⟩
      rw [cutV_map]
      have m4 : ∀ x ∈ cutL (way ++ way) none (some 40), x ∈ ws := fun x hx => (List.mem_append.mp (cut_sub hx)).elim (mw x) (mw x)
      have ll4 : (cutL (way ++ way) none (some 40)).length ≤ 76 := Nat.le_trans cutL_le (by rw [List.length_append]; omega)
      generalize cutL (way ++ way) none (some 40) = x4 at m4 ll4
      have k4 := Same.new (o := .lst (x4.map V.str)) hc4
      have f4 : SL (L2.upd H9 c4 (.lst (x4.map V.str))) c4 x4 := upd_same
      generalize L2.upd H9 c4 (.lst (x4.map V.str)) = H10 at k4 f4
      refine ⟨by show 3 ≤ sizeLine; decide, fun A3 hA3 => ?_⟩
      have k5 := Same.new (o := .lst [.ref c1, .ref c2, .ref c4]) hA3
      have f5 : (L2.upd H10 A3 (.lst [.ref c1, .ref c2, .ref c4])) A3 = some (.lst ([c1, c2, c4].map V.ref)) := upd_same
      generalize L2.upd H10 A3 (.lst [.ref c1, .ref c2, .ref c4]) = H11 at k5 f5
      have s611 := Same.trans k1 (Same.trans k2 (Same.trans k3 (Same.trans k4 k5)))
      refine ⟨B3, A3, _, _, rfl, rfl, s611 _ _ e6, f5, by rw [List.length_map, List.length_map, sizeLine_eq]; show _ + 3 ≤ _; omega, fun B4 hB4 => ?_⟩
      have k6 := Same.new (o := .lst (as6.map V.ref ++ [c1, c2, c4].map V.ref)) hB4
      have s612 := Same.trans s611 k6
      refine k _ B4 (tss6 ++ [x1, x2, x4]) t5 (b06.trans (But.of s612)) (hp6.same s612) (by omega) (LL.app upd_same (paired_imp (fun _ _ e => e.same s612) pS6) (.cons ?_ (.cons ?_ (.cons ?_ .nil)))) (tb6.app ?_) (by rw [List.length_append]; show _ + 3 ≤ _; omega)
      · exact f1.same (Same.trans k2 (Same.trans k3 (Same.trans k4 (Same.trans k5 k6))))
      · exact f2.same (Same.trans k3 (Same.trans k4 (Same.trans k5 k6)))
      · exact f4.same (Same.trans k5 k6)
      · intro ts hts
        rcases List.mem_cons.mp hts with e | hts
        · rw [e]; exact ⟨by omega, m1⟩
        rcases List.mem_cons.mp hts with e | hts
        · rw [e]; exact ⟨by omega, m2⟩
        · rw [List.mem_singleton.mp hts]; exact ⟨by omega, m4⟩
    case df1 =>
      rintro σ H Q ⟨W1, W2, q1, q2, L, A, B, bk, cl, st, st', ws, way, e1, e2, e3, e4, e11, e10, jd, o1, o2, hA, hB, lw, wd, k⟩
      refine ⟨_, e3, _, e4, _, e11, q1, q2, A, bk, cl, st, st', way, rfl, jd.two, o1, o2, hA, by omega, wd, fun H1 s1 => ?_⟩
      refine ⟨_, e1, _, e2, _, e10, W1, W2, B, bk, cl, st, st', way, rfl, jd.w1.same s1, jd.w2.same s1, o1, o2, hB.same s1, by omega, fun H2 s2 => ?_⟩
      refine ⟨_, _, rfl, bl_eqx _, fun H3 s3 => ⟨_, rfl, iteF ?_⟩⟩
      have s03 := Same.trans s1 (Same.trans s2 s3)
      refine ⟨_, e11, _, e10, dW way, dW way, dp_words (hA.same s03), dp_words (hB.same s03), sh_words wd, sh_words wd, _, rfl, ?_⟩
      rw [eq_words wd]
      exact k H3 s03
    case df2 =>
      rintro σ H Q ⟨W1, W2, q1, q2, L, A, B, bk, cl, st, st', ws, way, e1, e2, e3, e4, e11, e10, jd, o1, o2, hA, hB, lw, wd, k⟩
      refine ⟨_, e3, _, e4, _, e11, q1, q2, A, bk, cl, st, st', way, rfl, jd.two, o1, o2, hA, by omega, wd, fun H1 s1 => ?_⟩
      refine ⟨_, e1, _, e2, _, e10, W1, W2, B, bk, cl, st, st', way, rfl, jd.w1.same s1, jd.w2.same s1, o1, o2, hB.same s1, by omega, fun H2 s2 => ?_⟩
      exact ⟨_, _, rfl, bl_eqx _, fun H3 s3 => ⟨_, rfl, k H3 (Same.trans s1 (Same.trans s2 s3))⟩⟩
    have jdH : Jd C H W1 W2 q1 q2 L bk cl st st' ws := jd.same cut_le
    have lw6 := wok.hi
    have nL := sl_ne hp jdH.wl
    refine ⟨_, rfl, L, ws, rfl, jdH.wl, fun n n0 n3 => ?_⟩
    refine ⟨L, ws, n, rfl, jdH.wl, by omega, n0, n3, fun H1 R tss s1 nR hLL tok lt => ?_⟩
    obtain ⟨as, hR, pS⟩ := hLL
    refine ⟨_, rfl, R, _, rfl, SqL.of hR, fun Sm hSm => ?_⟩
    rw [show cutV (as.map V.ref) none (some 120) = (as.take 120).map V.ref from (cutL_to (as.map V.ref) (by decide)).trans (List.map_take ..).symm]
    have g2 := Same.new (o := .lst ((as.take 120).map V.ref)) hSm
    have e2 : (L2.upd H1 Sm (.lst ((as.take 120).map V.ref))) Sm = some (.lst ((as.take 120).map V.ref)) := upd_same
    generalize L2.upd H1 Sm (.lst ((as.take 120).map V.ref)) = H2 at g2 e2
    have s02 := Same.trans s1 g2
    have hp2 := hp.same s02
    have b02 : But p H H2 := But.of s02
    have jd2 := jdH.same s02
    have hLS : LL H2 Sm (tss.take 120) := ⟨as.take 120, e2, paired_imp (fun _ _ e => e.same g2) (paired_take 120 pS)⟩
    refine ⟨p, L, Sm, v, ws, tss.take 120, t, _, _, _, _, rfl, hp2, jd2.wl, wok, ht.but hp b02, hLS, fun ts hts => ?_, by rw [List.length_take]; omega, by omega, fun H3 Sm' tss' t3 b23 hp3 tt3 hL3 tb3 lt3 => ?_⟩
    · have := tok ts (List.mem_of_mem_take hts)
      exact ⟨by omega, this.2⟩
    have b03 := b02.trans b23
    have jd3 : Jd C H3 W1 W2 q1 q2 L bk cl st st' ws := (jd.same (cut_but b03 (by simp))).same cut_le
    refine ⟨40, rfl, by decide, by decide, fun D hD => ?_⟩
    have nD := hp3.ne hD
    refine lc_range (n := 40) (fun i H' => But p H3 H' ∧ ∃ (t' : Int) (zs : List Str), Purse H' p t' ∧ t' ≤ t3 + i ∧ SL H' D zs ∧ zs.length = i ∧ ∀ x ∈ zs, x ∈ ws) ⟨But.new hD, t3, [], hp3.new hD, by omega, upd_same, rfl, (fun x hx => by cases hx)⟩ ?_ ?_
    · rintro i H4 hi ⟨b34, t4, zs, hp4, tt4, hD4, lz, mz⟩
      refine ⟨rfl, ?_⟩
      dsimp only [tYes]
      rw [if_pos rfl]
      refine ⟨p, L, ws, t4, rfl, rfl, hp4, b34 _ _ nL jd3.wl, wok, by omega, fun x H5 t5 mx b45 hp5 tt5 => ?_⟩
      refine ⟨_, b45 _ _ nD hD4, by rw [List.length_map, sizeLine_eq]; omega, fun c u n e => ?_, t5, zs ++ [x], hp5.upd nD.symm, by omega, by rw [SL, upd_same, List.map_append]; rfl, by rw [List.length_append, lz]; rfl, fun y hy => ?_⟩
      · rw [upd_ne (ne_of_none e hD)]; exact b45 _ _ n (b34 _ _ n e)
      · rcases List.mem_append.mp hy with z | z
        · exact mz y z
        · rw [List.mem_singleton.mp z]; exact mx
    rintro H4 ⟨b34, t4, zs, hp4, tt4, hD4, lz, mz⟩
    have hL4 := hL3.but hp3 b34
    have b04 := b03.trans b34
    have jd4 : Jd C H4 W1 W2 q1 q2 L bk cl st st' ws := (jd.same (cut_but b04 (by simp))).same cut_le
    obtain ⟨as4, e4, pS4⟩ := hL4
    have las4 : as4.length = tss'.length := paired_len pS4
    refine ⟨_, rfl, _, rfl, _, rfl, _, rfl, D, _, rfl, hD4.sq, fun c hc => ?_⟩
    rw [cutV_map]
    have m1 : ∀ x ∈ cutL zs none (some 12), x ∈ ws := fun x hx => mz x (cut_sub hx)
    have ll1 : (cutL zs none (some 12)).length ≤ 40 := Nat.le_trans cutL_le (by omega)
    generalize cutL zs none (some 12) = x1 at m1 ll1
    have k1 := Same.new (o := .lst (x1.map V.str)) hc
    have f1 : SL (L2.upd H4 c (.lst (x1.map V.str))) c x1 := upd_same
    generalize L2.upd H4 c (.lst (x1.map V.str)) = H5 at k1 f1
    refine ⟨by show 2 ≤ sizeLine; decide, fun A hA => ?_⟩
    have k2 := Same.new (o := .lst [.ref D, .ref c]) hA
    have f2 : (L2.upd H5 A (.lst [.ref D, .ref c])) A = some (.lst ([D, c].map V.ref)) := upd_same
    generalize L2.upd H5 A (.lst [.ref D, .ref c]) = H6 at k2 f2
    have s46 := Same.trans k1 k2
    refine ⟨Sm', A, _, _, rfl, rfl, s46 _ _ e4, f2, by rw [List.length_map, List.length_map, sizeLine_eq]; show _ + 2 ≤ _; omega, fun B hB => ?_⟩
    have k3 := Same.new (o := .lst (as4.map V.ref ++ [D, c].map V.ref)) hB
    have s47 := Same.trans s46 k3
    have f3 : LL (L2.upd H6 B (.lst (as4.map V.ref ++ [D, c].map V.ref))) B (tss' ++ [zs, x1]) := LL.app upd_same (paired_imp (fun _ _ e => e.same s47) pS4) (.cons (hD4.same s47) (.cons (f1.same (Same.trans k2 k3)) .nil))
    generalize L2.upd H6 B (.lst (as4.map V.ref ++ [D, c].map V.ref)) = H7 at k3 f3 s47
    have tb7 : TsB ws (tss' ++ [zs, x1]) := tb3.app fun ts hts => by
      rcases List.mem_cons.mp hts with e | hts
      · rw [e]; exact ⟨by omega, mz⟩
      · rw [List.mem_singleton.mp hts]; exact ⟨by omega, m1⟩
    generalize tss' ++ [zs, x1] = tss7 at f3 tb7
    obtain ⟨as7, e7, pS7⟩ := f3
    have jd7 := jd4.same s47
    have hp7 := hp4.same s47
    have b07 := b04.trans (But.of s47)
    refine ⟨B, rfl, ⟨_, SqL.of e7⟩, ?_⟩
    refine for_list (K := K) (a := B) (xs := as7.map V.ref) (fun j σ H' => ∃ (v10 v11 : Option V), σ = [some (.ref p), some (.ref W1), some (.ref W2), some (.ref q1), some (.ref q2), some (.ref L), some v, some (.ref Sm'), none, some (.ref D), v10, v11, none, none, none, none] ∧ Same H7 H') ⟨none, none, rfl, Same.refl _⟩ (fun j σ H' _ ⟨_, _, _, z⟩ => SqL.of (z _ _ e7)) ?_ ?_
    · rintro j x σ H8 hx ⟨v10, v11, rfl, s8⟩
      obtain ⟨Ax, hAx, rfl⟩ := get_map hx
      obtain ⟨ts, hts, hS⟩ := D1.paired_get pS7 hAx
      obtain ⟨lts, mts⟩ := tb7 ts (List.mem_of_getElem? hts)
      have hS8 := hS.same s8
      refine ⟨_, rfl, Ax, _, rfl, .inl hS8.sq, fun l hl => ?_⟩
      have k4 := Same.new (o := .lst (ts.map V.str)) hl
      have f4 : SL (L2.upd H8 l (.lst (ts.map V.str))) l ts := upd_same
      generalize L2.upd H8 l (.lst (ts.map V.str)) = H9 at k4 f4
      have s79 := Same.trans s8 k4
      exact ⟨W1, W2, q1, q2, L, l, Ax, bk, cl, st, st', ws, ts, rfl, rfl, rfl, rfl, rfl, rfl, jd7.same s79, o1, o2, f4, hS8.same k4, lts, fun x hx => wok.wd x (mts x hx), fun H10 s10 => iteF ⟨_, _, rfl, Same.trans s79 s10⟩⟩
    rintro σ H8 ⟨v10, v11, rfl, s8⟩
    have jd8 := jd7.same s8
    have hp8 := hp7.same s8
    have b08 := b07.trans (But.of s8)
    refine ⟨by show 0 ≤ sizeLine; decide, fun G hG => ?_⟩
    have nG := hp8.ne hG
    have k5 := Same.new (o := .lst []) hG
    have f5 : SL (L2.upd H8 G (.lst [])) G [] := upd_same
    have hp9 := hp8.new (o := .lst []) hG
    generalize L2.upd H8 G (.lst []) = H9 at k5 f5 hp9
    refine ⟨6, rfl, by decide, by decide, ?_⟩
    refine for_range (n := 6) (fun i σ H' => ∃ (v8 : Option V) (t' : Int) (zs : List Str), σ = [some (.ref p), some (.ref W1), some (.ref W2), some (.ref q1), some (.ref q2), some (.ref L), some v, some (.ref Sm'), v8, some (.ref D), v10, v11, some (.ref G), none, none, none] ∧ But p H8 H' ∧ Purse H' p t' ∧ t' ≤ t4 + i ∧ SL H' G zs ∧ zs.length = i ∧ ∀ x ∈ zs, x ∈ ws)
      ⟨none, t4, [], rfl, But.of k5, hp9, by omega, f5, rfl, (fun x hx => by cases hx)⟩ ?_ ?_
    · rintro i σ H10 hi ⟨v8, t10, zs2, rfl, b810, hp10, tt10, hG10, lz2, mz2⟩
      have jd10 : Jd C H10 W1 W2 q1 q2 L bk cl st st' ws := (jd.same (cut_but (b08.trans b810) (by simp))).same cut_le
      refine ⟨W1, W2, q1, q2, L, G, G, bk, cl, st, st', ws, zs2, rfl, rfl, rfl, rfl, rfl, rfl, jd10, o1, o2, hG10, hG10, by omega, fun x hx => wok.wd x (mz2 x hx), fun H11 s11 => iteF ?_⟩
      have hp11 := hp10.same s11
      have hG11 := hG10.same s11
      have l1 := wok.lo
      refine ⟨_, rfl, .inl ⟨rfl, _, hG11.sq⟩, _, rfl, _, rfl, p, L, _, t10, rfl, hp11, (jd10.same s11).wl, nL, by rw [List.length_map]; omega, by rw [List.length_map]; omega, by omega, fun j v12 t12 o12 hj tt12 hp12 => ?_⟩
      obtain ⟨x, hx, rfl⟩ := get_map hj
      have b1112 := But.upd p H11 o12
      generalize L2.upd H11 p o12 = H12 at b1112 hp12
      refine ⟨G, _, _, rfl, rfl, b1112 _ _ nG hG11, by rw [List.length_map, sizeLine_eq]; omega, ?_⟩
      refine ⟨_, t12, zs2 ++ [x], rfl, fun c u n e => ?_, hp12.upd nG.symm, by omega, by rw [SL, upd_same, List.map_append]; rfl, by rw [List.length_append, lz2]; rfl, fun y hy => ?_⟩
      · rw [upd_ne (ne_of_none e hG)]; exact b1112 _ _ n (s11 _ _ (b810 _ _ n e))
      · rcases List.mem_append.mp hy with z | z
        · exact mz2 y z
        · rw [List.mem_singleton.mp z]; exact List.mem_of_getElem? hx
    rintro σ H10 ⟨v8, t10, zs2, rfl, b810, hp10, tt10, hG10, lz2, mz2⟩
    have b010 := b08.trans b810
    have jd10 : Jd C H10 W1 W2 q1 q2 L bk cl st st' ws := (jd.same (cut_but b010 (by simp))).same cut_le
    have sx : Same H10 H10 := Same.refl _
    have jd := jd10
    refine fun a5 ha5 => ?_
    have g := Same.new (o := .dK []) ha5
    have ea5 : (L2.upd H10 a5 (.dK [])) a5 = some (.dK []) := upd_same
    generalize L2.upd H10 a5 (.dK []) = X100 at g ea5
    have jd := jd.same g
    have sx := Same.trans sx g
    refine ⟨by show 0 ≤ sizeLine; decide, fun a6 ha6 => ?_⟩
    have g := Same.new (o := .tup []) ha6
    have ea6 : (L2.upd X100 a6 (.tup [])) a6 = some (.tup []) := upd_same
    generalize L2.upd X100 a6 (.tup []) = X101 at g ea6
    have ea5 := g _ _ ea5
    have jd := jd.same g
    have sx := Same.trans sx g
    refine ⟨_, rfl, _, rfl, by show 1 ≤ sizeLine; decide, fun a8 ha8 => ?_⟩
    have g := Same.new (o := .lst [.ref q1]) ha8
    have ea8 : (L2.upd X101 a8 (.lst [.ref q1])) a8 = some (.lst [.ref q1]) := upd_same
    generalize L2.upd X101 a8 (.lst [.ref q1]) = X102 at g ea8
    have ea5 := g _ _ ea5
    have ea6 := g _ _ ea6
    have jd := jd.same g
    have sx := Same.trans sx g
    refine ⟨by show 1 ≤ sizeLine; decide, fun a9 ha9 => ?_⟩
    have g := Same.new (o := .tup [.str "a"]) ha9
    have ea9 : (L2.upd X102 a9 (.tup [.str "a"])) a9 = some (.tup [.str "a"]) := upd_same
    generalize L2.upd X102 a9 (.tup [.str "a"]) = X103 at g ea9
    have ea5 := g _ _ ea5
    have ea6 := g _ _ ea6
    have ea8 := g _ _ ea8
    have jd := jd.same g
    have sx := Same.trans sx g
    refine ⟨by show 1 ≤ sizeLine; decide, fun a10 ha10 => ?_⟩
    have g := Same.new (o := .lst [.non]) ha10
    have ea10 : (L2.upd X103 a10 (.lst [.non])) a10 = some (.lst [.non]) := upd_same
    generalize L2.upd X103 a10 (.lst [.non]) = X104 at g ea10
    have ea5 := g _ _ ea5
    have ea6 := g _ _ ea6
    have ea8 := g _ _ ea8
    have ea9 := g _ _ ea9
    have jd := jd.same g
    have sx := Same.trans sx g
    refine ⟨by show 1 ≤ sizeLine; decide, fun a11 ha11 => ?_⟩
    have g := Same.new (o := .lst [.int 5]) ha11
    have ea11 : (L2.upd X104 a11 (.lst [.int 5])) a11 = some (.lst [.int 5]) := upd_same
    generalize L2.upd X104 a11 (.lst [.int 5]) = X105 at g ea11
    have ea5 := g _ _ ea5
    have ea6 := g _ _ ea6
    have ea8 := g _ _ ea8
    have ea9 := g _ _ ea9
    have ea10 := g _ _ ea10
    have jd := jd.same g
    have sx := Same.trans sx g
    refine ⟨by show 0 ≤ sizeLine; decide, fun a12 ha12 => ?_⟩
    have g := Same.new (o := .lst []) ha12
    have ea12 : (L2.upd X105 a12 (.lst [])) a12 = some (.lst []) := upd_same
    generalize L2.upd X105 a12 (.lst []) = X106 at g ea12
    have ea5 := g _ _ ea5
    have ea6 := g _ _ ea6
    have ea8 := g _ _ ea8
    have ea9 := g _ _ ea9
    have ea10 := g _ _ ea10
    have ea11 := g _ _ ea11
    have jd := jd.same g
    have sx := Same.trans sx g
    refine ⟨by show 1 ≤ sizeLine; decide, fun a13 ha13 => ?_⟩
    have g := Same.new (o := .lst [.ref a12]) ha13
    have ea13 : (L2.upd X106 a13 (.lst [.ref a12])) a13 = some (.lst [.ref a12]) := upd_same
    generalize L2.upd X106 a13 (.lst [.ref a12]) = X107 at g ea13
    have ea5 := g _ _ ea5
    have ea6 := g _ _ ea6
    have ea8 := g _ _ ea8
    have ea9 := g _ _ ea9
    have ea10 := g _ _ ea10
    have ea11 := g _ _ ea11
    have ea12 := g _ _ ea12
    have jd := jd.same g
    have sx := Same.trans sx g
    refine ⟨by show 1 ≤ sizeLine; decide, fun a14 ha14 => ?_⟩
    have g := Same.new (o := .lst [.str ""]) ha14
    have ea14 : (L2.upd X107 a14 (.lst [.str ""])) a14 = some (.lst [.str ""]) := upd_same
    generalize L2.upd X107 a14 (.lst [.str ""]) = X108 at g ea14
    have ea5 := g _ _ ea5
    have ea6 := g _ _ ea6
    have ea8 := g _ _ ea8
    have ea9 := g _ _ ea9
    have ea10 := g _ _ ea10
    have ea11 := g _ _ ea11
    have ea12 := g _ _ ea12
    have ea13 := g _ _ ea13
    have jd := jd.same g
    have sx := Same.trans sx g
    refine ⟨by show 1 ≤ sizeLine; decide, fun a15 ha15 => ?_⟩
    have g := Same.new (o := .lst [.str "Ab"]) ha15
    have ea15 : (L2.upd X108 a15 (.lst [.str "Ab"])) a15 = some (.lst [.str "Ab"]) := upd_same
    generalize L2.upd X108 a15 (.lst [.str "Ab"]) = X109 at g ea15
    have ea5 := g _ _ ea5
    have ea6 := g _ _ ea6
    have ea8 := g _ _ ea8
    have ea9 := g _ _ ea9
    have ea10 := g _ _ ea10
    have ea11 := g _ _ ea11
    have ea12 := g _ _ ea12
    have ea13 := g _ _ ea13
    have ea14 := g _ _ ea14
    have jd := jd.same g
    have sx := Same.trans sx g
    refine ⟨by show 1 ≤ sizeLine; decide, fun a16 ha16 => ?_⟩
    have g := Same.new (o := .tup [.str "a"]) ha16
    have ea16 : (L2.upd X109 a16 (.tup [.str "a"])) a16 = some (.tup [.str "a"]) := upd_same
    generalize L2.upd X109 a16 (.tup [.str "a"]) = X110 at g ea16
    have ea5 := g _ _ ea5
    have ea6 := g _ _ ea6
    have ea8 := g _ _ ea8
    have ea9 := g _ _ ea9
    have ea10 := g _ _ ea10
    have ea11 := g _ _ ea11
    have ea12 := g _ _ ea12
    have ea13 := g _ _ ea13
    have ea14 := g _ _ ea14
    have ea15 := g _ _ ea15
    have jd := jd.same g
    have sx := Same.trans sx g
    refine ⟨by show 1 ≤ sizeLine; decide, fun a17 ha17 => ?_⟩
    have g := Same.new (o := .lst [.ref a16]) ha17
    have ea17 : (L2.upd X110 a17 (.lst [.ref a16])) a17 = some (.lst [.ref a16]) := upd_same
    generalize L2.upd X110 a17 (.lst [.ref a16]) = X111 at g ea17
    have ea5 := g _ _ ea5
    have ea6 := g _ _ ea6
    have ea8 := g _ _ ea8
    have ea9 := g _ _ ea9
    have ea10 := g _ _ ea10
    have ea11 := g _ _ ea11
    have ea12 := g _ _ ea12
    have ea13 := g _ _ ea13
    have ea14 := g _ _ ea14
    have ea15 := g _ _ ea15
    have ea16 := g _ _ ea16
    have jd := jd.same g
    have sx := Same.trans sx g
    refine fun a18 ha18 => ⟨upd_same, [((Sum.inr "a", .int 1) : Key × V)], rfl, by show 1 ≤ 15; decide, ?_⟩
    rw [updd2]
    skip
    have g := Same.new (o := .dK (mergeK [] [((Sum.inr "a", .int 1) : Key × V)])) ha18
    have ea18 : (L2.upd X111 a18 (.dK (mergeK [] [((Sum.inr "a", .int 1) : Key × V)]))) a18 = some (.dK (mergeK [] [((Sum.inr "a", .int 1) : Key × V)])) := upd_same
    generalize L2.upd X111 a18 (.dK (mergeK [] [((Sum.inr "a", .int 1) : Key × V)])) = X112 at g ea18
    have ea5 := g _ _ ea5
    have ea6 := g _ _ ea6
    have ea8 := g _ _ ea8
    have ea9 := g _ _ ea9
    have ea10 := g _ _ ea10
    have ea11 := g _ _ ea11
    have ea12 := g _ _ ea12
    have ea13 := g _ _ ea13
    have ea14 := g _ _ ea14
    have ea15 := g _ _ ea15
    have ea16 := g _ _ ea16
    have ea17 := g _ _ ea17
    have jd := jd.same g
    have sx := Same.trans sx g
    refine ⟨_, rfl, L, _, rfl, .inl ⟨jd.wl.sq, fun a19 ha19 => ?_⟩⟩
    have g := Same.new (o := .tup (ws.map V.str)) ha19
    have ea19 : (L2.upd X112 a19 (.tup (ws.map V.str))) a19 = some (.tup (ws.map V.str)) := upd_same
    generalize L2.upd X112 a19 (.tup (ws.map V.str)) = X113 at g ea19
    have ea5 := g _ _ ea5
    have ea6 := g _ _ ea6
    have ea8 := g _ _ ea8
    have ea9 := g _ _ ea9
    have ea10 := g _ _ ea10
    have ea11 := g _ _ ea11
    have ea12 := g _ _ ea12
    have ea13 := g _ _ ea13
    have ea14 := g _ _ ea14
    have ea15 := g _ _ ea15
    have ea16 := g _ _ ea16
    have ea17 := g _ _ ea17
    have ea18 := g _ _ ea18
    have jd := jd.same g
    have sx := Same.trans sx g
    refine ⟨⟨_, rfl⟩, _, rfl, _, L, ws, rfl, rfl, .inl jd.wl.sq, joinz wok, ?_⟩
    refine ⟨_, rfl, by show 1 ≤ sizeLine; decide, fun a20 ha20 => ?_⟩
    have g := Same.new (o := .lst [.ref L]) ha20
    have ea20 : (L2.upd X113 a20 (.lst [.ref L])) a20 = some (.lst [.ref L]) := upd_same
    generalize L2.upd X113 a20 (.lst [.ref L]) = X114 at g ea20
    have ea5 := g _ _ ea5
    have ea6 := g _ _ ea6
    have ea8 := g _ _ ea8
    have ea9 := g _ _ ea9
    have ea10 := g _ _ ea10
    have ea11 := g _ _ ea11
    have ea12 := g _ _ ea12
    have ea13 := g _ _ ea13
    have ea14 := g _ _ ea14
    have ea15 := g _ _ ea15
    have ea16 := g _ _ ea16
    have ea17 := g _ _ ea17
    have ea18 := g _ _ ea18
    have ea19 := g _ _ ea19
    have jd := jd.same g
    have sx := Same.trans sx g
    refine ⟨by show 19 ≤ sizeLine; decide, fun Bn hBn => ?_⟩
    have g := Same.new (o := .lst [.non, .int 5, .bl true, .str "", .ref a5, .ref a6, .ref q1, .ref a8, .ref a9, .ref a10, .ref a11, .ref a13, .ref a14, .ref a15, .ref a17, .ref a18, .ref a19, .str (Txt.join "" ws), .ref a20]) hBn
    have eBn : (L2.upd X114 Bn (.lst [.non, .int 5, .bl true, .str "", .ref a5, .ref a6, .ref q1, .ref a8, .ref a9, .ref a10, .ref a11, .ref a13, .ref a14, .ref a15, .ref a17, .ref a18, .ref a19, .str (Txt.join "" ws), .ref a20])) Bn = some (.lst [.non, .int 5, .bl true, .str "", .ref a5, .ref a6, .ref q1, .ref a8, .ref a9, .ref a10, .ref a11, .ref a13, .ref a14, .ref a15, .ref a17, .ref a18, .ref a19, .str (Txt.join "" ws), .ref a20]) := upd_same
    generalize L2.upd X114 Bn (.lst [.non, .int 5, .bl true, .str "", .ref a5, .ref a6, .ref q1, .ref a8, .ref a9, .ref a10, .ref a11, .ref a13, .ref a14, .ref a15, .ref a17, .ref a18, .ref a19, .str (Txt.join "" ws), .ref a20]) = X115 at g eBn
    have ea5 := g _ _ ea5
    have ea6 := g _ _ ea6
    have ea8 := g _ _ ea8
    have ea9 := g _ _ ea9
    have ea10 := g _ _ ea10
    have ea11 := g _ _ ea11
    have ea12 := g _ _ ea12
    have ea13 := g _ _ ea13
    have ea14 := g _ _ ea14
    have ea15 := g _ _ ea15
    have ea16 := g _ _ ea16
    have ea17 := g _ _ ea17
    have ea18 := g _ _ ea18
    have ea19 := g _ _ ea19
    have ea20 := g _ _ ea20
    have jd := jd.same g
    have sx := Same.trans sx g
    obtain ⟨dx1, bb1, eq1, _⟩ := id jd.two.1
    have odd : ∀ v ∈ ([.non, .int 5, .bl true, .str "", .ref a5, .ref a6, .ref q1, .ref a8, .ref a9, .ref a10, .ref a11, .ref a13, .ref a14, .ref a15, .ref a17, .ref a18, .ref a19, .str (Txt.join "" ws), .ref a20] : List V), OddV K X115 v := fun v hv => by
      rcases List.mem_cons.mp hv with e | hv
      · rw [e]; exact .inl ⟨_, .base .non, kit_ty (by decide +kernel)⟩
      rcases List.mem_cons.mp hv with e | hv
      · rw [e]; exact .inl ⟨_, .base (.int _), kit_ty (by decide +kernel)⟩
      rcases List.mem_cons.mp hv with e | hv
      · rw [e]; exact .inl ⟨_, .base (.bl _), kit_ty (by decide +kernel)⟩
      rcases List.mem_cons.mp hv with e | hv
      · rw [e]; exact .inl ⟨_, .base (.str _), kit_ty (by decide +kernel)⟩
      rcases List.mem_cons.mp hv with e | hv
      · rw [e]; exact .inl ⟨_, .base (.dK ea5), kit_ty (by decide +kernel)⟩
      rcases List.mem_cons.mp hv with e | hv
      · rw [e]; exact .inl ⟨_, .base (.tup ea6), kit_ty (by decide +kernel)⟩
      rcases List.mem_cons.mp hv with e | hv
      · rw [e]; exact .inl ⟨_, .base (.ins eq1 OC.ins.cl OC.ins.ha OC.ins.hn OC.ins.htk OC.ins.hm), OC.nl⟩
      rcases List.mem_cons.mp hv with e | hv
      · rw [e]; exact .inr ⟨a8, _, rfl, ea8, .inl ⟨_, .base (.ins eq1 OC.ins.cl OC.ins.ha OC.ins.hn OC.ins.htk OC.ins.hm), OC.ns⟩⟩
      rcases List.mem_cons.mp hv with e | hv
      · rw [e]; exact .inl ⟨_, .base (.tup ea9), kit_ty (by decide +kernel)⟩
      rcases List.mem_cons.mp hv with e | hv
      · rw [e]; exact .inr ⟨a10, _, rfl, ea10, .inl ⟨_, .base .non, kit_ty (by decide +kernel)⟩⟩
      rcases List.mem_cons.mp hv with e | hv
      · rw [e]; exact .inr ⟨a11, _, rfl, ea11, .inl ⟨_, .base (.int _), kit_ty (by decide +kernel)⟩⟩
      rcases List.mem_cons.mp hv with e | hv
      · rw [e]; exact .inr ⟨a13, _, rfl, ea13, .inl ⟨_, .base (.lst ea12), kit_ty (by decide +kernel)⟩⟩
      rcases List.mem_cons.mp hv with e | hv
      · rw [e]; exact .inr ⟨a14, _, rfl, ea14, .inr ⟨_, rfl, .inl (by decide +kernel)⟩⟩
      rcases List.mem_cons.mp hv with e | hv
      · rw [e]; exact .inr ⟨a15, _, rfl, ea15, .inr ⟨_, rfl, .inr (by decide +kernel)⟩⟩
      rcases List.mem_cons.mp hv with e | hv
      · rw [e]; exact .inr ⟨a17, _, rfl, ea17, .inl ⟨_, .base (.tup ea16), kit_ty (by decide +kernel)⟩⟩
      rcases List.mem_cons.mp hv with e | hv
      · rw [e]; exact .inl ⟨_, .base (.dK ea18), kit_ty (by decide +kernel)⟩
      rcases List.mem_cons.mp hv with e | hv
      · rw [e]; exact .inl ⟨_, .base (.tup ea19), kit_ty (by decide +kernel)⟩
      rcases List.mem_cons.mp hv with e | hv
      · rw [e]; exact .inl ⟨_, .base (.str _), kit_ty (by decide +kernel)⟩
      · rw [List.mem_singleton.mp hv]; exact .inr ⟨a20, _, rfl, ea20, .inl ⟨_, .base (.lst jd.wl), kit_ty (by decide +kernel)⟩⟩
    have b0x := b010.trans (But.of sx)
    have hpx := hp10.same sx
    have lv : ([.non, .int 5, .bl true, .str "", .ref a5, .ref a6, .ref q1, .ref a8, .ref a9, .ref a10, .ref a11, .ref a13, .ref a14, .ref a15, .ref a17, .ref a18, .ref a19, .str (Txt.join "" ws), .ref a20] : List V).length ≤ 19 := Nat.le_refl _
    generalize ([.non, .int 5, .bl true, .str "", .ref a5, .ref a6, .ref q1, .ref a8, .ref a9, .ref a10, .ref a11, .ref a13, .ref a14, .ref a15, .ref a17, .ref a18, .ref a19, .str (Txt.join "" ws), .ref a20] : List V) = vals at odd eBn lv
    refine ⟨_, rfl, Bn, rfl, ⟨_, SqL.of eBn⟩, fun D2 hD2 => ?_⟩
    refine lc_list (K := K) (a := Bn) (xs := vals) (fun i H' => Same X115 H' ∧ H' D2 = some (.lst ((List.replicate i true).map V.bl))) ⟨Same.new hD2, upd_same⟩ (fun i H' _ z => SqL.of (z.1 _ _ eBn)) ?_ ?_
    · rintro i v H2 hx ⟨s2, hD⟩
      have li := (List.getElem?_eq_some_iff.mp hx).1
      refine ⟨rfl, ?_⟩
      dsimp only [tYes]
      rw [if_pos rfl]
      refine ⟨_, rfl, _, rfl, _, rfl, q1, q2, v, bk, cl, st, st', rfl, jd.two.same s2, o1, o2, (odd v (List.mem_of_getElem? hx)).same s2, fun H3 s3 => ⟨_, _, rfl, rfl, _, s3 _ _ hD, by rw [List.length_map, List.length_replicate, sizeLine_eq]; omega, fun c u e => ?_, by rw [upd_same, ← repl_snoc]; rfl⟩⟩
      rw [upd_ne (ne_of_none e hD2)]; exact s3 _ _ (s2 _ _ e)
    rintro H2 ⟨s2, hD⟩
    refine ⟨D2, _, rfl, SqL.of hD, ?_⟩
    rw [all_true]
    exact k H2 t10 (b0x.trans (But.of s2)) (hpx.same s2) (by omega)
end
end D1
end L2
/-! the law's _law_turns_right -/
namespace L2
namespace D1
open PySem PySem.Spec PyProof.Rows D2 X5 X6
abbrev sTurnsR : Stmt := top 70
theorem talk_none {nx : Pr → List (Str × Pr)} {p : Pr} {q : Pr → Prop} (h : farPE nx q p = none) : talkPE nx p q = none := by unfold talkPE; rw [h]; rfl
theorem talk_some {nx : Pr → List (Str × Pr)} {p : Pr} {q : Pr → Prop} {n : Nat} (h : farPE nx q p = some n) : talkPE nx p q = some (wayPE nx q n p) := by unfold talkPE; rw [h]; rfl
def spTurnsR (C : Addr) : Sp := fun vs H Q _ => ∃ (p W1 W2 q1 q2 L : Addr) (bk cl : Bk) (st st' : Str) (ws : List Str) (t : Int), vs = [.ref p, .ref W1, .ref W2, .ref L, .ref q1, .ref q2] ∧ Purse H p t ∧ Jd C (cut [p] H) W1 W2 q1 q2 L bk cl st st' ws ∧ WF bk st ws ∧ WF cl st' ws ∧ WsOk ws ∧ t < 2 ^ 24 ∧
  ∀ (H' : Hp) (t' : Int), But p H H' → Purse H' p t' → t' ≤ t + 1600 → Q (.bl true) H'
theorem desk_cut {C p q : Addr} {H : Hp} {bk : Bk} {st : Str} {t : Int} (hp : Purse H p t) (h : DeskAt C H q bk st) : DeskAt C (cut [p] H) q bk st := by
  obtain ⟨g, b', z, ep, _⟩ := hp
  have out : ∀ {c : Addr} {u : HO}, H c = some u → (∀ i r, u ≠ .lst (.int i :: r)) → cut [p] H c = some u := fun {c u} e n => by
    rw [cut_out]
    · exact e
    · intro m
      rw [List.mem_singleton.mp m, ep] at e
      exact n _ _ (Option.some.inj e).symm
  obtain ⟨dx, b, e, kvs, hr, r⟩ := h
  refine ⟨dx, b, out e (fun i r q => by cases q), kvs, ?_, paired_imp (fun kv x ⟨e1, t, a, ev, ht, ha⟩ => ⟨e1, t, a, ev, out ht (fun i r q => by cases q), out ha (fun i r q => by cases q)⟩) r⟩
  rcases hr with hr | ⟨o, hr⟩
  · exact .inl (out hr (fun i r q => by cases q))
  · exact .inr ⟨o, out hr (fun i r q => by cases q)⟩
theorem desk_but {C p q : Addr} {H H' : Hp} {bk : Bk} {st : Str} {t : Int} (hp : Purse H p t) (h : DeskAt C H q bk st) (b : But p H H') : DeskAt C H' q bk st := ((desk_cut hp h).same (cut_but b (by simp))).same cut_le
section
variable {P : Program} {w : World} {K : PySem.W.Frag} {mg : Str → Option Value} {base : Heap} {C : Addr}
abbrev CUnfit (P : Program) (w : World) (K : PySem.W.Frag) (mg : Str → Option Value) (base : Heap) (C : Addr) := Cal P w K mg base "unfit_talk" 6 ["elder", "newer"] (spUnfit C)
abbrev CLeastU (P : Program) (w : World) (K : PySem.W.Frag) (mg : Str → Option Value) (base : Heap) := Cal P w K mg base "_law_least_unfit" 2 ["_law_elder", "_law_newer_here"] spLeastU
abbrev CLDesk (P : Program) (w : World) (K : PySem.W.Frag) (mg : Str → Option Value) (base : Heap) (C : Addr) := Cal P w K mg base "_law_desk" 6 ["_law_world_here"] (spLDesk C)
abbrev trN : List Str := ["_law_purse_here", "_law_elder", "_law_newer_here", "_law_words_here", "_law_one", "_law_other", "_law_third", "_law_late", "_law_talk", "_law_told", "_law_due", "_law_found"]
abbrev trP : List Str := ["_law_purse_here", "_law_elder", "_law_newer_here", "_law_words_here", "_law_one", "_law_other"]
theorem scTr : FnScope trN trP (defScope sTurnsR) := ⟨rfl, rfl, rfl, by decide +kernel, rfl, by decide +kernel, by decide +kernel⟩
theorem ok_turnsr {f : Addr} {fd : FuncData} (F : Fun K "_law_turns_right" "_law_turns_right" sTurnsR f fd) (T : Free4 mg) (CN : CNewer P w K mg base) (CD : CLDesk P w K mg base C) (CS : CShuf P w K mg base) (CT : CTalks P w K mg base) (CX : CExact P w K mg base 1) (CU : CUnf P w K mg base C) (CL : CLIsU P w K mg base) (CF : CUnfit P w K mg base C) (CE : CLeastU P w K mg base) : FnOk P w K mg base CX0 7 f fd trP (spTurnsR C) := by
  refine F.ok scTr (fun vs H Q E h => ?_) (fun cdv A outer s H vs Q E0' hr h => ?_)
  · obtain ⟨p, W1, W2, q1, q2, L, bk, cl, st, st', ws, t, rfl, _⟩ := h; rfl
  · obtain ⟨p, W1, W2, q1, q2, L, bk, cl, st, st', ws, t, rfl, hp, jd, wf1, wf2, wok, t1, k⟩ := h
    have hu := hu_of hr
    refine ⟨_, pss_cons (ps_set (i := 6) scTr.nd rfl (Or.inl rfl) (pe_cal CN (hr.mono (by decide)) rfl (pa_cons (pv 0) (pa_cons (pv 2) (pa_cons (pv 3) (pa_cons pe_int pa_nil))))))
      (pss_cons (ps_set (i := 7) scTr.nd rfl (Or.inl rfl) (pe_cal CD (hr.mono (by decide)) rfl (pa_cons (pv 6) pa_nil)))
      (pss_cons (ps_for PassesOwn.never rfl (pi_list (pe_slice sl_list (pe_cal CS (hr.mono (by decide)) rfl (pa_cons (pv 0) (pa_cons (pe_cal CT (hr.mono (by decide)) rfl (pa_cons (pv 3) (pa_cons pe_int pa_nil))) pa_nil))) po_none (po_some pe_int))) (pg_name (i := 8) scTr.nd rfl (Or.inl rfl))
        (pss_cons (ps_set (i := 9) scTr.nd rfl (Or.inl rfl) (pe_lst (pa_cons (pe_cal CU (hr.mono (by decide)) rfl (pa_cons (pv 4) (pa_cons (pv 5) (pa_cons (pv 8) pa_nil)))) (pa_cons (pe_cal CU (hr.mono (by decide)) rfl (pa_cons (pv 4) (pa_cons (pv 7) (pa_cons (pv 8) pa_nil)))) (pa_cons (pe_cal CU (hr.mono (by decide)) rfl (pa_cons (pv 4) (pa_cons (pv 5) (pa_cons (pv 8) pa_nil)))) (pa_cons (pe_cal CU (hr.mono (by decide)) rfl (pa_cons (pv 5) (pa_cons (pv 7) (pa_cons (pv 8) pa_nil)))) pa_nil))))))
        (pss_cons (ps_set (i := 10) scTr.nd rfl (Or.inl rfl) (pe_lst (pa_cons (pe_cal CL (hr.mono (by decide)) rfl (pa_cons (pv 1) (pa_cons (pv 2) (pa_cons (pv 8) pa_nil)))) (pa_cons (pe_cal CL (hr.mono (by decide)) rfl (pa_cons (pv 1) (pa_cons (pv 6) (pa_cons (pv 8) pa_nil)))) (pa_cons (pe_cal CL (hr.mono (by decide)) rfl (pa_cons (pv 1) (pa_cons (pv 2) (pa_cons (pv 8) pa_nil)))) (pa_cons (pe_cal CL (hr.mono (by decide)) rfl (pa_cons (pv 2) (pa_cons (pv 6) (pa_cons (pv 8) pa_nil)))) pa_nil))))))
        (pss_one (ps_if (pt_not (pt_val (pe_cal CX (hr.mono (by decide)) rfl (pa_cons (pv 9) (pa_cons (pv 10) pa_nil))))) (pss_one (ps_ret pe_bl)) pss_nil)))))
      (pss_cons (ps_set (i := 11) scTr.nd rfl (Or.inl rfl) (pe_cal CF (hr.mono (by decide)) rfl (pa_cons (pv 4) (pa_cons (pv 7) pa_nil))))
      (pss_one (ps_ret (pe_and (pe_cmpR op_eq (pe_cmp (pc_isN (pv 11)) rfl) (pe_cmp (pc_isN (pe_cal CE (hr.mono (by decide)) rfl (pa_cons (pv 1) (pa_cons (pv 6) pa_nil)))) rfl) (nomark _))
          (pe_one (pe_or (pe_cmp (pc_isN (pv 11)) rfl) (pe_one (pe_cmpR op_eq (pe_callB call_len_seq (by rfl) T.len PySem.boot_len (pa_cons (pv 11) pa_nil)) (pe_cal CE (hr.mono (by decide)) rfl (pa_cons (pv 1) (pa_cons (pv 6) pa_nil))) (nomark _))))))))))), ?_⟩
    have jdH : Jd C H W1 W2 q1 q2 L bk cl st st' ws := jd.same cut_le
    have nL := sl_ne hp jdH.wl
    have o1 := wf1.dok wok
    have o2 := wf2.dok wok
    have lw6 := wok.hi
    refine ⟨_, rfl, _, rfl, _, rfl, p, W2, L, cl, st', ws, 1, t, rfl, hp, jd.w2, jdH.wl, nL, wf2, wok, by decide, by decide, by omega, fun H1 W3 ck t1' b1 hp1 tt1 nW3 hW3 wf3 => ?_⟩
    have o3 := wf3.dok wok
    refine ⟨_, rfl, W3, ck, st', rfl, hW3.same cut_le, o3, fun H2 q3 s12 nq3 hq3 => ?_⟩
    have b02 := b1.trans (But.of s12)
    have hp2 := hp1.same s12
    have jd2 : Jd C H2 W1 W2 q1 q2 L bk cl st st' ws := (jd.same (cut_but b02 (by simp))).same cut_le
    have hW32 : WorldAt (cut [p] H2) W3 ck st' := hW3.same (cut_same s12)
    refine ⟨_, rfl, _, rfl, L, ws, 2, rfl, jd2.wl, by omega, by decide, by decide, fun H3 R tss s23 nR hLL tok lt => ?_⟩
    obtain ⟨as, hR, pS⟩ := id hLL
    have las : as.length = tss.length := paired_len pS
    have hp3 := hp2.same s23
    have nRp := ll_ne hp3 hLL
    have lt2 : tss.length ≤ 801 := lt
    refine ⟨p, R, as.map V.ref, t1', rfl, hp3, hR, nRp, by rw [List.length_map]; omega, by omega, fun H4 R4 ys t4 b34 nR4 hR4 pm hp4 tt4 => ?_⟩
    rw [List.length_map] at tt4
    have b04 := b02.trans ((But.of s23).trans b34)
    refine ⟨_, rfl, R4, _, rfl, SqL.of hR4, fun q hq => ⟨q, rfl, ⟨_, SqL.of upd_same⟩, ?_⟩⟩
    have g5 := Same.new (o := .lst (cutV ys none (some 6))) hq
    have e5 : (L2.upd H4 q (.lst (cutV ys none (some 6)))) q = some (.lst (cutV ys none (some 6))) := upd_same
    have hm : ∀ x ∈ cutV ys none (some 6), ∃ (a : Addr) (ts : List Str), x = .ref a ∧ SL H4 a ts ∧ ts.length ≤ 3 ∧ ∀ y ∈ ts, y ∈ ws := fun x hx => by
      have h1 : x ∈ ys := List.mem_of_mem_drop (List.mem_of_mem_take hx)
      obtain ⟨a, ha, rfl⟩ := List.mem_map.mp (pm.mem_iff.mp h1)
      obtain ⟨i, hi⟩ := List.getElem?_of_mem ha
      obtain ⟨ts, hts, hS⟩ := D1.paired_get pS hi
      have := tok ts (List.mem_of_getElem? hts)
      exact ⟨a, ts, rfl, b34 _ _ (sl_ne hp3 hS) hS, this.1, this.2⟩
    generalize cutV ys none (some 6) = xs at hm e5 g5
    generalize L2.upd H4 q (.lst xs) = H5 at g5 e5
    have b05 := b04.trans (But.of g5)
    have hp5 := hp4.same g5
    have jd5 : Jd C H5 W1 W2 q1 q2 L bk cl st st' ws := (jd.same (cut_but b05 (by simp))).same cut_le
    have b25 : But p H2 H5 := (But.of s23).trans (b34.trans (But.of g5))
    have hW35 : WorldAt H5 W3 ck st' := (hW32.same (cut_but b25 (by simp))).same cut_le
    have hq35 : DeskAt C H5 q3 ck st' := desk_but hp2 hq3 b25
    refine for_list (K := K) (a := q) (xs := xs) (fun j σ H' => ∃ (v8 v9 v10 : Option V), σ = [some (.ref p), some (.ref W1), some (.ref W2), some (.ref L), some (.ref q1), some (.ref q2), some (.ref W3), some (.ref q3), v8, v9, v10, none] ∧ Same H5 H') ⟨none, none, none, rfl, Same.refl _⟩ (fun j σ H' _ ⟨_, _, _, _, z⟩ => SqL.of (z _ _ e5)) ?_ ?_
    · rintro j x σ H6 hx ⟨v8, v9, v10, rfl, s6⟩
      obtain ⟨a, ts, rfl, hS4, lts, mts⟩ := hm x (List.mem_of_getElem? hx)
      have hS6 := (hS4.same g5).same s6
      have wts : ∀ y ∈ ts, Wd y := fun y hy => wok.wd y (mts y hy)
      have jd6 := jd5.same s6
      have hq36 := hq35.same s6
      have hW36 := hW35.same s6
      refine ⟨_, rfl, _, rfl, _, rfl, q1, q2, a, bk, cl, st, st', ts, rfl, jd6.two, o1, o2, hS6, by omega, wts, fun A1 z1 => ?_⟩
      refine ⟨_, rfl, _, rfl, _, rfl, q1, q3, a, bk, ck, st, st', ts, rfl, ⟨jd6.two.1.same z1, hq36.same z1⟩, o1, o3, hS6.same z1, by omega, wts, fun A2 z2 => ?_⟩
      have z02 := Same.trans z1 z2
      refine ⟨_, rfl, _, rfl, _, rfl, q1, q2, a, bk, cl, st, st', ts, rfl, jd6.two.same z02, o1, o2, hS6.same z02, by omega, wts, fun A3 z3 => ?_⟩
      have z03 := Same.trans z02 z3
      refine ⟨_, rfl, _, rfl, _, rfl, q2, q3, a, cl, ck, st', st', ts, rfl, ⟨jd6.two.2.same z03, hq36.same z03⟩, o2, o3, hS6.same z03, by omega, wts, fun A4 z4 => ?_⟩
      have z04 := Same.trans z03 z4
      refine ⟨by show 4 ≤ sizeLine; decide, fun T9 h9 => ?_⟩
      have y5 := Same.new (o := .lst [.bl (unfB (ordB bk) (ordB cl) (st, st') ts), .bl (unfB (ordB bk) (ordB ck) (st, st') ts), .bl (unfB (ordB bk) (ordB cl) (st, st') ts), .bl (unfB (ordB cl) (ordB ck) (st', st') ts)]) h9
      have f9 : (L2.upd A4 T9 (.lst [.bl (unfB (ordB bk) (ordB cl) (st, st') ts), .bl (unfB (ordB bk) (ordB ck) (st, st') ts), .bl (unfB (ordB bk) (ordB cl) (st, st') ts), .bl (unfB (ordB cl) (ordB ck) (st', st') ts)])) T9 = some (.lst [.bl (unfB (ordB bk) (ordB cl) (st, st') ts), .bl (unfB (ordB bk) (ordB ck) (st, st') ts), .bl (unfB (ordB bk) (ordB cl) (st, st') ts), .bl (unfB (ordB cl) (ordB ck) (st', st') ts)]) := upd_same
      generalize L2.upd A4 T9 (.lst [.bl (unfB (ordB bk) (ordB cl) (st, st') ts), .bl (unfB (ordB bk) (ordB ck) (st, st') ts), .bl (unfB (ordB bk) (ordB cl) (st, st') ts), .bl (unfB (ordB cl) (ordB ck) (st', st') ts)]) = A5 at y5 f9
      have z05 := Same.trans z04 y5
      refine ⟨_, rfl, _, rfl, _, rfl, W1, W2, a, bk, cl, st, st', ts, rfl, jd6.w1.same z05, jd6.w2.same z05, o1, o2, hS6.same z05, by omega, fun A6 z6 => ?_⟩
      have z06 := Same.trans z05 z6
      refine ⟨_, rfl, _, rfl, _, rfl, W1, W3, a, bk, ck, st, st', ts, rfl, jd6.w1.same z06, hW36.same z06, o1, o3, hS6.same z06, by omega, fun A7 z7 => ?_⟩
      have z07 := Same.trans z06 z7
      refine ⟨_, rfl, _, rfl, _, rfl, W1, W2, a, bk, cl, st, st', ts, rfl, jd6.w1.same z07, jd6.w2.same z07, o1, o2, hS6.same z07, by omega, fun A8 z8 => ?_⟩
      have z08 := Same.trans z07 z8
      refine ⟨_, rfl, _, rfl, _, rfl, W2, W3, a, cl, ck, st', st', ts, rfl, jd6.w2.same z08, hW36.same z08, o2, o3, hS6.same z08, by omega, fun A9 z9 => ⟨by show 4 ≤ sizeLine; decide, fun T10 h10 => ?_⟩⟩
      have y10 := Same.new (o := .lst [.bl (unfB (ordB bk) (ordB cl) (st, st') ts), .bl (unfB (ordB bk) (ordB ck) (st, st') ts), .bl (unfB (ordB bk) (ordB cl) (st, st') ts), .bl (unfB (ordB cl) (ordB ck) (st', st') ts)]) h10
      refine ⟨_, rfl, _, rfl, .ref T9, .ref T10, rfl, .inr (.inl ⟨T9, T10, _, _, rfl, rfl, y10 _ _ (z9 _ _ (z8 _ _ (z7 _ _ (z6 _ _ f9)))), upd_same, by show 4 ≤ 10000; decide, .cons (bl_eqx _) (.cons (bl_eqx _) (.cons (bl_eqx _) (.cons (bl_eqx _) .nil)))⟩), fun A11 z11 => ⟨_, rfl, iteF ?_⟩⟩
      exact ⟨_, _, _, rfl, Same.trans s6 (Same.trans z08 (Same.trans z9 (Same.trans y10 z11)))⟩
    · rintro σ H6 ⟨v8, v9, v10, rfl, s6⟩
      have jd6 := jd5.same s6
      have hq36 := hq35.same s6
      have hW36 := hW35.same s6
      have b06 := b05.trans (But.of s6)
      have hp6 := hp5.same s6
      have fin : ∀ H', Same H6 H' → Q (.bl true) H' := fun H' s => k H' t4 (b06.trans (But.of s)) (hp6.same s) (by omega)
      refine ⟨_, rfl, _, rfl, q1, q3, bk, ck, st, st', rfl, ⟨jd6.two.1, hq36⟩, o1, o3, fun H7 v s67 hv => ?_⟩
      cases e : farPE (nextP (ordB bk) (ordB ck)) (NoP (ordB bk) (ordB ck)) (st, st') with
      | none =>
        rw [talk_none e] at hv
        have hv : v = .non := hv
        subst hv
        refine ⟨_, rfl, _, rfl, _, rfl, W1, W3, bk, ck, st, st', rfl, jd6.w1.same s67, hW36.same s67, o1, o3, fun H8 s78 => ?_⟩
        rw [e]
        refine ⟨rfl, _, rfl, (if_pos (by simp [optI])).mpr ⟨_, rfl, _, rfl, (if_pos (by simp)).mpr ?_⟩⟩
        have := fin H8 (Same.trans s67 s78)
        simpa using this
      | some n =>
        rw [talk_some e] at hv
        obtain ⟨W, rfl, nW, hW⟩ := hv
        have lw := wayP_lenE (farP_someE.mp e)
        refine ⟨_, rfl, _, rfl, _, rfl, W1, W3, bk, ck, st, st', rfl, jd6.w1.same s67, hW36.same s67, o1, o3, fun H8 s78 => ?_⟩
        rw [e]
        refine ⟨rfl, _, rfl, (if_pos (by simp [optI])).mpr ⟨_, rfl, _, rfl, (if_neg (by simp)).mpr ?_⟩⟩
        have s68 := Same.trans s67 s78
        refine ⟨_, rfl, W, _, rfl, .inl (hW.same s78).sq, _, rfl, _, rfl, W1, W3, bk, ck, st, st', rfl, jd6.w1.same s68, hW36.same s68, o1, o3, fun H9 s89 => ?_⟩
        rw [e, List.length_map, lw]
        refine ⟨rfl, ?_⟩
        have := fin H9 (Same.trans s68 s89)
        rw [show decide (V.int (n : Int) = optI (some n)) = true from decide_eq_true rfl]
        exact this
end
end D1
end L2
/-! the law's _law_two_right -/
namespace L2
namespace D1
open PySem PySem.Spec PyProof.Rows D2 X5 X6
abbrev sTwoR : Stmt := top 71
theorem key_one {β : Type} : ∀ {ts : List (Str × β)}, (ts.map (·.1)).Nodup → ∀ {t u : Str × β}, t ∈ ts → u ∈ ts → t.1 = u.1 → t = u
  | [], _, _, _, h, _, _ => by cases h
  | x :: r, nd, t, u, ht, hu, e => by
    rw [List.map_cons, List.nodup_cons] at nd
    rcases List.mem_cons.mp ht with a | a <;> rcases List.mem_cons.mp hu with b | b
    · rw [a, b]
    · exact absurd (by rw [← a, e]; exact List.mem_map_of_mem b) nd.1
    · exact absurd (by rw [← b, ← e]; exact List.mem_map_of_mem a) nd.1
    · exact key_one nd.2 a b e
theorem findP_of {ts : List (Str × Pr)} (nd : (ts.map (·.1)).Nodup) {t : Str × Pr} (h : t ∈ ts) : findP ts t.1 = some t.2 := by
  cases e : findP ts t.1 with
  | none =>
    unfold findP at e
    have := List.find?_eq_none.mp (Option.map_eq_none_iff.mp e) t h
    exact absurd (decide_eq_true rfl) this
  | some u =>
    have := key_one nd h (findP_mem e) rfl
    rw [this]
theorem way_after {bk cl : Bk} (b : BB bk cl) {q : Pr → Prop} : ∀ {n : Nat} {x : Pr}, InP bk cl x → IsDE (nextP bk cl) q x n → ∃ y, afterP bk cl x (wayPE (nextP bk cl) q n x) = some y ∧ q y
  | 0, x, hx, d => ⟨x, rfl, isD_zeroE.mp d⟩
  | n + 1, x, hx, d => by
    obtain ⟨t, e, ht, dt⟩ := near_ofE d
    obtain ⟨y, hy, qy⟩ := way_after b (nextP_in b hx t ht) dt
    refine ⟨y, ?_, qy⟩
    rw [wayP_succE e]
    show (match findP (nextP bk cl x) t.1 with | none => none | some u => afterP bk cl u (wayPE (nextP bk cl) q n t.2)) = _
    rw [findP_of (nextP_nd b hx) ht]
    exact hy
theorem way_words {bk cl : Bk} (b : BB bk cl) {q : Pr → Prop} {ws : List Str} (hw : ∀ x, InP bk cl x → ∀ t ∈ nextP bk cl x, t.1 ∈ ws) : ∀ {n : Nat} {x : Pr}, InP bk cl x → IsDE (nextP bk cl) q x n → ∀ y ∈ wayPE (nextP bk cl) q n x, y ∈ ws
  | 0, x, hx, d, y, hy => by cases hy
  | n + 1, x, hx, d, y, hy => by
    obtain ⟨t, e, ht, dt⟩ := near_ofE d
    rw [wayP_succE e] at hy
    rcases List.mem_cons.mp hy with z | z
    · rw [z]; exact hw x hx t ht
    · exact way_words b hw (nextP_in b hx t ht) dt y z
theorem step_words {bk cl : Bk} {st st' : Str} {ws : List Str} (wf : WF bk st ws) (wok : WsOk ws) (o2 : DOk cl st') {x : Pr} (hx : InP (ordB bk) (ordB cl) x) : ∀ t ∈ nextP (ordB bk) (ordB cl) x, t.1 ∈ ws := fun t ht => by
  have o1 := wf.dok wok
  rw [nextP_ord o1 o2 (inP_ord.mp hx)] at ht
  obtain ⟨w, hw, rfl⟩ := List.mem_map.mp ht
  have m := (srt_perm _).mem_iff.mp (List.mem_filter.mp hw).1
  have hs := (inP_ord.mp hx).1
  obtain ⟨u, hu, e⟩ := List.mem_map.mp m
  rcases (wf.rs _ (row_mem hs)).2 with ⟨_, e2⟩ | ⟨_, _, tok⟩
  · rw [e2] at hu; cases hu
  · show w ∈ ws
    rw [← e]; exact tok.ks u hu
theorem told_facts {bk cl : Bk} {st st' : Str} {ws : List Str} (wf1 : WF bk st ws) (wf2 : WF cl st' ws) (wok : WsOk ws) {n : Nat} (e : farPE (nextP (ordB bk) (ordB cl)) (NoP (ordB bk) (ordB cl)) (st, st') = some n) :
    (wayPE (nextP (ordB bk) (ordB cl)) (NoP (ordB bk) (ordB cl)) n (st, st')).length = n ∧ n ≤ 36 ∧ (∀ x ∈ wayPE (nextP (ordB bk) (ordB cl)) (NoP (ordB bk) (ordB cl)) n (st, st'), x ∈ ws) ∧ unfB (ordB bk) (ordB cl) (st, st') (wayPE (nextP (ordB bk) (ordB cl)) (NoP (ordB bk) (ordB cl)) n (st, st')) = true := by
  have o1 := wf1.dok wok
  have o2 := wf2.dok wok
  have bb := (o1.ord).bb o2.ord
  have ip0 : InP (ordB bk) (ordB cl) (st, st') := inP_ord.mpr ⟨o1.st, o2.st⟩
  have d := farP_someE.mp e
  have mal : ∀ {x : Pr}, InP (ordB bk) (ordB cl) x → x ∈ allP bk cl := fun h => mem_allP (inP_ord.mp h)
  have ll := far_leE (ns := allP bk cl) (fun x hx t ht => mal (nextP_in bb (inP_ord.mpr (by
    obtain ⟨a, ha, b⟩ := List.mem_flatMap.mp hx
    obtain ⟨u, hu, rfl⟩ := List.mem_map.mp b
    exact ⟨ha, hu⟩)) t ht)) (mal ip0) d
  have l36 : (allP bk cl).length ≤ 36 := by
    rw [allP_eq, pairsT_len, List.length_map, List.length_map]
    exact Nat.mul_le_mul wf1.len wf2.len
  obtain ⟨y, hy, qy⟩ := way_after bb ip0 d
  refine ⟨wayP_lenE d, by omega, way_words bb (fun x hx => step_words wf1 wok o2 hx) ip0 d, ?_⟩
  unfold unfB
  rw [hy]; exact qy
theorem rev_ord {bk : Bk} (nd : (bk.map (·.1)).Nodup) : ordB bk.reverse = ordB bk := by
  refine ordB_eq (by rw [List.map_reverse]; exact List.reverse_perm _) fun s hs => ?_
  rw [List.map_reverse, List.mem_reverse] at hs
  have e : rowOf bk.reverse s = rowOf bk s := by
    obtain ⟨r, hr, e⟩ := List.mem_map.mp hs
    rw [← e, rowOf_self nd hr, rowOf_self (by rw [List.map_reverse]; exact (List.reverse_perm _).nodup_iff.mpr nd) (List.mem_reverse.mpr hr)]
  rw [e]; exact ⟨rfl, rfl⟩
def spTwoR (C : Addr) : Sp := fun vs H Q _ => ∃ (p W1 W2 L : Addr) (bk cl : Bk) (st st' : Str) (ws : List Str) (t : Int), vs = [.ref p, .ref W1, .ref W2, .ref L] ∧ Purse H p t ∧ WorldAt (cut [p] H) W1 bk st ∧ WorldAt (cut [p] H) W2 cl st' ∧ SL H L ws ∧ WF bk st ws ∧ WF cl st' ws ∧ WsOk ws ∧ t < 2 ^ 23 ∧
  ∀ (H' : Hp) (t' : Int), But p H H' → Purse H' p t' → t' ≤ t + 2000 → Q (.bl true) H'
section
variable {P : Program} {w : World} {K : PySem.W.Frag} {mg : Str → Option Value} {base : Heap} {C : Addr}
abbrev CTurnsR (P : Program) (w : World) (K : PySem.W.Frag) (mg : Str → Option Value) (base : Heap) (C : Addr) := Cal P w K mg base "_law_turns_right" 7 trP (spTurnsR C)
abbrev CJudged (P : Program) (w : World) (K : PySem.W.Frag) (mg : Str → Option Value) (base : Heap) (C : Addr) := Cal P w K mg base "_law_judged_right" 7 jdP (spJudged C)
abbrev t2N : List Str := ["_law_purse_here", "_law_elder", "_law_newer_here", "_law_words_here", "_law_one", "_law_other", "_law_due", "_law_told", "_law_kept", "_law_again", "_law_state"]
abbrev t2P : List Str := ["_law_purse_here", "_law_elder", "_law_newer_here", "_law_words_here"]
theorem scT2 : FnScope t2N t2P (defScope sTwoR) := ⟨rfl, rfl, rfl, by decide +kernel, rfl, by decide +kernel, by decide +kernel⟩
theorem ok_twor {f : Addr} {fd : FuncData} (F : Fun K "_law_two_right" "_law_two_right" sTwoR f fd) (T : Free4 mg) (D : DTxt K mg C) (EQ : EqD P w K mg base C) (MI : CMInit P w K mg base C) (CD : CLDesk P w K mg base C) (CX : CExact P w K mg base 2) (CL : CLIsU P w K mg base) (CF : CUnfit P w K mg base C) (CE : CLeastU P w K mg base) (CTR : CTurnsR P w K mg base C) (CJ : CJudged P w K mg base C) : FnOk P w K mg base CX0 8 f fd t2P (spTwoR C) := by
  obtain ⟨fI, fdI, mI, FI, bI⟩ := MI
  refine F.ok scT2 (fun vs H Q E h => ?_) (fun cdv A outer s H vs Q E0' hr h => ?_)
  · obtain ⟨p, W1, W2, L, bk, cl, st, st', ws, t, rfl, _⟩ := h; rfl
  · obtain ⟨p, W1, W2, L, bk, cl, st, st', ws, t, rfl, hp, hw1, hw2, hL, wf1, wf2, wok, t1, k⟩ := h
    have hu := hu_of hr
    refine ⟨_, pss_cons (ps_par3 (i := 4) (j := 5) (l := 6) rfl scT2.nd rfl rfl rfl (by decide) (by decide) (by decide) rfl rfl rfl (pa_cons (pe_cal CD (hr.mono (by decide)) rfl (pa_cons (pv 1) pa_nil)) (pa_cons (pe_cal CD (hr.mono (by decide)) rfl (pa_cons (pv 2) pa_nil)) (pa_cons (pe_cal CE (hr.mono (by decide)) rfl (pa_cons (pv 1) (pa_cons (pv 2) pa_nil))) pa_nil))) (by rfl))
      (pss_cons (ps_set (i := 7) scT2.nd rfl (Or.inl rfl) (pe_cal CF (hr.mono (by decide)) rfl (pa_cons (pv 4) (pa_cons (pv 5) pa_nil))))
      (pss_cons (ps_if (pt_not (pt_val (pe_cal CTR (hr.mono (by decide)) rfl (pa_cons (pv 0) (pa_cons (pv 1) (pa_cons (pv 2) (pa_cons (pv 3) (pa_cons (pv 4) (pa_cons (pv 5) pa_nil))))))))) (pss_one (ps_ret pe_bl)) pss_nil)
      (pss_cons (ps_if (pt_cmp (pc_isN (pv 7)) rfl) (pss_one (ps_ret (pe_and (pe_cmp (pc_isN (pv 6)) rfl) (pe_one (pe_cal CJ (hr.mono (by decide)) rfl (pa_cons (pv 0) (pa_cons (pv 1) (pa_cons (pv 2) (pa_cons (pv 4) (pa_cons (pv 5) (pa_cons (pv 3) (pa_cons pe_non pa_nil))))))))))) ) pss_nil)
      (pss_cons (ps_if (PW.pt (pw_or (pt_cmp (pc_isN (pv 6)) rfl) (pw_or (pt_not (pt_val (pe_cal CL (hr.mono (by decide)) rfl (pa_cons (pv 1) (pa_cons (pv 2) (pa_cons (pv 7) pa_nil)))))) (pw_or1 (pt_cmpR op_ne (pe_callB call_len_seq (by rfl) T.len PySem.boot_len (pa_cons (pv 7) pa_nil)) (pv 6) (nomark _)))))) (pss_one (ps_ret pe_bl)) pss_nil)
      (pss_cons (ps_set (i := 8) scT2.nd rfl (Or.inl rfl) (pe_callTy call_list_of (by rfl) T.list (by decide +kernel) (pa_cons (pv 7) pa_nil)))
      (pss_cons (ps_if (pt_not (pt_val (pe_cal CJ (hr.mono (by decide)) rfl (pa_cons (pv 0) (pa_cons (pv 1) (pa_cons (pv 2) (pa_cons (pv 4) (pa_cons (pv 5) (pa_cons (pv 3) (pa_cons (pe_callTy call_list_of (by rfl) T.list (by decide +kernel) (pa_cons (pv 7) pa_nil)) pa_nil)))))))))) (pss_one (ps_ret pe_bl)) pss_nil)
      (pss_cons (ps_expr (pe_bm PySem.F.plainAttrs_list PySem.F.slot_list_append PySem.F.type_list_append mt_append (pv 7) (pa_cons pe_non pa_nil)))
      (pss_cons (ps_set (i := 9) scT2.nd rfl (Or.inl rfl) (pe_cal CF (hr.mono (by decide)) rfl (pa_cons (pe_make mI FI (hr.mono (by decide)) rfl D.mgC bI .nil pass0 (pa_cons (pe_callTy (call_dictP rfl) (by rfl) T.dict (by decide +kernel) (pa_cons (pe_lc (own := [("_law_state", 10)]) (g := gName 10) (tt := tYes) (te := tTup (tCons (tVar 10) (tCons (tDGet (tOp (rIxL K) (tVar 1) (tC (.int 0))) (tVar 10)) tNil))) rfl scT2.nd (pi_list (pe_revL (pe_callTy (call_listD rfl) (by rfl) T.list (by decide +kernel) (pa_cons (pe_ix ix_list (pv 1) pe_int (fun _ _ => rfl)) pa_nil))))
            (blkOk_by (N := t2N) (sc := defScope sTwoR) (by decide +kernel)) (fun _ _ _ _ _ => pg_name (i := 10) scT2.nd rfl (Or.inl rfl)) (fun _ _ _ _ _ => pts_nil) (fun _ _ _ _ _ => pe_tup (pa_cons (pv 10) (pa_cons (pe_dget hu (pe_ix ix_list (pv 1) pe_int (fun _ _ => rfl)) (pv 10) (fun _ _ => rfl)) pa_nil)))) pa_nil)) (pa_cons (pe_ix ix_list (pv 1) pe_int (fun _ _ => rfl)) pa_nil))) (pa_cons (pv 5) pa_nil))))
      (pss_one (ps_ret (pe_and (pe_cal CX (hr.mono (by decide)) rfl (pa_cons (pe_lst (pa_cons (pe_cal CF (hr.mono (by decide)) rfl (pa_cons (pv 4) (pa_cons (pv 5) pa_nil))) (pa_cons (pv 9) pa_nil))) (pa_cons (pe_lst (pa_cons (pv 8) (pa_cons (pv 8) pa_nil))) pa_nil)))
          (pe_and (pe_cmpR (eqD EQ (hr.mono (by decide))) (pv 4) (pe_cal CD (hr.mono (by decide)) rfl (pa_cons (pv 1) pa_nil)) (by rfl)) (pe_one (pe_cmpR (eqD EQ (hr.mono (by decide))) (pv 5) (pe_cal CD (hr.mono (by decide)) rfl (pa_cons (pv 2) pa_nil)) (by rfl))))))))))))))), ?_⟩
    have o1 := wf1.dok wok
    have o2 := wf2.dok wok
    have nL := sl_ne hp hL
    refine ⟨_, rfl, W1, bk, st, rfl, hw1.same cut_le, o1, fun H1 q1 s1 nq1 hq1 => ?_⟩
    refine ⟨_, rfl, W2, cl, st', rfl, (hw2.same cut_le).same s1, o2, fun H2 q2 s2 nq2 hq2 => ?_⟩
    have s02 := Same.trans s1 s2
    have hw12 : WorldAt H2 W1 bk st := (hw1.same cut_le).same s02
    have hw22 : WorldAt H2 W2 cl st' := (hw2.same cut_le).same s02
    refine ⟨_, rfl, _, rfl, W1, W2, bk, cl, st, st', rfl, hw12, hw22, o1, o2, fun H3 s3 => ⟨_, _, _, rfl, ?_⟩⟩
    have hp3 := hp.same (Same.trans s02 s3)
    have two3 : Two C H3 q1 q2 bk cl st st' := ⟨(hq1.same s2).same s3, hq2.same s3⟩
    refine ⟨_, rfl, _, rfl, q1, q2, bk, cl, st, st', rfl, two3, o1, o2, fun H4 v s34 hv => ?_⟩
    have s04 := Same.trans s02 (Same.trans s3 s34)
    have hp4 := hp.same s04
    have jd4 : Jd C (cut [p] H4) W1 W2 q1 q2 L bk cl st st' ws := ⟨hw1.same (cut_same s04), hw2.same (cut_same s04), ⟨desk_cut hp4 (two3.1.same s34), desk_cut hp4 (two3.2.same s34)⟩, by rw [SL, cut_out (by simpa using nL)]; exact hL.same s04⟩
    refine ⟨_, rfl, _, rfl, _, rfl, _, rfl, _, rfl, _, rfl, p, W1, W2, q1, q2, L, bk, cl, st, st', ws, t, rfl, hp4, jd4, wf1, wf2, wok, by omega, fun H5 t5 b45 hp5 tt5 => ⟨_, rfl, iteF ?_⟩⟩
    have b05 : But p H H5 := (But.of s04).trans b45
    have jd5 : Jd C (cut [p] H5) W1 W2 q1 q2 L bk cl st st' ws := jd4.same (cut_but b45 (by simp))
    cases e : farPE (nextP (ordB bk) (ordB cl)) (NoP (ordB bk) (ordB cl)) (st, st') with
    | none =>
      rw [talk_none e] at hv
      have hv : v = .non := hv
      subst hv
      refine ⟨_, rfl, _, rfl, iteT ⟨_, rfl, _, rfl, iteT ?_⟩⟩
      exact ⟨_, rfl, _, rfl, _, rfl, _, rfl, _, rfl, _, rfl, p, W1, W2, q1, q2, L, .non, bk, cl, st, st', ws, t5, rfl, hp5, jd5, o1, o2, wok, .inl rfl, by omega, fun H6 t6 b56 hp6 tt6 => k H6 t6 (b05.trans b56) hp6 (by omega)⟩
    | some n =>
      rw [talk_some e] at hv
      obtain ⟨Wt, rfl, nW, hW⟩ := hv
      obtain ⟨lw, n36, mw, uw⟩ := told_facts wf1 wf2 wok e
      have tse := talk_some e
      generalize wayPE (nextP (ordB bk) (ordB cl)) (NoP (ordB bk) (ordB cl)) n (st, st') = way at hW lw mw uw tse
      have nWp := sl_ne hp4 hW
      have hW5 : SL H5 Wt way := b45 _ _ nWp hW
      have jdF : Jd C H5 W1 W2 q1 q2 L bk cl st st' ws := jd5.same cut_le
      refine ⟨_, rfl, _, rfl, iteF ⟨_, rfl, _, rfl, iteF ?_⟩⟩
      refine ⟨_, rfl, _, rfl, _, rfl, W1, W2, Wt, bk, cl, st, st', way, rfl, jdF.w1, jdF.w2, o1, o2, hW5, by omega, fun H6 s56 => ?_⟩
      rw [uw]
      have hW6 := hW5.same s56
      have hp6 := hp5.same s56
      refine ⟨_, rfl, iteF ⟨_, rfl, Wt, _, rfl, .inl hW6.sq, _, rfl, rfl, _, rfl, ?_⟩⟩
      rw [List.length_map, lw]
      refine (if_neg (by simp [optI])).mpr ?_
      refine ⟨_, rfl, Wt, _, rfl, .inl hW6.sq, fun Kp hKp => ?_⟩
      have nKW : Kp ≠ Wt := fun z => by rw [z] at hKp; have := hW6; rw [SL, hKp] at this; cases this
      have nKp := hp6.ne hKp
      have g7 := Same.new (o := .lst (way.map V.str)) hKp
      have eK7 : SL (L2.upd H6 Kp (.lst (way.map V.str))) Kp way := upd_same
      generalize L2.upd H6 Kp (.lst (way.map V.str)) = H7 at g7 eK7
      refine ⟨_, rfl, _, rfl, _, rfl, _, rfl, _, rfl, _, rfl, _, rfl, Wt, _, rfl, .inl (hW6.same g7).sq, fun Lt hLt => ?_⟩
      have g8 := Same.new (o := .lst (way.map V.str)) hLt
      have eL8 : SL (L2.upd H7 Lt (.lst (way.map V.str))) Lt way := upd_same
      generalize L2.upd H7 Lt (.lst (way.map V.str)) = H8 at g8 eL8
      have s58 := Same.trans s56 (Same.trans g7 g8)
      have hp8 := hp5.same s58
      refine ⟨p, W1, W2, q1, q2, L, .ref Lt, bk, cl, st, st', ws, t5, rfl, hp8, jd5.same (cut_same s58), o1, o2, wok, .inr ⟨Lt, way, rfl, eL8, by omega, mw⟩, by omega, fun H9 t9 b89 hp9 tt9 => ⟨_, rfl, iteF ?_⟩⟩
      have b59 : But p H5 H9 := (But.of s58).trans b89
      have hW9 : SL H9 Wt way := b59 _ _ nWp hW5
      have hK9 : SL H9 Kp way := b89 _ _ nKp (eK7.same g8)
      refine ⟨_, rfl, .inl ⟨rfl, _, hW9.sq⟩, Wt, _, _, rfl, rfl, hW9, by rw [List.length_map, sizeLine_eq]; omega, ?_⟩
      have b310 : But p H3 (L2.upd H9 Wt (.lst (way.map V.str ++ [.non]))) := fun c u n1 e1 => by
        rw [upd_ne fun z => by rw [z, nW] at e1; cases e1]
        exact b59 _ _ n1 (b45 _ _ n1 (s34 _ _ e1))
      have hp10 := hp9.upd (o := .lst (way.map V.str ++ [.non])) nWp.symm
      have hK10 : SL (L2.upd H9 Wt (.lst (way.map V.str ++ [.non]))) Kp way := by rw [SL, upd_ne nKW]; exact hK9
      generalize L2.upd H9 Wt (.lst (way.map V.str ++ [.non])) = H10 at b310 hp10 hK10
      have s03 := Same.trans s02 s3
      have jd3 : Jd C (cut [p] H3) W1 W2 q1 q2 L bk cl st st' ws := ⟨hw1.same (cut_same s03), hw2.same (cut_same s03), ⟨desk_cut hp3 two3.1, desk_cut hp3 two3.2⟩, by rw [SL, cut_out (by simpa using nL)]; exact hL.same s03⟩
      have jd10 : Jd C H10 W1 W2 q1 q2 L bk cl st st' ws := (jd3.same (cut_but b310 (by simp))).same cut_le
      have b010 : But p H H10 := (But.of s03).trans b310
      have wfr : WF bk.reverse st ws := ⟨by rw [List.map_reverse]; exact (List.reverse_perm _).nodup_iff.mpr wf1.nd, fun r hr => by
        rw [List.map_reverse]
        have := wf1.rs r (List.mem_reverse.mp hr)
        refine ⟨this.1, this.2.imp id fun ⟨a, b, c⟩ => ⟨a, b, c.nd, c.ks, fun t ht => List.mem_reverse.mpr (c.gs t ht)⟩⟩, by rw [List.map_reverse]; exact List.mem_reverse.mpr wf1.st, by rw [List.length_reverse]; exact wf1.len⟩
      have l6 := wf1.len
      obtain ⟨b, hWb, kvs, hb, hR⟩ := id jd10.w1
      have ekn : kvs.map (fun kv => kV kv.1) = (bk.map (·.1)).map V.str := by
        have := congrArg (List.map kV) hR.keys
        rw [List.map_map, List.map_map] at this
        rw [List.map_map]; exact this
      refine ⟨_, rfl, W1, _, _, _, rfl, rfl, SqL.of hWb, atI_nat (j := 0) rfl, b, kvs, rfl, .inl hb, fun a1 h1 => ?_⟩
      rw [ekn]
      have g11 := Same.new (o := .lst ((bk.map (·.1)).map V.str)) h1
      have e11 : (L2.upd H10 a1 (.lst ((bk.map (·.1)).map V.str))) a1 = some (.lst ((bk.map (·.1)).map V.str)) := upd_same
      generalize L2.upd H10 a1 (.lst ((bk.map (·.1)).map V.str)) = H11 at g11 e11
      refine ⟨a1, _, rfl, SqL.of e11, fun a2 h2 => ?_⟩
      rw [← List.map_reverse, ← List.map_reverse]
      have g12 := Same.new (o := .lst ((bk.reverse.map (·.1)).map V.str)) h2
      have e12 : SL (L2.upd H11 a2 (.lst ((bk.reverse.map (·.1)).map V.str))) a2 (bk.reverse.map (·.1)) := upd_same
      generalize L2.upd H11 a2 (.lst ((bk.reverse.map (·.1)).map V.str)) = H12 at g12 e12
      have s1012 := Same.trans g11 g12
      refine ⟨a2, rfl, ⟨_, e12.sq⟩, fun D0 hD0 => ?_⟩
      refine lc_list (K := K) (a := a2) (xs := (bk.reverse.map (·.1)).map V.str) (fun j H' => Same H12 H' ∧ ∃ (ps : List Addr) (kv2 : List (Key × V)), H' D0 = some (.lst (ps.map V.ref)) ∧ Paired (fun a (kv : Key × V) => (cut [D0] H') a = some (.tup [kV kv.1, kv.2])) ps kv2 ∧ Rows (cut [D0] H') kv2 (bk.reverse.take j)) ⟨Same.new hD0, [], [], upd_same, .nil, .nil⟩ (fun j H' _ z => (e12.same z.1).sq) ?_ ?_
      · rintro j x H13 hx ⟨sm, ps, kv2, hD, hpr, hR2⟩
        obtain ⟨s0, hs0, rfl⟩ := D1.get_map hx
        rw [List.getElem?_map] at hs0
        obtain ⟨r, hr', rfl⟩ := Option.map_eq_some_iff.mp hs0
        have hrm : r ∈ bk := List.mem_reverse.mp (List.mem_of_getElem? hr')
        obtain ⟨v1, ev, ⟨tu, a, rfl, htu, ha⟩, _⟩ := hR.look (List.mem_map_of_mem hrm)
        rw [rowOf_self wf1.nd hrm] at htu ha
        have sH := Same.trans s1012 sm
        have lj : j < bk.length := by have := (List.getElem?_eq_some_iff.mp hr').1; rwa [List.length_reverse] at this
        refine ⟨rfl, ?_⟩
        dsimp only [tYes]
        rw [if_pos rfl]
        refine ⟨_, rfl, _, rfl, W1, _, _, _, rfl, rfl, SqL.of (sH _ _ hWb), atI_nat (j := 0) rfl, _, rfl, b, _, rfl, .inl ⟨kvs, .inr r.1, .inl (sH _ _ hb), rfl, ev.symm⟩, by show 2 ≤ sizeLine; decide, fun T2 hT2 => ?_⟩
        have g := Same.new (o := .tup [.str r.1, .ref tu]) hT2
        have nT2 : T2 ≠ D0 := fun e => by rw [e, hD] at hT2; cases hT2
        have ntu : tu ≠ D0 := fun e => by rw [← e, s1012 _ _ htu] at hD0; cases hD0
        have na : a ≠ D0 := fun e => by rw [← e, s1012 _ _ ha] at hD0; cases hD0
        have lps : ps.length ≤ 6 := by rw [paired_len hpr, hR2.len, List.length_take]; omega
        refine ⟨_, g _ _ hD, by rw [List.length_map, sizeLine_eq]; omega, fun c u e => ?_, ps ++ [T2], kv2 ++ [(.inr r.1, .ref tu)], by rw [upd_same, List.map_append]; rfl, ?_, ?_⟩
        · rw [upd_ne (ne_of_none e hD0)]; exact g _ _ (sm _ _ e)
        · rw [cut_upd (by simp)]
          exact pair_app (paired_imp (fun p kv e => cut_same g _ _ e) hpr) (by rw [cut_out (by simpa using nT2)]; exact upd_same)
        · rw [cut_upd (by simp), take_succ_get hr']
          refine (hR2.same (cut_same g)).app ⟨tu, a, rfl, ?_, ?_⟩
          · rw [cut_out (by simpa using ntu)]; exact g _ _ (sH _ _ htu)
          · rw [TurnsAt, cut_out (by simpa using na)]; exact g _ _ (sH _ _ ha)
      rintro H13 ⟨s13, ps, kv2, hD13, hpr, hR2⟩
      rw [List.length_map, List.length_map, List.take_length] at hR2
      refine ⟨D0, ps, kv2, rfl, SqL.of hD13, paired_imp (fun p kv e => SqT.of (cut_le _ _ e)) hpr, fun B hB => ?_⟩
      have hR3 := hR2.same cut_le
      rw [merge_id2 (by rw [hR3.keys]; have := inr_nd' wfr.nd; rw [List.map_map] at this; exact this)]
      have gB := Same.new (o := .dK kv2) hB
      have hBk : BookAt (L2.upd H13 B (.dK kv2)) B bk.reverse := ⟨kv2, upd_same, hR3.same gB⟩
      generalize L2.upd H13 B (.dK kv2) = H14 at gB hBk
      have s1014 := Same.trans s1012 (Same.trans s13 gB)
      refine ⟨_, rfl, W1, _, _, _, rfl, rfl, SqL.of (s1014 _ _ hWb), atI_nat (j := 1) rfl, fun q9 dx hq hdx _ => ?_⟩
      have s4q : Same H14 (L2.upd (L2.upd H14 dx (.own q9)) q9 (.ins C dx [])) := fun c u e => by
        rw [upd_ne (ne_of_none e hq), upd_ne (ne_of_none e hdx)]; exact e
      refine ⟨q9, dx, B, bk.reverse, st, rfl, upd_same, hBk.same s4q, wfr.dok wok, fun H15 b15 hd _ => ⟨rfl, ?_⟩⟩
      have s15 : Same H14 H15 := fun c u e => b15 _ _ (ne_of_none e hq) (s4q _ _ e)
      have s1015 := Same.trans s1014 s15
      refine ⟨_, rfl, q9, q2, bk.reverse, cl, st, st', rfl, ⟨hd, jd10.two.2.same s1015⟩, wfr.dok wok, o2, fun H16 v16 s16 hv16 => ?_⟩
      rw [rev_ord wf1.nd, tse] at hv16
      obtain ⟨Wa, rfl, nWa, hWa⟩ := hv16
      have s1016 := Same.trans s1015 s16
      refine ⟨_, rfl, _, rfl, q1, q2, bk, cl, st, st', rfl, jd10.two.same s1016, o1, o2, fun H17 v17 s17 hv17 => ?_⟩
      rw [tse] at hv17
      obtain ⟨Wb, rfl, nWb, hWb7⟩ := hv17
      refine ⟨_, rfl, by show 2 ≤ sizeLine; decide, fun Z1 hZ1 => ?_⟩
      have g18 := Same.new (o := .lst [.ref Wb, .ref Wa]) hZ1
      have e18 : (L2.upd H17 Z1 (.lst [.ref Wb, .ref Wa])) Z1 = some (.lst [.ref Wb, .ref Wa]) := upd_same
      generalize L2.upd H17 Z1 (.lst [.ref Wb, .ref Wa]) = H18 at g18 e18
      refine ⟨_, rfl, _, rfl, by show 2 ≤ sizeLine; decide, fun Z2 hZ2 => ?_⟩
      have g19 := Same.new (o := .lst [.ref Kp, .ref Kp]) hZ2
      have e19 : (L2.upd H18 Z2 (.lst [.ref Kp, .ref Kp])) Z2 = some (.lst [.ref Kp, .ref Kp]) := upd_same
      generalize L2.upd H18 Z2 (.lst [.ref Kp, .ref Kp]) = H19 at g19 e19
      have s1719 := Same.trans g18 g19
      have s1019 := Same.trans s1016 (Same.trans s17 s1719)
      have lw2 : (way.map V.str).length ≤ 10000 := by rw [List.length_map]; omega
      have hK19 : SL H19 Kp way := hK10.same s1019
      refine ⟨_, _, rfl, .inr (.inl ⟨Z1, Z2, _, _, rfl, rfl, g19 _ _ e18, e19, by show 2 ≤ 10000; decide, .cons (.inr (.inl ⟨Wb, Kp, _, _, rfl, rfl, hWb7.same s1719, hK19, lw2, eqx_strs way⟩)) (.cons (.inr (.inl ⟨Wa, Kp, _, _, rfl, rfl, hWa.same (Same.trans s17 s1719), hK19, lw2, eqx_strs way⟩)) .nil)⟩), fun H20 s20 => ⟨_, rfl, iteT ?_⟩⟩
      have s1020 := Same.trans s1019 s20
      refine ⟨_, rfl, _, rfl, W1, bk, st, rfl, jd10.w1.same s1020, o1, fun H21 qn s21 nqn hqn => ?_⟩
      refine rEqB_of (r := true) ⟨bk, bk, st, st, jd10.two.1.same (Same.trans s1020 s21), hqn, rfl, o1, by simp⟩ ⟨_, rfl, iteT ?_⟩
      have s1021 := Same.trans s1020 s21
      refine ⟨_, rfl, _, rfl, W2, cl, st', rfl, jd10.w2.same s1021, o2, fun H22 qm s22 nqm hqm => ?_⟩
      refine rEqB_of (r := true) ⟨cl, cl, st', st', jd10.two.2.same (Same.trans s1021 s22), hqm, rfl, o2, by simp⟩ ?_
      have s1022 := Same.trans s1021 s22
      exact k H22 t9 (b010.trans (But.of s1022)) (hp10.same s1022) (by omega)
end
end D1
end L2
/-! the law -/
namespace L2
namespace D1
open PySem PySem.Spec PyProof.Rows D2 X5 X6
abbrev sLaw : Stmt := top 72
def spLaw (K : PySem.W.Frag) : Sp := fun vs H Q _ => ∃ (a : Addr) (ns : List Int), vs = [.ref a] ∧ SqL K H a (ns.map V.int) ∧ ns.length ≤ 63 ∧ ∀ H', Q (.bl true) H'
section
variable {P : Program} {w : World} {K : PySem.W.Frag} {mg : Str → Option Value} {base : Heap} {C : Addr}
abbrev CPurses (P : Program) (w : World) (K : PySem.W.Frag) (mg : Str → Option Value) (base : Heap) := Cal P w K mg base "_law_purses" 2 ["_law_script", "_law_few"] (spPurses K)
abbrev CTwo (P : Program) (w : World) (K : PySem.W.Frag) (mg : Str → Option Value) (base : Heap) := Cal P w K mg base "_law_two" 7 ["_law_purse_here"] spTwo
abbrev CTwoR (P : Program) (w : World) (K : PySem.W.Frag) (mg : Str → Option Value) (base : Heap) (C : Addr) := Cal P w K mg base "_law_two_right" 8 t2P (spTwoR C)
abbrev lwN : List Str := ["_law_script", "_law_purse_here", "_law_turn", "_law_elder", "_law_newer_here", "_law_words_here"]
theorem scLw : FnScope lwN ["_law_script"] (defScope sLaw) := ⟨rfl, rfl, rfl, by decide +kernel, rfl, by decide +kernel, by decide +kernel⟩
theorem ok_law {f : Addr} {fd : FuncData} (F : Fun K "law" "law" sLaw f fd) (T : Free4 mg) (CPu : CPurses P w K mg base) (CT : CTwo P w K mg base) (CR : CTwoR P w K mg base C) : FnOk P w K mg base CX0 9 f fd ["_law_script"] (spLaw K) := by
  refine F.ok scLw (fun vs H Q E h => ?_) (fun cdv A outer s H vs Q E0' hr h => ?_)
  · obtain ⟨a, ns, rfl, _⟩ := h; rfl
  · obtain ⟨a, ns, rfl, hS, l63, k⟩ := h
    have hu := hu_of hr
    refine ⟨_, pss_cons (ps_for PassesOwn.never rfl (pi_list (pe_cal CPu (hr.mono (by decide)) rfl (pa_cons (pv 0) (pa_cons pe_int pa_nil)))) (pg_name (i := 1) scLw.nd rfl (Or.inl rfl))
        (pss_one (ps_for PassesOwn.never rfl (pi_range1 rfl T.range (pa_cons pe_int pa_nil)) (pg_name (i := 2) scLw.nd rfl (Or.inl rfl))
          (pss_cons (ps_asg (pe_cal CT (hr.mono (by decide)) rfl (pa_cons (pv 1) pa_nil)) (pg_lst rfl (pgs_cons (pg_name (i := 3) scLw.nd rfl (Or.inl rfl)) (pgs_cons (pg_name (i := 4) scLw.nd rfl (Or.inl rfl)) (pgs_cons (pg_name (i := 5) scLw.nd rfl (Or.inl rfl)) pgs_nil)))))
          (pss_one (ps_if (pt_not (pt_val (pe_cal CR (hr.mono (by decide)) rfl (pa_cons (pv 1) (pa_cons (pv 3) (pa_cons (pv 4) (pa_cons (pv 5) pa_nil))))))) (pss_one (ps_ret pe_bl)) pss_nil))))))
      (pss_one (ps_ret pe_bl)), ?_⟩
    refine ⟨_, rfl, a, ns, 3, rfl, hS, l63, by decide, by decide, fun H1 L ps s1 hL0 hL al nd nL lp => ?_⟩
    refine ⟨L, rfl, ⟨_, SqL.of hL⟩, ?_⟩
    refine for_list (K := K) (a := L) (xs := ps.map V.ref) (fun i σ H' => ∃ v1 v2 v3 v4 v5 : Option V, σ = [some (.ref a), v1, v2, v3, v4, v5] ∧ H' L = some (.lst (ps.map V.ref)) ∧ ∀ j p, i ≤ j → ps[j]? = some p → Purse H' p 0)
      ⟨none, none, none, none, none, rfl, hL, fun j p _ e => (al p (List.mem_of_getElem? e)).2⟩ (fun i σ H' _ ⟨_, _, _, _, _, _, z, _⟩ => SqL.of z) ?_ ?_
    · rintro i x σ H2 hx ⟨v1, v2, v3, v4, v5, rfl, hL2, hpp⟩
      obtain ⟨p, ep, rfl⟩ := D1.get_map hx
      have hpi := hpp i p (Nat.le_refl _) ep
      have nLp : L ≠ p := fun h => nL (h ▸ List.mem_of_getElem? ep)
      have fin : ∀ Hf, But p H2 Hf → Hf L = some (.lst (ps.map V.ref)) ∧ ∀ j q, i + 1 ≤ j → ps[j]? = some q → Purse Hf q 0 := fun Hf b => by
        refine ⟨b _ _ nLp hL2, fun j q hj e => ?_⟩
        have nqp : q ≠ p := fun z => by
          have lj := (List.getElem?_eq_some_iff.mp e).1
          have := (List.getElem?_inj (show i < ps.length from (List.getElem?_eq_some_iff.mp ep).1) nd).mp (ep.trans (z ▸ e.symm))
          omega
        obtain ⟨g, b', z, e1, r⟩ := hpp j q (by omega) e
        exact ⟨g, b', z, b _ _ nqp e1, r⟩
      clear hpp
      refine ⟨2, rfl, by decide, by decide, ?_⟩
      refine for_range (n := 2) (fun j σ H' => ∃ (v2 v3 v4 v5 : Option V) (t' : Int), σ = [some (.ref a), some (.ref p), v2, v3, v4, v5] ∧ But p H2 H' ∧ Purse H' p t' ∧ t' ≤ 10000 * j) ⟨v2, v3, v4, v5, 0, rfl, (fun _ _ _ e => e), hpi, by omega⟩ ?_ ?_
      · rintro j σ H3 hj ⟨v2, v3, v4, v5, t3, rfl, b3, hp3, tt3⟩
        refine ⟨_, rfl, p, t3, rfl, hp3, by omega, fun H4 R A' B L4 bk cl st st' ws t4 b4 tri wf1 wf2 wok hp4 tt4 => ?_⟩
        obtain ⟨hR, w1, w2, wl⟩ := tri
        refine ⟨R, _, rfl, SqL.of (cut_le _ _ hR), rfl, _, _, rfl, _, _, rfl, _, _, rfl, rfl, ?_⟩
        refine ⟨_, rfl, _, rfl, _, rfl, _, rfl, p, A', B, L4, bk, cl, st, st', ws, t4, rfl, hp4, w1, w2, wl.same cut_le, wf1, wf2, wok, by omega, fun H5 t5 b5 hp5 tt5 => ⟨_, rfl, iteF ?_⟩⟩
        exact ⟨_, _, _, _, t5, rfl, b3.trans (b4.trans b5), hp5, by omega⟩
      · rintro σ H3 ⟨v2, v3, v4, v5, t3, rfl, b3, hp3, tt3⟩
        obtain ⟨f1, f2⟩ := fin H3 b3
        exact ⟨_, _, _, _, _, rfl, f1, f2⟩
    · rintro σ H2 ⟨v1, v2, v3, v4, v5, rfl, _⟩
      exact k H2
end
end D1
end L2
/-! the rows of the text, the law's promise -/
namespace L2
namespace D1
open PySem PySem.Spec PyProof.Rows D2 X5 X6
section
variable {K : PySem.W.Frag} {h : Heap} {mg : Str → Option Value}
/-- a def of the text -/
def RowF (K : PySem.W.Frag) (mg : Str → Option Value) (x : Str) (st : Stmt) : Prop := ∃ f fd, mg x = some (.ref f) ∧ Fun K x x st f fd
theorem rowF (X : K.In h) (G : h.Ns mainGlobals mg) {x : Str} {st : Stmt} {f : Addr} {oc kV doc pm cdv ct : Value} {od an : Option Addr} {osl : Array (Option Value)} (a : PySem.W.nsIn K mainGlobals x = some (some (.ref f)))
    (l : K.lookup f = some ⟨oc, od, .func (PySem.W.fnOf x x (defArgs st) (defBody st) (defScope st) .none kV doc pm an cdv ct), osl⟩) (c : PySem.W.codeIn K cdv x = true) (k : PySem.W.keepIn K (.ref f) = true) : RowF K mg x st :=
  ⟨f, _, PySem.W.mg_of X G a, fun_mk l c k⟩
/-- a method of the class at C -/
def RowM (K : PySem.W.Frag) (C : Addr) (m q : Str) (st : Stmt) : Prop := ∃ f fd, PySem.W.findIn K (.ref C) m = some (some (.ref f)) ∧ PySem.W.isFn K (.ref f) = true ∧ Fun K m q st f fd
theorem rowM (_ : K.In h) {C : Addr} {m q : Str} {st : Stmt} {f : Addr} {oc kV doc pm cdv ct : Value} {od an : Option Addr} {osl : Array (Option Value)} (a : PySem.W.findIn K (.ref C) m = some (some (.ref f))) (i : PySem.W.isFn K (.ref f) = true)
    (l : K.lookup f = some ⟨oc, od, .func (PySem.W.fnOf m q (defArgs st) (defBody st) (defScope st) .none kV doc pm an cdv ct), osl⟩) (c : PySem.W.codeIn K cdv q = true) (k : PySem.W.keepIn K (.ref f) = true) : RowM K C m q st :=
  ⟨f, _, a, i, fun_mk l c k⟩
theorem kit_mro {K : PySem.W.Frag} {C : Addr} {T : String} (h : PySem.W.mroIn K C (.type T) = some false) (m : PySem.W.kitMeta T = true) (_ : True) : PySem.W.kitOne K (.ref C) (.type T) = some false := by
  unfold PySem.W.kitOne
  rw [if_neg (by intro e; cases e)]
  unfold PySem.W.kitCls
  dsimp only
  rw [if_pos m]
  exact h
/-- the class Desk -/
structure DeskRow (K : PySem.W.Frag) (mg : Str → Option Value) (C : Addr) : Prop where
  txt : DTxt K mg C
  ins : C8.InsC K C
  nl : PySem.W.kitOne K (.ref C) (.type "list") = some false
  ns : PySem.W.kitOne K (.ref C) (.type "str") = some false
  mkD : PySem.W.makesIn K C = true
  kp : PySem.W.keepIn K (.ref C) = true
  m0 : RowM K C "__init__" "Desk.__init__" sDInit
  m1 : RowM K C "__eq__" "Desk.__eq__" sDEq
  m2 : RowM K C "book" "Desk.book" sDBook
  m3 : RowM K C "start" "Desk.start" sDStart
theorem deskRow (X : K.In h) (G : h.Ns mainGlobals mg) {C : Addr} (aC : PySem.W.nsIn K mainGlobals "Desk" = some (some (.ref C)))
    (pg : PySem.W.plainGet K C Str.empty = true) (hd : PySem.W.hasDictIn K C = true) (po : PySem.W.plainOver K C = true) (sa : PySem.W.findIn K (.ref C) "__setattr__" = some (some (.builtin "object.__setattr__")))
    (nB : PySem.W.findIn K (.ref C) "_book" = some none) (nS : PySem.W.findIn K (.ref C) "_start" = some none)
    (ca : PySem.W.findIn K (.ref C) "__class__" = some (some (.builtin "object.__class__"))) (gs : PySem.W.specialIn K (.builtin "object.__class__") "__get__" = some (some (.builtin "getset_descriptor.__get__"))) (ss : PySem.W.takesIn K (.builtin "object.__class__") = some true)
    (mo : PySem.W.mroIn K C (.type "object") = some true) (mk : PySem.W.makesIn K C = true) (kp : PySem.W.keepIn K (.ref C) = true) (oL : PySem.W.mroIn K C (.type "list") = some false) (oS : PySem.W.mroIn K C (.type "str") = some false)
    (m0 : RowM K C "__init__" "Desk.__init__" sDInit) (m1 : RowM K C "__eq__" "Desk.__eq__" sDEq) (m2 : RowM K C "book" "Desk.book" sDBook) (m3 : RowM K C "start" "Desk.start" sDStart) : ∃ C, DeskRow K mg C :=
  ⟨C, ⟨⟨pg, hd, po, sa⟩, nB, nS, PySem.W.mg_of X G aC⟩, ⟨⟨pg, hd, po, sa⟩, ca, gs, ss, mo, by unfold PySem.W.kitOne; rw [if_pos (beq_self_eq_true _)]⟩, kit_mro oL (by decide +kernel) (by decide +kernel), kit_mro oS (by decide +kernel) (by decide +kernel), mk, kp, m0, m1, m2, m3⟩
theorem bind1 {x : Str} {st : Stmt} {f : Addr} {fd : FuncData} {a : Str} (F : Fun K x x st f fd) (e : ∀ (kV doc pm : Value) (an : Option Addr) (cdv ct u : Value), bindArgs (PySem.W.fnOf x x (defArgs st) (defBody st) (defScope st) .none kV doc pm an cdv ct) ⟨[u], []⟩ = pure [(a, u)]) (s : Shared) (u : Value) : BindsTo s fd ⟨[u], []⟩ [(a, u)] := by
  obtain ⟨oc, od, kV, doc, pm, an, cdv, ct, osl, rfl, lk, hcd⟩ := F.ex
  exact .of_eq (e kV doc pm an cdv ct u)
theorem eq_obj : typeLookup (.type "object") (Str.ofString "__eq__") = pure (some (.builtin "object.__eq__")) := by rw [typeLookup_type, builtinLookup_eq_fast]; kernel_rfl
/-- the keys are texts -/
def KStr : List DictEntry → Prop
  | [] => True
  | e :: r => (∃ x t, e.key = .str x t) ∧ KStr r
theorem KStr.all : ∀ {l : List DictEntry}, KStr l → ∀ e ∈ l, ∃ x t, e.key = .str x t
  | _ :: _, ⟨h, _⟩, _, .head _ => h
  | _ :: _, ⟨_, r⟩, _, .tail _ m => r.all _ m
/-- the class has an own == and no own != -/
theorem neF_mk {C f N : Addr} {nm q0 : Str} {bs : List Value} {hdct : Bool} {sn : List Str} {sub : List Value} {ab : Bool} {col : Option Bool} {dd : Option Addr} {k0 k1 k2 k3 k5 : Option Value} {newId : String} {oN oc : Value} {dN od : Option Addr} {es : Array DictEntry} {n : Nat} {sN osl : Array (Option Value)} {dt : Data}
    (l : K.lookup C = some (excClassObj nm q0 C N bs [.type "object"] hdct sn sub ab col dd k0 k1 k2 k3 k5 newId)) (lN : K.lookup N = some ⟨oN, dN, .dict es n, sN⟩) (hk : KStr es.toList)
    (e1 : PySem.W.nsIn K N "__eq__" = some (some (.ref f))) (e2 : PySem.W.nsIn K N "__ne__" = some none) (lI : K.lookup f = some ⟨oc, od, dt, osl⟩) (tI : oc = .type "function") : NeF K C f := by
  refine ⟨fun h x o X hx hc => ?_⟩
  have hN : h.Ns N (fun n => nsFind es n) := ⟨_, es, n, X _ _ lN, rfl, fun e he => hk.all e (Array.mem_toList_iff.mpr he), fun _ => rfl⟩
  refine ⟨o, _, nm, q0, N, bs, hdct, sn, sub, ab, col, dd, k0, k1, k2, k3, k5, newId, _, some (.builtin "object.__eq__"), hx, hc, X _ _ l, hN, ?_, X _ _ lI, tI, PySem.F.mro_object, eq_obj, PySem.W.ns_none_of X hN e2⟩
  unfold PySem.W.nsIn at e1
  rw [lN] at e1
  dsimp only at e1
  split at e1
  · rename_i en he
    show nsFind es _ = _
    unfold nsFind findBy
    rw [← Array.find?_toList, he]
    exact Option.some.inj e1
  · split at e1 <;> cases e1
theorem neRow (X : K.In h) (G : h.Ns mainGlobals mg) {C f N : Addr} {nm q0 : Str} {bs : List Value} {hdct : Bool} {sn : List Str} {sub : List Value} {ab : Bool} {col : Option Bool} {dd : Option Addr} {k0 k1 k2 k3 k5 : Option Value} {newId : String} {oN oc : Value} {dN od : Option Addr} {es : Array DictEntry} {n : Nat} {sN osl : Array (Option Value)} {dt : Data}
    (aC : PySem.W.nsIn K mainGlobals "Desk" = some (some (.ref C))) (a1 : PySem.W.findIn K (.ref C) "__eq__" = some (some (.ref f)))
    (l : K.lookup C = some (excClassObj nm q0 C N bs [.type "object"] hdct sn sub ab col dd k0 k1 k2 k3 k5 newId)) (lN : K.lookup N = some ⟨oN, dN, .dict es n, sN⟩) (hk : KStr es.toList)
    (e1 : PySem.W.nsIn K N "__eq__" = some (some (.ref f))) (e2 : PySem.W.nsIn K N "__ne__" = some none) (lI : K.lookup f = some ⟨oc, od, dt, osl⟩) (tI : oc = .type "function") : ∀ C2 f2, mg "Desk" = some (.ref C2) → PySem.W.findIn K (.ref C2) "__eq__" = some (some (.ref f2)) → NeF K C2 f2 := by
  intro C2 f2 h1 h2
  have h3 := PySem.W.mg_of X G aC
  rw [h1] at h3
  cases h3
  rw [a1] at h2
  cases h2
  exact neF_mk l lN hk e1 e2 lI tI
theorem law_of {P : Program} {w : World} {fa : Addr} (hfa : mg "law" = some (.ref fa)) (T4 : Free4 mg) (mrv : mg "reversed" = none) (dr : ∃ C, DeskRow K mg C) (nf : ∀ C f, mg "Desk" = some (.ref C) → PySem.W.findIn K (.ref C) "__eq__" = some (some (.ref f)) → NeF K C f)
    (r0 : RowF K mg "is_name" sIsName)
    (r1 : RowF K mg "is_names" sIsNames)
    (r2 : RowF K mg "is_row" sIsRow)
    (r3 : RowF K mg "is_state_of" sIsState)
    (r4 : RowF K mg "node_behind" sNodeB)
    (r5 : RowF K mg "grown" sGrown)
    (r6 : RowF K mg "nodes_before" sBefore)
    (r7 : RowF K mg "words_to" sWordsTo)
    (r8 : RowF K mg "word_nearer" sNearer)
    (r9 : RowF K mg "shortest_way" sShortest)
    (r10 : RowF K mg "is_book" sIsBook)
    (r11 : RowF K mg "ordered_turns" sOrdT)
    (r12 : RowF K mg "ordered_book" sOrdB)
    (r13 : RowF K mg "need_desk" sNeed)
    (r14 : RowF K mg "is_talk" sIsTalk)
    (r15 : RowF K mg "books_of" sBooksOf)
    (r16 : RowF K mg "first_pair" sFirstPair)
    (r17 : RowF K mg "is_fitting" sFit)
    (r18 : RowF K mg "shared_steps" sNextOf)
    (r19 : RowF K mg "graph_of_steps" sGraphS)
    (r20 : RowF K mg "unfit_talk" sUnfit)
    (r21 : RowF K mg "is_unfit_talk" sIsUnfit)
    (r22 : RowF K mg "_law_purse" sPurse)
    (r23 : RowF K mg "_law_mixed" sMixed)
    (r24 : RowF K mg "_law_draw" sDraw)
    (r25 : RowF K mg "_law_purses" sPurses)
    (r26 : RowF K mg "_law_one_of" sOneOf)
    (r27 : RowF K mg "_law_shuffled" sShuf)
    (r28 : RowF K mg "_law_exact" sExact)
    (r29 : RowF K mg "_law_word" sWord)
    (r30 : RowF K mg "_law_words" sWords)
    (r31 : RowF K mg "_law_pool" sPool)
    (r32 : RowF K mg "_law_turns" sTurns)
    (r33 : RowF K mg "_law_world" sWorld)
    (r34 : RowF K mg "_law_shape" sShape)
    (r35 : RowF K mg "_law_desk" sLDesk)
    (r36 : RowF K mg "_law_turned" sLTurned)
    (r37 : RowF K mg "_law_changed_row" sChRow)
    (r38 : RowF K mg "_law_newer" sNewer)
    (r39 : RowF K mg "_law_said_fewer" sSaid)
    (r40 : RowF K mg "_law_viable" sViable)
    (r41 : RowF K mg "_law_sayable" sSay)
    (r42 : RowF K mg "_law_name" sName)
    (r43 : RowF K mg "_law_partner" sPart)
    (r44 : RowF K mg "_law_talks" sTalks)
    (r45 : RowF K mg "_law_row_of" sRowOf)
    (r46 : RowF K mg "_law_ended" sEnded)
    (r47 : RowF K mg "_law_round_two" sRound)
    (r48 : RowF K mg "_law_safer" sSafer)
    (r49 : RowF K mg "_law_two" sTwo)
    (r50 : RowF K mg "_law_fits" sLFits)
    (r51 : RowF K mg "_law_plain_steps" sPlain)
    (r52 : RowF K mg "_law_least_unfit" sLeastU)
    (r53 : RowF K mg "_law_is_unfit" sLIsU)
    (r54 : RowF K mg "_law_judged_right" sJudged)
    (r55 : RowF K mg "_law_turns_right" sTurnsR)
    (r56 : RowF K mg "_law_two_right" sTwoR)
    (r57 : RowF K mg "law" sLaw)
    : ∃ fd : FuncData, (∀ (s : Shared) (u : Value), BindsTo s fd ⟨[u], []⟩ [("_law_script", u)]) ∧ ∀ base : Heap, K.In base → base.Ns mainGlobals mg → FnOk P w K mg base CX0 9 fa fd ["_law_script"] (spLaw K) := by
  obtain ⟨C, R⟩ := dr
  obtain ⟨f0, d0, g0, F0⟩ := r0
  obtain ⟨f1, d1, g1, F1⟩ := r1
  obtain ⟨f2, d2, g2, F2⟩ := r2
  obtain ⟨f3, d3, g3, F3⟩ := r3
  obtain ⟨f4, d4, g4, F4⟩ := r4
  obtain ⟨f5, d5, g5, F5⟩ := r5
  obtain ⟨f6, d6, g6, F6⟩ := r6
  obtain ⟨f7, d7, g7, F7⟩ := r7
  obtain ⟨f8, d8, g8, F8⟩ := r8
  obtain ⟨f9, d9, g9, F9⟩ := r9
  obtain ⟨f10, d10, g10, F10⟩ := r10
  obtain ⟨f11, d11, g11, F11⟩ := r11
  obtain ⟨f12, d12, g12, F12⟩ := r12
  obtain ⟨f13, d13, g13, F13⟩ := r13
  obtain ⟨f14, d14, g14, F14⟩ := r14
  obtain ⟨f15, d15, g15, F15⟩ := r15
  obtain ⟨f16, d16, g16, F16⟩ := r16
  obtain ⟨f17, d17, g17, F17⟩ := r17
  obtain ⟨f18, d18, g18, F18⟩ := r18
  obtain ⟨f19, d19, g19, F19⟩ := r19
  obtain ⟨f20, d20, g20, F20⟩ := r20
  obtain ⟨f21, d21, g21, F21⟩ := r21
  obtain ⟨f22, d22, g22, F22⟩ := r22
  obtain ⟨f23, d23, g23, F23⟩ := r23
  obtain ⟨f24, d24, g24, F24⟩ := r24
  obtain ⟨f25, d25, g25, F25⟩ := r25
  obtain ⟨f26, d26, g26, F26⟩ := r26
  obtain ⟨f27, d27, g27, F27⟩ := r27
  obtain ⟨f28, d28, g28, F28⟩ := r28
  obtain ⟨f29, d29, g29, F29⟩ := r29
  obtain ⟨f30, d30, g30, F30⟩ := r30
  obtain ⟨f31, d31, g31, F31⟩ := r31
  obtain ⟨f32, d32, g32, F32⟩ := r32
  obtain ⟨f33, d33, g33, F33⟩ := r33
  obtain ⟨f34, d34, g34, F34⟩ := r34
  obtain ⟨f35, d35, g35, F35⟩ := r35
  obtain ⟨f36, d36, g36, F36⟩ := r36
  obtain ⟨f37, d37, g37, F37⟩ := r37
  obtain ⟨f38, d38, g38, F38⟩ := r38
  obtain ⟨f39, d39, g39, F39⟩ := r39
  obtain ⟨f40, d40, g40, F40⟩ := r40
  obtain ⟨f41, d41, g41, F41⟩ := r41
  obtain ⟨f42, d42, g42, F42⟩ := r42
  obtain ⟨f43, d43, g43, F43⟩ := r43
  obtain ⟨f44, d44, g44, F44⟩ := r44
  obtain ⟨f45, d45, g45, F45⟩ := r45
  obtain ⟨f46, d46, g46, F46⟩ := r46
  obtain ⟨f47, d47, g47, F47⟩ := r47
  obtain ⟨f48, d48, g48, F48⟩ := r48
  obtain ⟨f49, d49, g49, F49⟩ := r49
  obtain ⟨f50, d50, g50, F50⟩ := r50
  obtain ⟨f51, d51, g51, F51⟩ := r51
  obtain ⟨f52, d52, g52, F52⟩ := r52
  obtain ⟨f53, d53, g53, F53⟩ := r53
  obtain ⟨f54, d54, g54, F54⟩ := r54
  obtain ⟨f55, d55, g55, F55⟩ := r55
  obtain ⟨f56, d56, g56, F56⟩ := r56
  obtain ⟨f57, d57, g57, F57⟩ := r57
  rw [hfa] at g57
  cases g57
  obtain ⟨fM0, dM0, aM0, iM0, FM0⟩ := R.m0
  obtain ⟨fM1, dM1, aM1, iM1, FM1⟩ := R.m1
  obtain ⟨fM2, dM2, aM2, iM2, FM2⟩ := R.m2
  obtain ⟨fM3, dM3, aM3, iM3, FM3⟩ := R.m3
  have b0 := F0.binds (ps := ["value"]) fun _ _ _ _ _ _ us hl => match us, hl with | [_], _ => rfl
  have b1 := F1.binds (ps := ["value"]) fun _ _ _ _ _ _ us hl => match us, hl with | [_], _ => rfl
  have b2 := F2.binds (ps := ["value"]) fun _ _ _ _ _ _ us hl => match us, hl with | [_], _ => rfl
  have b3 := F3.binds (ps := ["book", "value"]) fun _ _ _ _ _ _ us hl => match us, hl with | [_, _], _ => rfl
  have b4 := F4.binds (ps := ["graph", "start", "way"]) fun _ _ _ _ _ _ us hl => match us, hl with | [_, _, _], _ => rfl
  have b5 := F5.binds (ps := ["onward", "told", "firsts"]) fun _ _ _ _ _ _ us hl => match us, hl with | [_, _, _], _ => rfl
  have b6 := F6.binds (ps := ["graph"]) fun _ _ _ _ _ _ us hl => match us, hl with | [_], _ => rfl
  have b7 := F7.binds (ps := ["graph", "goals"]) fun _ _ _ _ _ _ us hl => match us, hl with | [_, _], _ => rfl
  have b8 := F8.binds (ps := ["turns", "least", "many"]) fun _ _ _ _ _ _ us hl => match us, hl with | [_, _, _], _ => rfl
  have b9 := F9.binds (ps := ["graph", "start", "goals"]) fun _ _ _ _ _ _ us hl => match us, hl with | [_, _, _], _ => rfl
  have b10 := F10.binds (ps := ["value"]) fun _ _ _ _ _ _ us hl => match us, hl with | [_], _ => rfl
  have b11 := F11.binds (ps := ["turns"]) fun _ _ _ _ _ _ us hl => match us, hl with | [_], _ => rfl
  have b12 := F12.binds (ps := ["book"]) fun _ _ _ _ _ _ us hl => match us, hl with | [_], _ => rfl
  have b13 := F13.binds (ps := ["desk"]) fun _ _ _ _ _ _ us hl => match us, hl with | [_], _ => rfl
  have b14 := F14.binds (ps := ["value"]) fun _ _ _ _ _ _ us hl => match us, hl with | [_], _ => rfl
  have b15 := F15.binds (ps := ["one", "other"]) fun _ _ _ _ _ _ us hl => match us, hl with | [_, _], _ => rfl
  have b16 := F16.binds (ps := ["one", "other"]) fun _ _ _ _ _ _ us hl => match us, hl with | [_, _], _ => rfl
  have b17 := F17.binds (ps := ["books", "pair"]) fun _ _ _ _ _ _ us hl => match us, hl with | [_, _], _ => rfl
  have b18 := F18.binds (ps := ["books", "pair"]) fun _ _ _ _ _ _ us hl => match us, hl with | [_, _], _ => rfl
  have b19 := F19.binds (ps := ["elder", "newer"]) fun _ _ _ _ _ _ us hl => match us, hl with | [_, _], _ => rfl
  have b20 := F20.binds (ps := ["elder", "newer"]) fun _ _ _ _ _ _ us hl => match us, hl with | [_, _], _ => rfl
  have b21 := F21.binds (ps := ["elder", "newer", "value"]) fun _ _ _ _ _ _ us hl => match us, hl with | [_, _, _], _ => rfl
  have b22 := F22.binds (ps := ["_law_script", "_law_at"]) fun _ _ _ _ _ _ us hl => match us, hl with | [_, _], _ => rfl
  have b23 := F23.binds (ps := ["_law_seed", "_law_turn", "_law_at"]) fun _ _ _ _ _ _ us hl => match us, hl with | [_, _, _], _ => rfl
  have b24 := F24.binds (ps := ["_law_purse_here", "_law_many"]) fun _ _ _ _ _ _ us hl => match us, hl with | [_, _], _ => rfl
  have b25 := F25.binds (ps := ["_law_script", "_law_few"]) fun _ _ _ _ _ _ us hl => match us, hl with | [_, _], _ => rfl
  have b26 := F26.binds (ps := ["_law_purse_here", "_law_some"]) fun _ _ _ _ _ _ us hl => match us, hl with | [_, _], _ => rfl
  have b27 := F27.binds (ps := ["_law_purse_here", "_law_some"]) fun _ _ _ _ _ _ us hl => match us, hl with | [_, _], _ => rfl
  have b28 := F28.binds (ps := ["_law_mine", "_law_theirs"]) fun _ _ _ _ _ _ us hl => match us, hl with | [_, _], _ => rfl
  have b29 := F29.binds (ps := ["_law_purse_here"]) fun _ _ _ _ _ _ us hl => match us, hl with | [_], _ => rfl
  have b30 := F30.binds (ps := ["_law_purse_here", "_law_many"]) fun _ _ _ _ _ _ us hl => match us, hl with | [_, _], _ => rfl
  have b31 := F31.binds (ps := ["_law_purse_here"]) fun _ _ _ _ _ _ us hl => match us, hl with | [_], _ => rfl
  have b32 := F32.binds (ps := ["_law_purse_here", "_law_states", "_law_words_here", "_law_at", "_law_top"]) fun _ _ _ _ _ _ us hl => match us, hl with | [_, _, _, _, _], _ => rfl
  have b33 := F33.binds (ps := ["_law_purse_here", "_law_many", "_law_words_here", "_law_top"]) fun _ _ _ _ _ _ us hl => match us, hl with | [_, _, _, _], _ => rfl
  have b34 := F34.binds (ps := ["_law_purse_here", "_law_words_here"]) fun _ _ _ _ _ _ us hl => match us, hl with | [_, _], _ => rfl
  have b35 := F35.binds (ps := ["_law_world_here"]) fun _ _ _ _ _ _ us hl => match us, hl with | [_], _ => rfl
  have b36 := F36.binds (ps := ["_law_world_here"]) fun _ _ _ _ _ _ us hl => match us, hl with | [_], _ => rfl
  have b37 := F37.binds (ps := ["_law_purse_here", "_law_row", "_law_words_here", "_law_states"]) fun _ _ _ _ _ _ us hl => match us, hl with | [_, _, _, _], _ => rfl
  have b38 := F38.binds (ps := ["_law_purse_here", "_law_world_here", "_law_words_here", "_law_times"]) fun _ _ _ _ _ _ us hl => match us, hl with | [_, _, _, _], _ => rfl
  have b39 := F39.binds (ps := ["_law_purse_here", "_law_world_here"]) fun _ _ _ _ _ _ us hl => match us, hl with | [_, _], _ => rfl
  have b40 := F40.binds (ps := ["_law_world_here"]) fun _ _ _ _ _ _ us hl => match us, hl with | [_], _ => rfl
  have b41 := F41.binds (ps := ["_law_world_here", "_law_state"]) fun _ _ _ _ _ _ us hl => match us, hl with | [_, _], _ => rfl
  have b42 := F42.binds (ps := ["_law_number"]) fun _ _ _ _ _ _ us hl => match us, hl with | [_], _ => rfl
  have b43 := F43.binds (ps := ["_law_purse_here", "_law_world_here", "_law_copies"]) fun _ _ _ _ _ _ us hl => match us, hl with | [_, _, _], _ => rfl
  have b44 := F44.binds (ps := ["_law_words_here", "_law_size"]) fun _ _ _ _ _ _ us hl => match us, hl with | [_, _], _ => rfl
  have b45 := F45.binds (ps := ["_law_purse_here", "_law_top"]) fun _ _ _ _ _ _ us hl => match us, hl with | [_, _], _ => rfl
  have b46 := F46.binds (ps := ["_law_purse_here", "_law_world_here"]) fun _ _ _ _ _ _ us hl => match us, hl with | [_, _], _ => rfl
  have b47 := F47.binds (ps := ["_law_purse_here"]) fun _ _ _ _ _ _ us hl => match us, hl with | [_], _ => rfl
  have b48 := F48.binds (ps := ["_law_purse_here", "_law_world_here", "_law_words_here"]) fun _ _ _ _ _ _ us hl => match us, hl with | [_, _, _], _ => rfl
  have b49 := F49.binds (ps := ["_law_purse_here"]) fun _ _ _ _ _ _ us hl => match us, hl with | [_], _ => rfl
  have b50 := F50.binds (ps := ["_law_elder", "_law_newer_here", "_law_pair"]) fun _ _ _ _ _ _ us hl => match us, hl with | [_, _, _], _ => rfl
  have b51 := F51.binds (ps := ["_law_elder", "_law_newer_here"]) fun _ _ _ _ _ _ us hl => match us, hl with | [_, _], _ => rfl
  have b52 := F52.binds (ps := ["_law_elder", "_law_newer_here"]) fun _ _ _ _ _ _ us hl => match us, hl with | [_, _], _ => rfl
  have b53 := F53.binds (ps := ["_law_elder", "_law_newer_here", "_law_value"]) fun _ _ _ _ _ _ us hl => match us, hl with | [_, _, _], _ => rfl
  have b54 := F54.binds (ps := ["_law_purse_here", "_law_elder", "_law_newer_here", "_law_one", "_law_other", "_law_words_here", "_law_told"]) fun _ _ _ _ _ _ us hl => match us, hl with | [_, _, _, _, _, _, _], _ => rfl
  have b55 := F55.binds (ps := ["_law_purse_here", "_law_elder", "_law_newer_here", "_law_words_here", "_law_one", "_law_other"]) fun _ _ _ _ _ _ us hl => match us, hl with | [_, _, _, _, _, _], _ => rfl
  have b56 := F56.binds (ps := ["_law_purse_here", "_law_elder", "_law_newer_here", "_law_words_here"]) fun _ _ _ _ _ _ us hl => match us, hl with | [_, _, _, _], _ => rfl
  have bM0 := FM0.binds (ps := ["self", "book", "start"]) fun _ _ _ _ _ _ us hl => match us, hl with | [_, _, _], _ => rfl
  have bM1 := FM1.binds (ps := ["self", "other"]) fun _ _ _ _ _ _ us hl => match us, hl with | [_, _], _ => rfl
  have bM2 := FM2.binds (ps := ["self"]) fun _ _ _ _ _ _ us hl => match us, hl with | [_], _ => rfl
  have bM3 := FM3.binds (ps := ["self"]) fun _ _ _ _ _ _ us hl => match us, hl with | [_], _ => rfl
  refine ⟨d57, bind1 F57 fun _ _ _ _ _ _ _ => rfl, fun base _ _ => ?_⟩
  have T := T4.toFree3
  have T2 := T.toFree2
  have T1 := T2.toFree
  have D := R.txt
  have GD : FnOk P w K mg base CX0 2 f24 d24 ["_law_purse_here", "_law_many"] spDraw := ok_draw F24 T1 F23 b23 g23
  have cDraw : CDraw P w K mg base := ⟨⟨f24, d24, g24, F24.kp, GD, b24⟩⟩
  have cPurses : CPurses P w K mg base := ⟨⟨f25, d25, g25, F25.kp, ok_purses F25 T1 F22 b22 g22, b25⟩⟩
  have cOne : COne P w K mg base := ⟨⟨f26, d26, g26, F26.kp, ok_oneof F26 T1 F24.kp GD b24 g24, b26⟩⟩
  have cWord : CWord P w K mg base := ⟨⟨f29, d29, g29, F29.kp, ok_word F29 T1 F24.kp GD b24 g24, b29⟩⟩
  have cShuf : CShuf P w K mg base := ⟨⟨f27, d27, g27, F27.kp, ok_shuf F27 T1 F24.kp GD b24 g24, b27⟩⟩
  have cWords : CWords P w K mg base := ⟨⟨f30, d30, g30, F30.kp, ok_words F30 T2 cDraw cWord, b30⟩⟩
  have cPool : CPool P w K mg base := ⟨⟨f31, d31, g31, F31.kp, ok_pool F31 T2 cDraw cWords cShuf, b31⟩⟩
  have cTurns : CTurns P w K mg base := ⟨⟨f32, d32, g32, F32.kp, ok_turns F32 T2 cDraw cOne cShuf, b32⟩⟩
  have cWorld : CWorld P w K mg base := ⟨⟨f33, d33, g33, F33.kp, ok_world F33 T2 cDraw cWords cShuf cTurns, b33⟩⟩
  have cShape : CShape P w K mg base := ⟨⟨f34, d34, g34, F34.kp, ok_shape F34 T2 cDraw cWords, b34⟩⟩
  have cRow : CRow P w K mg base := ⟨⟨f45, d45, g45, F45.kp, ok_row F45 T2 cDraw cPool cWorld cShape, b45⟩⟩
  have cIsName : CIsName P w K mg base := ⟨⟨f0, d0, g0, F0.kp, ok_isname F0 T, b0⟩⟩
  have cIsNames : CIsNames P w K mg base := ⟨⟨f1, d1, g1, F1.kp, ok_isnames F1 T cIsName, b1⟩⟩
  have cIsState : CIsState P w K mg base := ⟨⟨f3, d3, g3, F3.kp, ok_isstate F3 T, b3⟩⟩
  have cIsRow : CIsRow P w K mg base := ⟨⟨f2, d2, g2, F2.kp, ok_isrow F2 T cIsName, b2⟩⟩
  have cOrdT : COrdT P w K mg base := ⟨⟨f11, d11, g11, F11.kp, ok_ordT F11 T, b11⟩⟩
  have cOrdB : COrdB P w K mg base := ⟨⟨f12, d12, g12, F12.kp, ok_ordB F12 T cOrdT, b12⟩⟩
  have cIsBook : CIsBook P w K mg base := ⟨⟨f10, d10, g10, F10.kp, ok_isbook F10 T cIsName cIsRow, b10⟩⟩
  have MI : CMInit P w K mg base C := ⟨fM0, dM0, ⟨R.mkD, aM0, iM0, R.kp⟩, ok_dinit FM0 D cIsBook cIsState cOrdB, bM0⟩
  have EQ : EqD P w K mg base C := ⟨⟨fM1, dM1, _, ok_deqB FM1 T D R.ins, bM1, aM1, iM1, nf C fM1 D.mgC aM1⟩⟩
  have MB : CMBook P w K mg base C := ⟨⟨fM2, dM2, ⟨aM2, iM2, FM2.kp⟩, ok_dbook FM2 D cOrdB, bM2⟩⟩
  have MS : CMStart P w K mg base C := ⟨⟨fM3, dM3, ⟨aM3, iM3, FM3.kp⟩, ok_dstart FM3 D, bM3⟩⟩
  have cNeed : CNeed P w K mg base C := ⟨⟨f13, d13, g13, F13.kp, ok_need F13 T D R.ins, b13⟩⟩
  have GN : FnOk P w K mg base CX0 1 f18 d18 ["books", "pair"] spNextOf := ok_shared F18
  have cGrown : CGrown P w K mg base f18 := ⟨⟨f5, d5, g5, F5.kp, ok_grown F5 T F18.kp GN b18, b5⟩⟩
  have cFit : CFit P w K mg base := ⟨⟨f17, d17, g17, F17.kp, ok_fit F17 T, b17⟩⟩
  have cNodeB : CNodeB P w K mg base := ⟨⟨f4, d4, g4, F4.kp, ok_behind F4, b4⟩⟩
  have cBefore : CBefore P w K mg base := ⟨⟨f6, d6, g6, F6.kp, ok_before F6, b6⟩⟩
  have cWordsTo : CWordsToE P w K mg base := ⟨⟨f7, d7, g7, F7.kp, ok_wordstoE F7 T cBefore, b7⟩⟩
  have cNearer : CNearerE P w K mg base := ⟨⟨f8, d8, g8, F8.kp, ok_nearerE F8, b8⟩⟩
  have cShortest : CShortE P w K mg base := ⟨⟨f9, d9, g9, F9.kp, ok_shortestE F9 mrv T1.range cWordsTo cNearer, b9⟩⟩
  have cIsTalk : CIsTalk P w K mg base := ⟨⟨f14, d14, g14, F14.kp, ok_istalk F14 cIsNames, b14⟩⟩
  have cNameO : CNameO P w K mg base := ⟨⟨f0, d0, g0, F0.kp, ok_nameO F0 T, b0⟩⟩
  have cNamesO : CNamesO P w K mg base := ⟨⟨f1, d1, g1, F1.kp, ok_namesO F1 T cNameO, b1⟩⟩
  have cTalkO : CTalkO P w K mg base := ⟨⟨f14, d14, g14, F14.kp, ok_talkO F14 cNamesO, b14⟩⟩
  have cBooksOf : CBooksOf P w K mg base C := ⟨⟨f15, d15, g15, F15.kp, ok_booksof F15 D cNeed MB, b15⟩⟩
  have cFirst : CFirst P w K mg base C := ⟨⟨f16, d16, g16, F16.kp, ok_firstpair F16 D MS, b16⟩⟩
  have cGraph : CGraphS P w K mg base C := ⟨⟨f19, d19, g19, F19.kp, ok_graph F19 g18 cBooksOf cFirst cGrown, b19⟩⟩
  have cUnfit : CUnfit P w K mg base C := ⟨⟨f20, d20, g20, F20.kp, ok_unfit F20 cGraph cFirst cFit cShortest, b20⟩⟩
  have cIsUnf : CUnf P w K mg base C := ⟨⟨f21, d21, g21, F21.kp, ok_isunfit F21 cGraph cFirst cFit cIsTalk cNodeB, b21⟩⟩
  have cIsUnfO : CUnfO P w K mg base C := ⟨⟨f21, d21, g21, F21.kp, ok_isunfitO F21 cGraph cFirst cFit cTalkO cNodeB, b21⟩⟩
  have cE : ∀ n, CExact P w K mg base n := fun n => ⟨⟨f28, d28, g28, F28.kp, ok_exact F28 T g28 b28 n, b28⟩⟩
  have cLDesk : CLDesk P w K mg base C := ⟨⟨f35, d35, g35, F35.kp, ok_ldesk F35 T D MI, b35⟩⟩
  have cLTurned : CLTurned P w K mg base := ⟨⟨f36, d36, g36, F36.kp, ok_lturned F36 T, b36⟩⟩
  have cChRow : CChRow P w K mg base := ⟨⟨f37, d37, g37, F37.kp, ok_chrow F37 T cDraw cOne, b37⟩⟩
  have cNewer : CNewer P w K mg base := ⟨⟨f38, d38, g38, F38.kp, ok_newer F38 T cOne cChRow, b38⟩⟩
  have cSaid : CSaid P w K mg base := ⟨⟨f39, d39, g39, F39.kp, ok_said F39 T cDraw cShuf, b39⟩⟩
  have cViable : CViable P w K mg base := ⟨⟨f40, d40, g40, F40.kp, ok_viable F40 T4, b40⟩⟩
  have cSay : CSay P w K mg base := ⟨⟨f41, d41, g41, F41.kp, ok_say F41 T4 cViable, b41⟩⟩
  have cName : CLName P w K mg base := ⟨⟨f42, d42, g42, F42.kp, ok_name F42, b42⟩⟩
  have cPart : CPart P w K mg base := ⟨⟨f43, d43, g43, F43.kp, ok_partner F43 T4 cName cSay cDraw cShuf, b43⟩⟩
  have cTalks : CTalks P w K mg base := ⟨⟨f44, d44, g44, F44.kp, ok_talks F44 T, b44⟩⟩
  have cEnded : CEnded P w K mg base := ⟨⟨f46, d46, g46, F46.kp, ok_ended F46 cDraw cOne, b46⟩⟩
  have cRound : CRound P w K mg base := ⟨⟨f47, d47, g47, F47.kp, ok_round F47 T cDraw cOne cWords, b47⟩⟩
  have cSafer : CSafer P w K mg base := ⟨⟨f48, d48, g48, F48.kp, ok_safer F48 T cDraw cOne cSaid, b48⟩⟩
  have cTwo : CTwo P w K mg base := ⟨⟨f49, d49, g49, F49.kp, ok_two F49 T cDraw cRow cPart cLTurned cNewer cWorld cEnded cRound cSafer, b49⟩⟩
  have cLFits : CLFits P w K mg base := ⟨⟨f50, d50, g50, F50.kp, ok_lfits F50 T, b50⟩⟩
  have cPlain : CPlain P w K mg base := ⟨⟨f51, d51, g51, F51.kp, ok_plain F51 T, b51⟩⟩
  have cLeastU : CLeastU P w K mg base := ⟨⟨f52, d52, g52, F52.kp, ok_leastu F52 T4 cPlain cLFits, b52⟩⟩
  have cLIsU : CLIsU P w K mg base := ⟨⟨f53, d53, g53, F53.kp, ok_lisu F53 T4 cPlain cLFits, b53⟩⟩
  have cJudged : CJudged P w K mg base C := ⟨⟨f54, d54, g54, F54.kp, ok_judged F54 T4 ⟨R.ins, R.nl, R.ns⟩ cOne cTalks (cE 0) cIsUnf cIsUnfO cLIsU, b54⟩⟩
  have cTurnsR : CTurnsR P w K mg base C := ⟨⟨f55, d55, g55, F55.kp, ok_turnsr F55 T4 cNewer cLDesk cShuf cTalks (cE 1) cIsUnf cLIsU cUnfit cLeastU, b55⟩⟩
  have cTwoR : CTwoR P w K mg base C := ⟨⟨f56, d56, g56, F56.kp, ok_twor F56 T4 D EQ MI cLDesk (cE 2) cLIsU cUnfit cLeastU cTurnsR cJudged, b56⟩⟩
  exact ok_law F57 T4 cPurses cTwo cTwoR
end
/-- what the head asks -/
theorem law_walk {l : PySem.W.OpenLaw} {q : Program} {loose : List Str} {XP : (Str → Option Value) → Heap → Prop} {YP : World → Heap → Prop} {d : DefRec} {K : Params → PySem.W.Frag} (hn : l.most = some 63) (hdf : d.params.defaults = []) (hY : ∀ (w : World) (h : Heap), YP w h → (K w.params).In h)
    (F : ∀ (w : World) (mg : Str → Option Value) (fa : Addr) (h : Heap), (K w.params).In h → h.Ns mainGlobals mg → mg d.name = some (.ref fa) →
      ∃ fd : FuncData, (∀ (s : Shared) (u : Value), BindsTo s fd ⟨[u], []⟩ [("_law_script", u)]) ∧ ∀ base : Heap, (K w.params).In base → base.Ns mainGlobals mg → FnOk l.prog w (K w.params) mg base CX0 9 fa fd ["_law_script"] (spLaw (K w.params))) :
    PySem.W.WalkO q loose XP YP l.row.toRowW d [] (fun f vs => PySem.call f vs) :=
  L2.walk_of (n := 63) (k := 9) (x := "_law_script") (CX := fun _ => CX0) (sp := fun w => spLaw (K w.params)) hn (by decide) hdf ⟨rfl, by decide, by decide⟩ hY F (fun _ _ a ns hl _ hS => ⟨a, ns, rfl, hS, hl, fun _ => rfl⟩) fun _ _ _ _ _ z => z
end D1
end L2
open PySem PySem.W PyProof.Rows in
set_option maxRecDepth 100000 in
set_option maxHeartbeats 0 in
theorem PySem.Challenge.cw_endswell_k52_whole_unfit_talks_holds : PySem.Challenge.rw_endswell_k52_whole_unfit_talks.Holds :=
  head (by
  k_fill
  refine L2.D1.law_walk (l := PySem.Challenge.rw_endswell_k52_whole_unfit_talks) rfl rfl (fun w h Y => PySem.W.kIn_of Y) ?F
  intro w mg fa h KX G hmg
  have f0 : L2.D1.RowF (L2.KOf KX) mg "is_name" L2.D1.sIsName := by
    dsimp only [L2.KOf]
    refine' L2.D1.rowF KX G ?a ?l ?c ?k
    (case a => k_is)
    (case l => k_is)
    (case c => k_is)
    (case k => k_is)
  have f1 : L2.D1.RowF (L2.KOf KX) mg "is_names" L2.D1.sIsNames := by
    dsimp only [L2.KOf]
    refine' L2.D1.rowF KX G ?a ?l ?c ?k
    (case a => k_is)
    (case l => k_is)
    (case c => k_is)
    (case k => k_is)
  have f2 : L2.D1.RowF (L2.KOf KX) mg "is_row" L2.D1.sIsRow := by
    dsimp only [L2.KOf]
    refine' L2.D1.rowF KX G ?a ?l ?c ?k
    (case a => k_is)
    (case l => k_is)
    (case c => k_is)
    (case k => k_is)
  have f3 : L2.D1.RowF (L2.KOf KX) mg "is_state_of" L2.D1.sIsState := by
    dsimp only [L2.KOf]
    refine' L2.D1.rowF KX G ?a ?l ?c ?k
    (case a => k_is)
    (case l => k_is)
    (case c => k_is)
    (case k => k_is)
  have f4 : L2.D1.RowF (L2.KOf KX) mg "node_behind" L2.D1.sNodeB := by
    dsimp only [L2.KOf]
    refine' L2.D1.rowF KX G ?a ?l ?c ?k
    (case a => k_is)
    (case l => k_is)
    (case c => k_is)
    (case k => k_is)
  have f5 : L2.D1.RowF (L2.KOf KX) mg "grown" L2.D1.sGrown := by
    dsimp only [L2.KOf]
    refine' L2.D1.rowF KX G ?a ?l ?c ?k
    (case a => k_is)
    (case l => k_is)
    (case c => k_is)
    (case k => k_is)
  have f6 : L2.D1.RowF (L2.KOf KX) mg "nodes_before" L2.D1.sBefore := by
    dsimp only [L2.KOf]
    refine' L2.D1.rowF KX G ?a ?l ?c ?k
    (case a => k_is)
    (case l => k_is)
    (case c => k_is)
    (case k => k_is)
  have f7 : L2.D1.RowF (L2.KOf KX) mg "words_to" L2.D1.sWordsTo := by
    dsimp only [L2.KOf]
    refine' L2.D1.rowF KX G ?a ?l ?c ?k
    (case a => k_is)
    (case l => k_is)
    (case c => k_is)
    (case k => k_is)
  have f8 : L2.D1.RowF (L2.KOf KX) mg "word_nearer" L2.D1.sNearer := by
    dsimp only [L2.KOf]
    refine' L2.D1.rowF KX G ?a ?l ?c ?k
    (case a => k_is)
    (case l => k_is)
    (case c => k_is)
    (case k => k_is)
  have f9 : L2.D1.RowF (L2.KOf KX) mg "shortest_way" L2.D1.sShortest := by
    dsimp only [L2.KOf]
    refine' L2.D1.rowF KX G ?a ?l ?c ?k
    (case a => k_is)
    (case l => k_is)
    (case c => k_is)
    (case k => k_is)
  have f10 : L2.D1.RowF (L2.KOf KX) mg "is_book" L2.D1.sIsBook := by
    dsimp only [L2.KOf]
    refine' L2.D1.rowF KX G ?a ?l ?c ?k
    (case a => k_is)
    (case l => k_is)
    (case c => k_is)
    (case k => k_is)
  have f11 : L2.D1.RowF (L2.KOf KX) mg "ordered_turns" L2.D1.sOrdT := by
    dsimp only [L2.KOf]
    refine' L2.D1.rowF KX G ?a ?l ?c ?k
    (case a => k_is)
    (case l => k_is)
    (case c => k_is)
    (case k => k_is)
  have f12 : L2.D1.RowF (L2.KOf KX) mg "ordered_book" L2.D1.sOrdB := by
    dsimp only [L2.KOf]
    refine' L2.D1.rowF KX G ?a ?l ?c ?k
    (case a => k_is)
    (case l => k_is)
    (case c => k_is)
    (case k => k_is)
  have f13 : L2.D1.RowF (L2.KOf KX) mg "need_desk" L2.D1.sNeed := by
    dsimp only [L2.KOf]
    refine' L2.D1.rowF KX G ?a ?l ?c ?k
    (case a => k_is)
    (case l => k_is)
    (case c => k_is)
    (case k => k_is)
  have f14 : L2.D1.RowF (L2.KOf KX) mg "is_talk" L2.D1.sIsTalk := by
    dsimp only [L2.KOf]
    refine' L2.D1.rowF KX G ?a ?l ?c ?k
    (case a => k_is)
    (case l => k_is)
    (case c => k_is)
    (case k => k_is)
  have f15 : L2.D1.RowF (L2.KOf KX) mg "books_of" L2.D1.sBooksOf := by
    dsimp only [L2.KOf]
    refine' L2.D1.rowF KX G ?a ?l ?c ?k
    (case a => k_is)
    (case l => k_is)
    (case c => k_is)
    (case k => k_is)
  have f16 : L2.D1.RowF (L2.KOf KX) mg "first_pair" L2.D1.sFirstPair := by
    dsimp only [L2.KOf]
    refine' L2.D1.rowF KX G ?a ?l ?c ?k
    (case a => k_is)
    (case l => k_is)
    (case c => k_is)
    (case k => k_is)
  have f17 : L2.D1.RowF (L2.KOf KX) mg "is_fitting" L2.D1.sFit := by
    dsimp only [L2.KOf]
    refine' L2.D1.rowF KX G ?a ?l ?c ?k
    (case a => k_is)
    (case l => k_is)
    (case c => k_is)
    (case k => k_is)
  have f18 : L2.D1.RowF (L2.KOf KX) mg "shared_steps" L2.D1.sNextOf := by
    dsimp only [L2.KOf]
    refine' L2.D1.rowF KX G ?a ?l ?c ?k
    (case a => k_is)
    (case l => k_is)
    (case c => k_is)
    (case k => k_is)
  have f19 : L2.D1.RowF (L2.KOf KX) mg "graph_of_steps" L2.D1.sGraphS := by
    dsimp only [L2.KOf]
    refine' L2.D1.rowF KX G ?a ?l ?c ?k
    (case a => k_is)
    (case l => k_is)
    (case c => k_is)
    (case k => k_is)
  have f20 : L2.D1.RowF (L2.KOf KX) mg "unfit_talk" L2.D1.sUnfit := by
    dsimp only [L2.KOf]
    refine' L2.D1.rowF KX G ?a ?l ?c ?k
    (case a => k_is)
    (case l => k_is)
    (case c => k_is)
    (case k => k_is)
  have f21 : L2.D1.RowF (L2.KOf KX) mg "is_unfit_talk" L2.D1.sIsUnfit := by
    dsimp only [L2.KOf]
    refine' L2.D1.rowF KX G ?a ?l ?c ?k
    (case a => k_is)
    (case l => k_is)
    (case c => k_is)
    (case k => k_is)
  have f22 : L2.D1.RowF (L2.KOf KX) mg "_law_purse" L2.D1.sPurse := by
    dsimp only [L2.KOf]
    refine' L2.D1.rowF KX G ?a ?l ?c ?k
    (case a => k_is)
    (case l => k_is)
    (case c => k_is)
    (case k => k_is)
  have f23 : L2.D1.RowF (L2.KOf KX) mg "_law_mixed" L2.D1.sMixed := by
    dsimp only [L2.KOf]
    refine' L2.D1.rowF KX G ?a ?l ?c ?k
    (case a => k_is)
    (case l => k_is)
    (case c => k_is)
    (case k => k_is)
  have f24 : L2.D1.RowF (L2.KOf KX) mg "_law_draw" L2.D1.sDraw := by
    dsimp only [L2.KOf]
    refine' L2.D1.rowF KX G ?a ?l ?c ?k
    (case a => k_is)
    (case l => k_is)
    (case c => k_is)
    (case k => k_is)
  have f25 : L2.D1.RowF (L2.KOf KX) mg "_law_purses" L2.D1.sPurses := by
    dsimp only [L2.KOf]
    refine' L2.D1.rowF KX G ?a ?l ?c ?k
    (case a => k_is)
    (case l => k_is)
    (case c => k_is)
    (case k => k_is)
  have f26 : L2.D1.RowF (L2.KOf KX) mg "_law_one_of" L2.D1.sOneOf := by
    dsimp only [L2.KOf]
    refine' L2.D1.rowF KX G ?a ?l ?c ?k
    (case a => k_is)
    (case l => k_is)
    (case c => k_is)
    (case k => k_is)
  have f27 : L2.D1.RowF (L2.KOf KX) mg "_law_shuffled" L2.D1.sShuf := by
    dsimp only [L2.KOf]
    refine' L2.D1.rowF KX G ?a ?l ?c ?k
    (case a => k_is)
    (case l => k_is)
    (case c => k_is)
    (case k => k_is)
  have f28 : L2.D1.RowF (L2.KOf KX) mg "_law_exact" L2.D1.sExact := by
    dsimp only [L2.KOf]
    refine' L2.D1.rowF KX G ?a ?l ?c ?k
    (case a => k_is)
    (case l => k_is)
    (case c => k_is)
    (case k => k_is)
  have f29 : L2.D1.RowF (L2.KOf KX) mg "_law_word" L2.D1.sWord := by
    dsimp only [L2.KOf]
    refine' L2.D1.rowF KX G ?a ?l ?c ?k
    (case a => k_is)
    (case l => k_is)
    (case c => k_is)
    (case k => k_is)
  have f30 : L2.D1.RowF (L2.KOf KX) mg "_law_words" L2.D1.sWords := by
    dsimp only [L2.KOf]
    refine' L2.D1.rowF KX G ?a ?l ?c ?k
    (case a => k_is)
    (case l => k_is)
    (case c => k_is)
    (case k => k_is)
  have f31 : L2.D1.RowF (L2.KOf KX) mg "_law_pool" L2.D1.sPool := by
    dsimp only [L2.KOf]
    refine' L2.D1.rowF KX G ?a ?l ?c ?k
    (case a => k_is)
    (case l => k_is)
    (case c => k_is)
    (case k => k_is)
  have f32 : L2.D1.RowF (L2.KOf KX) mg "_law_turns" L2.D1.sTurns := by
    dsimp only [L2.KOf]
    refine' L2.D1.rowF KX G ?a ?l ?c ?k
    (case a => k_is)
    (case l => k_is)
    (case c => k_is)
    (case k => k_is)
  have f33 : L2.D1.RowF (L2.KOf KX) mg "_law_world" L2.D1.sWorld := by
    dsimp only [L2.KOf]
    refine' L2.D1.rowF KX G ?a ?l ?c ?k
    (case a => k_is)
    (case l => k_is)
    (case c => k_is)
    (case k => k_is)
  have f34 : L2.D1.RowF (L2.KOf KX) mg "_law_shape" L2.D1.sShape := by
    dsimp only [L2.KOf]
    refine' L2.D1.rowF KX G ?a ?l ?c ?k
    (case a => k_is)
    (case l => k_is)
    (case c => k_is)
    (case k => k_is)
  have f35 : L2.D1.RowF (L2.KOf KX) mg "_law_desk" L2.D1.sLDesk := by
    dsimp only [L2.KOf]
    refine' L2.D1.rowF KX G ?a ?l ?c ?k
    (case a => k_is)
    (case l => k_is)
    (case c => k_is)
    (case k => k_is)
  have f36 : L2.D1.RowF (L2.KOf KX) mg "_law_turned" L2.D1.sLTurned := by
    dsimp only [L2.KOf]
    refine' L2.D1.rowF KX G ?a ?l ?c ?k
    (case a => k_is)
    (case l => k_is)
    (case c => k_is)
    (case k => k_is)
  have f37 : L2.D1.RowF (L2.KOf KX) mg "_law_changed_row" L2.D1.sChRow := by
    dsimp only [L2.KOf]
    refine' L2.D1.rowF KX G ?a ?l ?c ?k
    (case a => k_is)
    (case l => k_is)
    (case c => k_is)
    (case k => k_is)
  have f38 : L2.D1.RowF (L2.KOf KX) mg "_law_newer" L2.D1.sNewer := by
    dsimp only [L2.KOf]
    refine' L2.D1.rowF KX G ?a ?l ?c ?k
    (case a => k_is)
    (case l => k_is)
    (case c => k_is)
    (case k => k_is)
  have f39 : L2.D1.RowF (L2.KOf KX) mg "_law_said_fewer" L2.D1.sSaid := by
    dsimp only [L2.KOf]
    refine' L2.D1.rowF KX G ?a ?l ?c ?k
    (case a => k_is)
    (case l => k_is)
    (case c => k_is)
    (case k => k_is)
  have f40 : L2.D1.RowF (L2.KOf KX) mg "_law_viable" L2.D1.sViable := by
    dsimp only [L2.KOf]
    refine' L2.D1.rowF KX G ?a ?l ?c ?k
    (case a => k_is)
    (case l => k_is)
    (case c => k_is)
    (case k => k_is)
  have f41 : L2.D1.RowF (L2.KOf KX) mg "_law_sayable" L2.D1.sSay := by
    dsimp only [L2.KOf]
    refine' L2.D1.rowF KX G ?a ?l ?c ?k
    (case a => k_is)
    (case l => k_is)
    (case c => k_is)
    (case k => k_is)
  have f42 : L2.D1.RowF (L2.KOf KX) mg "_law_name" L2.D1.sName := by
    dsimp only [L2.KOf]
    refine' L2.D1.rowF KX G ?a ?l ?c ?k
    (case a => k_is)
    (case l => k_is)
    (case c => k_is)
    (case k => k_is)
  have f43 : L2.D1.RowF (L2.KOf KX) mg "_law_partner" L2.D1.sPart := by
    dsimp only [L2.KOf]
    refine' L2.D1.rowF KX G ?a ?l ?c ?k
    (case a => k_is)
    (case l => k_is)
    (case c => k_is)
    (case k => k_is)
  have f44 : L2.D1.RowF (L2.KOf KX) mg "_law_talks" L2.D1.sTalks := by
    dsimp only [L2.KOf]
    refine' L2.D1.rowF KX G ?a ?l ?c ?k
    (case a => k_is)
    (case l => k_is)
    (case c => k_is)
    (case k => k_is)
  have f45 : L2.D1.RowF (L2.KOf KX) mg "_law_row_of" L2.D1.sRowOf := by
    dsimp only [L2.KOf]
    refine' L2.D1.rowF KX G ?a ?l ?c ?k
    (case a => k_is)
    (case l => k_is)
    (case c => k_is)
    (case k => k_is)
  have f46 : L2.D1.RowF (L2.KOf KX) mg "_law_ended" L2.D1.sEnded := by
    dsimp only [L2.KOf]
    refine' L2.D1.rowF KX G ?a ?l ?c ?k
    (case a => k_is)
    (case l => k_is)
    (case c => k_is)
    (case k => k_is)
  have f47 : L2.D1.RowF (L2.KOf KX) mg "_law_round_two" L2.D1.sRound := by
    dsimp only [L2.KOf]
    refine' L2.D1.rowF KX G ?a ?l ?c ?k
    (case a => k_is)
    (case l => k_is)
    (case c => k_is)
    (case k => k_is)
  have f48 : L2.D1.RowF (L2.KOf KX) mg "_law_safer" L2.D1.sSafer := by
    dsimp only [L2.KOf]
    refine' L2.D1.rowF KX G ?a ?l ?c ?k
    (case a => k_is)
    (case l => k_is)
    (case c => k_is)
    (case k => k_is)
  have f49 : L2.D1.RowF (L2.KOf KX) mg "_law_two" L2.D1.sTwo := by
    dsimp only [L2.KOf]
    refine' L2.D1.rowF KX G ?a ?l ?c ?k
    (case a => k_is)
    (case l => k_is)
    (case c => k_is)
    (case k => k_is)
  have f50 : L2.D1.RowF (L2.KOf KX) mg "_law_fits" L2.D1.sLFits := by
    dsimp only [L2.KOf]
    refine' L2.D1.rowF KX G ?a ?l ?c ?k
    (case a => k_is)
    (case l => k_is)
    (case c => k_is)
    (case k => k_is)
  have f51 : L2.D1.RowF (L2.KOf KX) mg "_law_plain_steps" L2.D1.sPlain := by
    dsimp only [L2.KOf]
    refine' L2.D1.rowF KX G ?a ?l ?c ?k
    (case a => k_is)
    (case l => k_is)
    (case c => k_is)
    (case k => k_is)
  have f52 : L2.D1.RowF (L2.KOf KX) mg "_law_least_unfit" L2.D1.sLeastU := by
    dsimp only [L2.KOf]
    refine' L2.D1.rowF KX G ?a ?l ?c ?k
    (case a => k_is)
    (case l => k_is)
    (case c => k_is)
    (case k => k_is)
  have f53 : L2.D1.RowF (L2.KOf KX) mg "_law_is_unfit" L2.D1.sLIsU := by
    dsimp only [L2.KOf]
    refine' L2.D1.rowF KX G ?a ?l ?c ?k
    (case a => k_is)
    (case l => k_is)
    (case c => k_is)
    (case k => k_is)
  have f54 : L2.D1.RowF (L2.KOf KX) mg "_law_judged_right" L2.D1.sJudged := by
    dsimp only [L2.KOf]
    refine' L2.D1.rowF KX G ?a ?l ?c ?k
    (case a => k_is)
    (case l => k_is)
    (case c => k_is)
    (case k => k_is)
  have f55 : L2.D1.RowF (L2.KOf KX) mg "_law_turns_right" L2.D1.sTurnsR := by
    dsimp only [L2.KOf]
    refine' L2.D1.rowF KX G ?a ?l ?c ?k
    (case a => k_is)
    (case l => k_is)
    (case c => k_is)
    (case k => k_is)
  have f56 : L2.D1.RowF (L2.KOf KX) mg "_law_two_right" L2.D1.sTwoR := by
    dsimp only [L2.KOf]
    refine' L2.D1.rowF KX G ?a ?l ?c ?k
    (case a => k_is)
    (case l => k_is)
    (case c => k_is)
    (case k => k_is)
  have f57 : L2.D1.RowF (L2.KOf KX) mg "law" L2.D1.sLaw := by
    dsimp only [L2.KOf]
    refine' L2.D1.rowF KX G ?a ?l ?c ?k
    (case a => k_is)
    (case l => k_is)
    (case c => k_is)
    (case k => k_is)
  have dr : ∃ C, L2.D1.DeskRow (L2.KOf KX) mg C := by
    dsimp only [L2.KOf]
    refine' L2.D1.deskRow KX G ?aC ?pg ?hd ?po ?sa ?nB ?nS ?ca ?gs ?ss ?mo ?mk ?kp ?oL ?oS ?m0 ?m1 ?m2 ?m3
    (case aC => k_is)
    (case pg => k_is)
    (case hd => k_is)
    (case po => k_is)
    (case sa => k_is)
    (case nB => k_is)
    (case nS => k_is)
    (case ca => k_is)
    (case gs => k_is)
    (case ss => k_is)
    (case mo => k_is)
    (case mk => k_is)
    (case kp => k_is)
    (case oL => k_is)
    (case oS => k_is)
    (case m0 => refine' L2.D1.rowM KX ?a ?i ?l ?c ?k; (case a => k_is); (case i => k_is); (case l => k_is); (case c => k_is); (case k => k_is))
    (case m1 => refine' L2.D1.rowM KX ?a ?i ?l ?c ?k; (case a => k_is); (case i => k_is); (case l => k_is); (case c => k_is); (case k => k_is))
    (case m2 => refine' L2.D1.rowM KX ?a ?i ?l ?c ?k; (case a => k_is); (case i => k_is); (case l => k_is); (case c => k_is); (case k => k_is))
    (case m3 => refine' L2.D1.rowM KX ?a ?i ?l ?c ?k; (case a => k_is); (case i => k_is); (case l => k_is); (case c => k_is); (case k => k_is))
  have nf : ∀ C f, mg "Desk" = some (.ref C) → PySem.W.findIn (L2.KOf KX) (.ref C) "__eq__" = some (some (.ref f)) → L2.D2.NeF (L2.KOf KX) C f := by
    dsimp only [L2.KOf]
    refine' L2.D1.neRow KX G ?aC ?a1 ?l ?lN ?hk ?e1 ?e2 ?lI ?tI
    (case aC => k_is)
    (case a1 => k_is)
    (case l => k_is)
    (case lN => k_is)
    (case e1 => k_is)
    (case e2 => k_is)
    (case lI => k_is)
    (case tI => rfl)
    (case hk => repeat (first | exact True.intro | refine And.intro (Exists.intro _ (Exists.intro _ rfl)) ?_))
  have T3 : L2.D1.Free3 mg := ⟨⟨⟨PySem.W.mg_none_of KX G (by k_is), PySem.W.mg_none_of KX G (by k_is), PySem.W.mg_none_of KX G (by k_is), PySem.W.mg_none_of KX G (by k_is), PySem.W.mg_none_of KX G (by k_is), PySem.W.mg_none_of KX G (by k_is), PySem.W.mg_none_of KX G (by k_is), PySem.W.mg_none_of KX G (by k_is), PySem.W.mg_none_of KX G (by k_is)⟩, PySem.W.mg_none_of KX G (by k_is), PySem.W.mg_none_of KX G (by k_is), PySem.W.mg_none_of KX G (by k_is), PySem.W.mg_none_of KX G (by k_is), PySem.W.mg_none_of KX G (by k_is), PySem.W.mg_none_of KX G (by k_is), PySem.W.mg_none_of KX G (by k_is)⟩, ⟨_, PySem.W.mg_of KX G (by k_is)⟩, ⟨_, PySem.W.mg_of KX G (by k_is)⟩⟩
  have T : L2.D1.Free4 mg := ⟨T3, PySem.W.mg_none_of KX G (by k_is)⟩
  have mrv : mg "reversed" = none := PySem.W.mg_none_of KX G (by k_is)
  exact L2.D1.law_of hmg T mrv dr nf f0 f1 f2 f3 f4 f5 f6 f7 f8 f9 f10 f11 f12 f13 f14 f15 f16 f17 f18 f19 f20 f21 f22 f23 f24 f25 f26 f27 f28 f29 f30 f31 f32 f33 f34 f35 f36 f37 f38 f39 f40 f41 f42 f43 f44 f45 f46 f47 f48 f49 f50 f51 f52 f53 f54 f55 f56 f57)
