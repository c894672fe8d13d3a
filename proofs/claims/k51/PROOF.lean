import PyProof.Rows.All
import Wide.All
import OpenK.AllK
import Wide.FinOn
import HandS.ForMost
import HandS.Wide
import HandS.WideBits
import HandS.WideMore
import HandS.More
import HandS.DictComp
import HandS.Walk
import HandS.Conv
import HandS.Flow
import HandS.TryOnly
import HandS.IsInst
import HandS.Zip
import HandS.Codes
import HandS.OwnEq
import KE.KEqNest
import HandS.Style
import HandS.Comp
import HandS.SortOrd
import HandS.DictTup
import KE.KSortTupAny
import KE.KDictWalk
import KE.KDictList
import KE.KDictSum
import HandS.WordsDict
import HandS.ListItems
import HandS.MakeKw
import HandS.CallLocal
import PyProof.DictMoreH
import KE.DatumOrd
import KE.SortData
import HandS.TupLen
import KE.KDictKeyed
import PyProof.EqKinds
import PyProof.DictList
import KE.KEqDict
import HandS.Defaults
import HandS.ExcInit
import HandS.ExcValue
import HandS.MakeKwOnly
import HandS.WordsExc
import KE.RegKIsAll
import PyProof.InstNe
import PySem.Challenge.RW_endswell_k51_whole_safe_tables
set_option Elab.async false
set_option linter.all false
set_option maxRecDepth 100000
set_option exponentiation.threshold 4000
section
open PySem PySem.W PyProof.Rows
set_option maxHeartbeats 0
open_top head for PySem.Challenge.rw_endswell_k51_whole_safe_tables
end
set_option maxHeartbeats 8100000
namespace L2
namespace D1
open PySem PySem.Spec PyProof.Rows
def top (i : Nat) : Stmt := PySem.Challenge.pw_endswell_k51_whole_safe_tables.main.body.getD i (.Pass ⟨0, 0, 0, 0⟩)
abbrev sPurse : Stmt := top 28
abbrev sMixed : Stmt := top 29
abbrev sDraw : Stmt := top 30
abbrev sPurses : Stmt := top 31
abbrev sOneOf : Stmt := top 32
abbrev sWord : Stmt := top 36
/-- the built-ins' names are free -/
structure Free (mg : Str → Option Value) : Prop where
  sum : mg "sum" = none
  int : mg "int" = none
  max : mg "max" = none
  min : mg "min" = none
  len : mg "len" = none
  range : mg "range" = none
  repr : mg "repr" = none
  isi : mg "isinstance" = none
  all : mg "all" = none
/-- a purse: what is left of a great number, a seed, turns taken, its place -/
def Purse (H : Hp) (p : Addr) (t : Int) : Prop := ∃ g b z : Int, H p = some (.lst [.int g, .int b, .int t, .int z]) ∧ 0 ≤ g ∧ g < 10 ^ 480 ∧ 0 ≤ b ∧ b < 2147483629 ∧ 0 ≤ z ∧ z < 64 ∧ 0 ≤ t
theorem Purse.same {H H' : Hp} {p : Addr} {t : Int} (h : Purse H p t) (s : Same H H') : Purse H' p t := by
  obtain ⟨g, b, z, e, r⟩ := h; exact ⟨g, b, z, s _ _ e, r⟩
def spPurse (K : PySem.W.Frag) : Sp := fun vs H Q _ => ∃ (a : Addr) (ns : List Int) (z : Int), vs = [.ref a, .int z] ∧ SqL K H a (ns.map V.int) ∧ 0 ≤ z ∧ z < 64 ∧ ∀ H' p, Same H H' → H p = none → Purse H' p 0 → Q (.ref p) H'
def spMixed : Sp := fun vs H Q _ => ∃ (s t z : Int), vs = [.int s, .int t, .int z] ∧ 0 ≤ t ∧ t < 2 ^ 40 ∧ ∀ r : Int, 0 ≤ r → r < 2 ^ 31 → Q (.int r) H
def spDraw : Sp := fun vs H Q _ => ∃ (p : Addr) (m t : Int), vs = [.ref p, .int m] ∧ Purse H p t ∧ 1 ≤ m ∧ m < 2 ^ 27 ∧ t < 2 ^ 30 ∧ ∀ (r t' : Int) (o : HO), 0 ≤ r → r < m → t' ≤ t + 1 → Purse (upd H p o) p t' → Q (.int r) (upd H p o)
theorem op_powW {X : Cx} : OpR X (binaryOp .Pow) (rI (fun i j => 0 ≤ j ∧ (Builtin.Int.intBits i : Int) * j ≤ 2 ^ 27) fun i j => .int (i ^ j.toNat)) := opI fun _ _ _ _ _ _ _ hc q => pow_int hc.1 hc.2 q
theorem cut_ints (ns : List Int) (lo hi : Option Int) : ∃ ms : List Int, cutV (ns.map V.int) lo hi = ms.map V.int :=
  ⟨(ns.drop (HT.sIx ns.length 0 lo)).take (HT.sIx ns.length ns.length hi - HT.sIx ns.length 0 lo), by simp [cutV, List.map_drop, List.map_take]⟩
section
variable {P : Program} {w : World} {K : PySem.W.Frag} {mg : Str → Option Value} {base : Heap}
theorem scP : FnScope ["_law_script", "_law_at", "_law_seed"] ["_law_script", "_law_at"] (defScope sPurse) := ⟨rfl, rfl, rfl, by decide +kernel, rfl, by decide +kernel, by decide +kernel⟩
theorem ok_purse {f : Addr} {fd : FuncData} (F : Fun K "_law_purse" "_law_purse" sPurse f fd) (T : Free mg) : FnOk P w K mg base CX0 1 f fd ["_law_script", "_law_at"] (spPurse K) := by
  refine F.ok scP (fun vs H Q E h => ?_) (fun cdv A outer s H vs Q E hr h => ?_)
  · obtain ⟨a, ns, z, rfl, _⟩ := h; rfl
  · obtain ⟨a, ns, z, rfl, hS, z0, z1, k⟩ := h
    refine ⟨_, pss_cons (ps_set (i := 2) scP.nd rfl (Or.inl rfl) (pe_callB (cr_sum rfl) (by rfl) T.sum (by decide +kernel) (pa_cons (pe_slice sl_list (pv 0) (po_some (pv 1)) (po_some (pe_op op_add (pv 1) pe_int))) pa_nil)))
      (pss_one (ps_ret (pe_lst (pa_cons (pe_op op_mod (pe_callTy call_int1 (by rfl) T.int (by decide +kernel) (pa_cons (pe_callB (call_max2 rfl) (by rfl) T.max (by decide +kernel) (pa_cons (pe_op op_sub (pv 2) (pe_op op_pow pe_int pe_int)) (pa_cons pe_int pa_nil))) pa_nil)) (pe_op op_powW (pe_op op_pow pe_int pe_int) pe_int))
        (pa_cons (pe_op op_mod (pe_callTy call_int1 (by rfl) T.int (by decide +kernel) (pa_cons (pv 2) pa_nil)) pe_int) (pa_cons pe_int (pa_cons (pv 1) pa_nil))))))), ?_⟩
    obtain ⟨ms, em⟩ := cut_ints ns (some z) (some (z + 1))
    refine ⟨_, rfl, _, rfl, _, rfl, _, rfl, _, _, rfl, rfl, _, rfl, a, _, rfl, hS, fun q hq => ?_⟩
    refine ⟨q, ms, rfl, SqL.of (by rw [upd_same, em]), ?_⟩
    refine ⟨_, rfl, _, _, rfl, rfl, ⟨by decide, by decide, by decide⟩, _, _, rfl, rfl, _, _, rfl, .inl ⟨_, rfl, ?_⟩⟩
    refine ⟨_, _, rfl, rfl, ⟨by decide, by decide, by decide⟩, _, _, rfl, rfl, ⟨by decide, by decide +kernel⟩, _, _, rfl, rfl, (by show (0 : Int) < (10 ^ Int.toNat 60) ^ Int.toNat 8; decide +kernel), ?_⟩
    refine ⟨_, rfl, .inl ⟨_, rfl, _, _, rfl, rfl, (by show (0 : Int) < 2147483629; decide), _, rfl, by show 4 ≤ sizeLine; decide, fun p hp => ?_⟩⟩
    have hpq : p ≠ q := fun e => by rw [e, upd_same] at hp; cases hp
    have hp0 : H p = none := by rw [upd_ne hpq] at hp; exact hp
    refine k _ p (fun b o e => ?_) hp0 ⟨_, _, _, upd_same, ?_⟩
    · rw [upd_ne (ne_of_none e hp0), upd_ne (ne_of_none e hq)]; exact e
    · exact ⟨Int.emod_nonneg _ (by decide +kernel), Int.emod_lt_of_pos _ (by decide +kernel), Int.emod_nonneg _ (by decide), Int.emod_lt_of_pos _ (by decide), z0, z1, Int.le_refl _⟩
theorem scM : FnScope ["_law_seed", "_law_turn", "_law_at", "_law_mixed_here"] ["_law_seed", "_law_turn", "_law_at"] (defScope sMixed) := ⟨rfl, rfl, rfl, by decide +kernel, rfl, by decide +kernel, by decide +kernel⟩
theorem ok_mixed {f : Addr} {fd : FuncData} (F : Fun K "_law_mixed" "_law_mixed" sMixed f fd) (T : Free mg) : FnOk P w K mg base CX0 1 f fd ["_law_seed", "_law_turn", "_law_at"] spMixed := by
  refine F.ok scM (fun vs H Q E h => ?_) (fun cdv A outer s H vs Q E hr h => ?_)
  · obtain ⟨a, t, z, rfl, _⟩ := h; rfl
  · obtain ⟨a, t, z, rfl, t0, t1, k⟩ := h
    refine ⟨_, pss_cons (ps_set (i := 3) scM.nd rfl (Or.inl rfl) (pe_op op_add (pe_op op_mul (pv 0) pe_int) (pe_op op_mul (pe_op op_mul pe_int (pv 1)) (pv 1))))
      (pss_cons (ps_set (i := 3) scM.nd rfl (Or.inl rfl) (pe_op op_mod (pe_callTy call_int1 (by rfl) T.int (by decide +kernel) (pa_cons (pe_op op_add (pe_op op_add (pv 3) (pe_op op_mul pe_int (pv 2))) (pv 1)) pa_nil)) pe_int))
      (pss_cons (ps_set (i := 3) scM.nd rfl (Or.inl rfl) (pe_op op_mod (pe_callTy call_int1 (by rfl) T.int (by decide +kernel) (pa_cons (pe_op op_add (pe_op op_mul (pv 3) (pv 3)) pe_int) pa_nil)) pe_int))
      (pss_one (ps_ret (pe_op op_mod (pe_callTy call_int1 (by rfl) T.int (by decide +kernel) (pa_cons (pe_op op_mul (pv 3) pe_int) pa_nil)) pe_int))))), ?_⟩
    refine ⟨_, rfl, _, _, rfl, rfl, .inr ⟨by decide, by decide⟩, _, rfl, _, _, rfl, rfl, .inl ⟨by decide, by decide⟩, _, rfl, _, _, rfl, rfl, .inr ⟨by omega, by omega⟩, _, _, rfl, rfl, ?_⟩
    refine ⟨_, rfl, _, rfl, _, _, rfl, rfl, .inl ⟨by decide, by decide⟩, _, _, rfl, rfl, _, rfl, _, _, rfl, rfl, .inl ⟨_, rfl, _, _, rfl, rfl, (by show (0 : Int) < 2147483647; decide), ?_⟩⟩
    generalize hm : (a * 69069 + 104729 * t * t + 7919 * z + t) % 2147483647 = m
    have m0 : 0 ≤ m := by rw [← hm]; exact Int.emod_nonneg _ (by decide)
    have m1 : m < 2147483647 := by rw [← hm]; exact Int.emod_lt_of_pos _ (by decide)
    refine ⟨_, rfl, _, rfl, _, _, rfl, rfl, .inl ⟨by omega, by omega⟩, _, _, rfl, rfl, .inl ⟨_, rfl, _, _, rfl, rfl, (by show (0 : Int) < 2147483629; decide), ?_⟩⟩
    refine ⟨_, rfl, _, _, rfl, rfl, .inr ⟨by decide, by decide⟩, .inl ⟨_, rfl, _, _, rfl, rfl, (by show (0 : Int) < 2147483587; decide), ?_⟩⟩
    exact k _ (Int.emod_nonneg _ (by decide)) (Int.lt_trans (Int.emod_lt_of_pos _ (by decide)) (by decide))
theorem scD : FnScope ["_law_purse_here", "_law_many", "_law_drawn", "_law_found", "_law_piece"] ["_law_purse_here", "_law_many"] (defScope sDraw) := ⟨rfl, rfl, rfl, by decide +kernel, rfl, by decide +kernel, by decide +kernel⟩
theorem bits27 {m : Int} (h1 : 1 ≤ m) (h2 : m < 2 ^ 27) : ((Builtin.Int.intBits m : Nat) : Int) / 28 = 0 := by
  have h : Builtin.Int.intBits m ≤ 27 := PyProof.Rows.intBits_le (by omega)
  omega
theorem ok_draw {f fM : Addr} {fd fdM : FuncData} (F : Fun K "_law_draw" "_law_draw" sDraw f fd) (T : Free mg) (FM : Fun K "_law_mixed" "_law_mixed" sMixed fM fdM) (bM : Binds K fdM ["_law_seed", "_law_turn", "_law_at"] []) (gM : mg "_law_mixed" = some (.ref fM)) :
    FnOk P w K mg base CX0 2 f fd ["_law_purse_here", "_law_many"] spDraw := by
  have GM : FnOk P w K mg base CX0 1 fM fdM ["_law_seed", "_law_turn", "_law_at"] spMixed := ok_mixed FM T
  refine F.ok scD (fun vs H Q E h => ?_) (fun cdv A outer s H vs Q E hr h => ?_)
  · obtain ⟨p, m, t, rfl, _⟩ := h; rfl
  · obtain ⟨p, m, t, rfl, hp, m1, m2, t1, k⟩ := h
    refine ⟨_, pss_cons (ps_if (pt_cmpR op_gt (pe_ix ix_list (pv 0) pe_int (fun _ _ => rfl)) pe_int (nomark _))
        (pss_cons (ps_set (i := 2) scD.nd rfl (Or.inl rfl) (pe_op op_mod (pe_callTy call_int1 (by rfl) T.int (by decide +kernel) (pa_cons (pe_ix ix_list (pv 0) pe_int (fun _ _ => rfl)) pa_nil)) (pv 1)))
          (pss_cons (ps_asg (pe_op op_fdivW (pe_ix ix_list (pv 0) pe_int (fun _ _ => rfl)) (pv 1)) (pg_sub (pv 0) pe_int set_list)) (pss_one (ps_ret (pv 2))))) pss_nil)
      (pss_cons (ps_set (i := 3) scD.nd rfl (Or.inl rfl) pe_int)
      (pss_cons (ps_for PassesOwn.never rfl (pi_range1 rfl T.range (pa_cons (pe_op op_add pe_int (pe_op op_fdiv (pe_bits (pv 1)) pe_int)) pa_nil)) (pg_name (i := 4) scD.nd rfl (Or.inl rfl))
        (pss_cons (ps_asg (pe_op op_add (pe_ix ix_list (pv 0) pe_int (fun _ _ => rfl)) pe_int) (pg_sub (pv 0) pe_int set_list))
          (pss_one (ps_set (i := 3) scD.nd rfl (Or.inl rfl) (pe_op op_add (pe_op op_mul (pv 3) pe_int) (pe_call GM (hr.mono (by decide)) rfl gM FM.kp bM .nil pass0 (pa_cons (pe_ix ix_list (pv 0) pe_int (fun _ _ => rfl)) (pa_cons (pe_ix ix_list (pv 0) pe_int (fun _ _ => rfl)) (pa_cons (pe_ix ix_list (pv 0) pe_int (fun _ _ => rfl)) pa_nil)))))))))
      (pss_one (ps_ret (pe_op op_mod (pe_callTy call_int1 (by rfl) T.int (by decide +kernel) (pa_cons (pv 3) pa_nil)) (pv 1)))))), ?_⟩
    obtain ⟨g, b, z, hl, g0, g1, b0, b1, z0, z1, t0⟩ := hp
    refine ⟨_, rfl, p, _, 0, _, rfl, rfl, SqL.of hl, rfl, _, _, rfl, rfl, _, rfl, ?_⟩
    refine ite2 (fun c => ?_) (fun _ => ?_)
    · refine ⟨_, rfl, p, _, 0, _, rfl, rfl, SqL.of hl, rfl, .inl ⟨_, rfl, _, rfl, _, _, rfl, rfl, (by show (0 : Int) < m; omega), ?_⟩⟩
      refine ⟨_, rfl, p, _, 0, _, rfl, rfl, SqL.of hl, rfl, _, rfl, _, _, rfl, rfl, wide_div (b := 27) (by omega) (by omega) (by decide) (by decide), ?_⟩
      · refine ⟨_, rfl, p, _, 0, 0, rfl, rfl, hl, rfl, _, rfl, ?_⟩
        exact k _ t _ (Int.emod_nonneg _ (by omega)) (Int.emod_lt_of_pos _ (by omega)) (by omega) ⟨_, _, _, upd_same, Int.ediv_nonneg g0 (by omega), Int.lt_of_le_of_lt (Int.ediv_le_self _ g0) g1, b0, b1, z0, z1, t0⟩
    · have e1 := bits27 m1 m2
      refine ⟨_, rfl, m, rfl, _, _, rfl, rfl, ⟨by decide, by decide⟩, _, _, rfl, rfl, _, rfl, by rw [e1]; decide, by rw [e1]; decide, ?_⟩
      rw [e1]
      refine for_range (n := 1) (fun i σ H' => ∃ (fnd : Int) (v : Option V), σ = [some (.ref p), some (.int m), none, some (.int fnd), v] ∧ (i = 0 → H' = H) ∧ (0 < i → H' = upd H p (.lst [.int g, .int b, .int (t + 1), .int z]))) ⟨0, none, rfl, fun _ => rfl, fun c => absurd c (by decide)⟩ ?_ ?_
      · rintro i σ H' hi ⟨fnd, v, rfl, e0, _⟩
        obtain rfl : i = 0 := by omega
        obtain rfl := e0 rfl
        refine ⟨_, rfl, p, _, 2, _, rfl, rfl, SqL.of hl, rfl, _, _, rfl, rfl, _, rfl, p, _, 2, 2, rfl, rfl, hl, rfl, ?_⟩
        refine ⟨_, rfl, _, _, rfl, rfl, .inr ⟨by decide, by decide⟩, _, rfl, p, _, 1, _, rfl, rfl, SqL.of upd_same, rfl, _, rfl, p, _, 2, _, rfl, rfl, SqL.of upd_same, rfl, _, rfl, p, _, 3, _, rfl, rfl, SqL.of upd_same, rfl, ?_⟩
        refine ⟨_, _, _, rfl, by omega, by omega, fun r r0 r1 => ⟨_, _, rfl, rfl, _, _, rfl, fun c => absurd c (by decide), fun _ => rfl⟩⟩
      · rintro σ H' ⟨fnd, v, rfl, _, e2⟩
        obtain rfl := e2 (by decide)
        refine ⟨_, rfl, .inl ⟨_, rfl, _, rfl, _, _, rfl, rfl, (by show (0 : Int) < m; omega), ?_⟩⟩
        exact k _ (t + 1) _ (Int.emod_nonneg _ (by omega)) (Int.emod_lt_of_pos _ (by omega)) (Int.le_refl _) ⟨_, _, _, upd_same, g0, g1, b0, b1, z0, z1, by omega⟩
end
end D1
end L2
namespace L2
namespace D1
open PySem PySem.Spec PyProof.Rows
theorem Purse.upd {H : Hp} {p q : Addr} {t : Int} {o : HO} (h : Purse H p t) (n : p ≠ q) : Purse (upd H q o) p t := by
  obtain ⟨g, b, z, e, r⟩ := h; exact ⟨g, b, z, by rw [upd_ne n]; exact e, r⟩
theorem Purse.some {H : Hp} {p : Addr} {t : Int} (h : Purse H p t) : ∃ o, H p = some o := by
  obtain ⟨g, b, z, e, _⟩ := h; exact ⟨_, e⟩
/-- all that was tracked is as it was, but at p -/
def But (p : Addr) (H H' : Hp) : Prop := ∀ b o, b ≠ p → H b = some o → H' b = some o
theorem But.refl (p : Addr) (H : Hp) : But p H H := fun _ _ _ h => h
theorem But.upd (p : Addr) (H : Hp) (o : HO) : But p H (upd H p o) := fun b u n h => by rw [upd_ne n]; exact h
theorem But.trans {p : Addr} {H H1 H2 : Hp} (a : But p H H1) (b : But p H1 H2) : But p H H2 := fun c o n h => b c o n (a c o n h)
theorem But.of {p : Addr} {H H' : Hp} (s : Same H H') : But p H H' := fun b o _ h => s b o h
theorem Same.new {H : Hp} {a : Addr} {o : HO} (n : H a = none) : Same H (L2.upd H a o) := fun b u e => by rw [upd_ne (ne_of_none e n)]; exact e
def spPurses (K : PySem.W.Frag) : Sp := fun vs H Q _ => ∃ (a : Addr) (ns : List Int) (few : Int), vs = [.ref a, .int few] ∧ SqL K H a (ns.map V.int) ∧ ns.length ≤ 63 ∧ 1 ≤ few ∧ few ≤ 60 ∧
  ∀ (H' : Hp) (L : Addr) (ps : List Addr), Same H H' → H L = none → H' L = some (.lst (ps.map V.ref)) → (∀ p ∈ ps, H p = none ∧ Purse H' p 0) → ps.Nodup → L ∉ ps → ps.length ≤ 63 → Q (.ref L) H'
def spOneOf : Sp := fun vs H Q _ => ∃ (p L : Addr) (xs : List V) (t : Int), vs = [.ref p, .ref L] ∧ Purse H p t ∧ H L = some (.lst xs) ∧ L ≠ p ∧ 1 ≤ xs.length ∧ xs.length < 2 ^ 20 ∧ t < 2 ^ 30 ∧
  ∀ (i : Nat) (v : V) (t' : Int) (o : HO), xs[i]? = some v → t' ≤ t + 1 → Purse (L2.upd H p o) p t' → Q v (L2.upd H p o)
def spWord : Sp := fun vs H Q _ => ∃ (p : Addr) (t : Int), vs = [.ref p] ∧ Purse H p t ∧ t < 2 ^ 29 ∧
  ∀ (x : Str) (H' : Hp) (t' : Int), 1 ≤ x.length → x.length ≤ 8 → (∀ c ∈ x.cps.toList, 97 ≤ c ∧ c ≤ 122) → But p H H' → Purse H' p t' → t' ≤ t + 10 → Q (.str x) H'
section
variable {P : Program} {w : World} {K : PySem.W.Frag} {mg : Str → Option Value} {base : Heap}
theorem scPs : FnScope ["_law_script", "_law_few", "_law_at"] ["_law_script", "_law_few"] (defScope sPurses) := ⟨rfl, rfl, rfl, by decide +kernel, rfl, by decide +kernel, by decide +kernel⟩
theorem ok_purses {f fP : Addr} {fd fdP : FuncData} (F : Fun K "_law_purses" "_law_purses" sPurses f fd) (T : Free mg) (FP : Fun K "_law_purse" "_law_purse" sPurse fP fdP) (bP : Binds K fdP ["_law_script", "_law_at"] []) (gP : mg "_law_purse" = some (.ref fP)) :
    FnOk P w K mg base CX0 2 f fd ["_law_script", "_law_few"] (spPurses K) := by
  have GP : FnOk P w K mg base CX0 1 fP fdP ["_law_script", "_law_at"] (spPurse K) := ok_purse FP T
  refine F.ok scPs (fun vs H Q E h => ?_) (fun cdv A outer s H vs Q E hr h => ?_)
  · obtain ⟨a, ns, few, rfl, _⟩ := h; rfl
  · obtain ⟨a, ns, few, rfl, hS, l63, f1, f2, k⟩ := h
    refine ⟨_, pss_one (ps_ret (pe_lc (own := [("_law_at", 2)]) (g := gName 2) (tt := tYes) rfl scPs.nd
      (pi_range1 rfl T.range (pa_cons (pe_callB (call_max2 rfl) (by rfl) T.max (by decide +kernel) (pa_cons pe_int (pa_cons (pe_callB (call_min2 rfl) (by rfl) T.min (by decide +kernel) (pa_cons (pv 1) (pa_cons (pe_callB call_len_seq (by rfl) T.len PySem.boot_len (pa_cons (pv 0) pa_nil)) pa_nil))) pa_nil))) pa_nil))
      (blkOk_by (N := ["_law_script", "_law_few", "_law_at"]) (sc := defScope sPurses) (by decide +kernel)) (fun _ _ _ _ _ => pg_name (i := 2) scPs.nd rfl (Or.inl rfl)) (fun _ _ _ _ _ => pts_nil)
      (fun _ _ _ _ _ => pe_call GP (hr.mono (by decide)) rfl gP FP.kp bP .nil pass0 (pa_cons (pv 0) (pa_cons (pv 2) pa_nil))))), ?_⟩
    refine ⟨_, rfl, _, rfl, a, _, rfl, .inl hS, few, _, rfl, ?_⟩
    rw [List.length_map]
    generalize hm : (if (ns.length : Int) < few then (ns.length : Int) else few) = m
    have m0 : 0 ≤ m ∧ m ≤ 60 := by rw [← hm]; split <;> omega
    refine ⟨1, m, rfl, ?_⟩
    generalize hj : (if m > 1 then m else (1 : Int)) = j
    have j0 : 1 ≤ j ∧ j ≤ 60 := by rw [← hj]; split <;> omega
    refine ⟨j, rfl, by omega, by omega, fun D hD => ?_⟩
    refine lc_range (n := j.toNat) (fun i H' => ∃ ps : List Addr, ps.length = i ∧ Same H H' ∧ H' D = some (.lst (ps.map V.ref)) ∧ (∀ p ∈ ps, H p = none ∧ Purse H' p 0) ∧ ps.Nodup ∧ D ∉ ps)
      ⟨[], rfl, Same.new hD, upd_same, (fun p hp => by cases hp), List.nodup_nil, by simp⟩ ?_ ?_
    · rintro i H1 hi ⟨ps, lp, sm, hL, al, nd, nD⟩
      refine ⟨rfl, ?_⟩
      dsimp only [tYes]
      rw [if_pos rfl]
      refine ⟨_, rfl, _, rfl, a, ns, _, rfl, sm.seq hS, by omega, by omega, fun H2 p s2 np hp => ?_⟩
      have hD2 := s2 _ _ hL
      have npD : p ≠ D := fun e => by rw [e, hL] at np; cases np
      refine ⟨_, hD2, by rw [List.length_map, lp, sizeLine_eq]; omega, ps ++ [p], by rw [List.length_append, lp]; rfl, fun b o e => ?_, ?_, fun q hq => ?_, ?_, ?_⟩
      · rw [upd_ne (ne_of_none e hD)]; exact s2 _ _ (sm _ _ e)
      · rw [upd_same, List.map_append]; rfl
      · rcases List.mem_append.mp hq with hq | hq
        · obtain ⟨q0, qp⟩ := al q hq
          exact ⟨q0, (qp.same s2).upd fun e => nD (e ▸ hq)⟩
        · obtain rfl : q = p := by simpa using hq
          exact ⟨sm.free np, hp.upd npD⟩
      · refine List.nodup_append.mpr ⟨nd, by simp, fun x hx y hy e => ?_⟩
        obtain rfl : y = p := by simpa using hy
        obtain ⟨_, qp⟩ := al x hx
        obtain ⟨o, ho⟩ := qp.some
        rw [e, np] at ho; cases ho
      · intro z
        rcases List.mem_append.mp z with z | z
        · exact nD z
        · exact npD (by simpa using z : D = p).symm
    · rintro H1 ⟨ps, lp, sm, hL, al, nd, nD⟩
      exact k H1 D ps sm hD hL al nd nD (by omega)
theorem scO : FnScope ["_law_purse_here", "_law_some"] ["_law_purse_here", "_law_some"] (defScope sOneOf) := ⟨rfl, rfl, rfl, by decide +kernel, rfl, by decide +kernel, by decide +kernel⟩
theorem ok_oneof {f fD : Addr} {fd fdD : FuncData} (F : Fun K "_law_one_of" "_law_one_of" sOneOf f fd) (T : Free mg) (kD : PySem.W.keepIn K (.ref fD) = true) (GD : FnOk P w K mg base CX0 2 fD fdD ["_law_purse_here", "_law_many"] spDraw) (bD : Binds K fdD ["_law_purse_here", "_law_many"] []) (gD : mg "_law_draw" = some (.ref fD)) :
    FnOk P w K mg base CX0 3 f fd ["_law_purse_here", "_law_some"] spOneOf := by
  refine F.ok scO (fun vs H Q E h => ?_) (fun cdv A outer s H vs Q E hr h => ?_)
  · obtain ⟨p, L, xs, t, rfl, _⟩ := h; rfl
  · obtain ⟨p, L, xs, t, rfl, hp, hL, ne, l1, l2, t1, k⟩ := h
    refine ⟨_, pss_one (ps_ret (pe_ix ix_list (pv 1) (pe_call GD (hr.mono (by decide)) rfl gD kD bD .nil pass0 (pa_cons (pv 0) (pa_cons (pe_callB call_len_seq (by rfl) T.len PySem.boot_len (pa_cons (pv 1) pa_nil)) pa_nil))) (fun _ _ => rfl))), ?_⟩
    refine ⟨_, rfl, _, rfl, _, rfl, L, _, rfl, .inl (SqL.of hL), p, _, t, rfl, hp, by omega, by omega, t1, fun r t' o r0 r1 tt hp' => ?_⟩
    have hr2 : r.toNat < xs.length := by omega
    refine ⟨L, xs, r, xs[r.toNat], rfl, rfl, SqL.of (by rw [upd_ne ne]; exact hL), at_of (j := r.toNat) (by omega) (List.getElem?_eq_getElem hr2), ?_⟩
    exact k r.toNat _ t' o (List.getElem?_eq_getElem hr2) tt hp'
/-- single letters -/
def Let (y : Str) : Prop := ∃ c, 97 ≤ c ∧ c ≤ 122 ∧ y = ⟨#[c]⟩
theorem joinL_nil : ∀ ys : List (List Nat), (∀ y ∈ ys, ∃ c, 97 ≤ c ∧ c ≤ 122 ∧ y = [c]) → (TL.joinL [] ys).length = ys.length ∧ ∀ c ∈ TL.joinL [] ys, 97 ≤ c ∧ c ≤ 122
  | [], _ => ⟨rfl, fun c h => by cases h⟩
  | [p], h => by
    obtain ⟨c, c1, c2, rfl⟩ := h p (List.mem_singleton.mpr rfl)
    exact ⟨rfl, fun d hd => by obtain rfl : d = c := List.mem_singleton.mp hd; exact ⟨c1, c2⟩⟩
  | p :: q :: r, h => by
    obtain ⟨c, c1, c2, rfl⟩ := h p List.mem_cons_self
    obtain ⟨l, m⟩ := joinL_nil (q :: r) fun y hy => h y (List.mem_cons_of_mem _ hy)
    show ([c] ++ ([] ++ TL.joinL [] (q :: r))).length = _ ∧ ∀ d ∈ ([c] ++ ([] ++ TL.joinL [] (q :: r))), _
    refine ⟨by rw [List.length_append, List.nil_append, l]; simp; omega, fun d hd => ?_⟩
    rcases List.mem_append.mp hd with hd | hd
    · obtain rfl : d = c := List.mem_singleton.mp hd; exact ⟨c1, c2⟩
    · exact m d (by simpa using hd)
theorem word_of {ys : List Str} (h : ∀ y ∈ ys, Let y) : (Txt.join "" ys).length = ys.length ∧ ∀ c ∈ (Txt.join "" ys).cps.toList, 97 ≤ c ∧ c ≤ 122 := by
  have e : (Txt.join "" ys).cps.toList = TL.joinL [] (ys.map TL.tl) := by rw [TL.join_eq]; exact TL.tl_join "" ys
  obtain ⟨a, b⟩ := joinL_nil (ys.map TL.tl) fun y hy => by
    obtain ⟨z, hz, rfl⟩ := List.mem_map.mp hy
    obtain ⟨c, c1, c2, rfl⟩ := h z hz
    exact ⟨c, c1, c2, rfl⟩
  rw [List.length_map] at a
  refine ⟨?_, fun c hc => b c (e ▸ hc)⟩
  show (Txt.join "" ys).cps.size = _
  rw [← Array.length_toList, e, a]
theorem abc_at (r : Int) (r0 : 0 ≤ r) (r1 : r < 26) : ∃ c, atI (Str.ofString "abcdefghijklmnopqrstuvwxyz").cps.toList r = some c ∧ 97 ≤ c ∧ c ≤ 122 := by
  have h : ∀ j : Fin 26, ∃ c, (Str.ofString "abcdefghijklmnopqrstuvwxyz").cps.toList[j.val]? = some c ∧ 97 ≤ c ∧ c ≤ 122 := by
    intro j
    refine ⟨97 + j.val, ?_, by omega, by omega⟩
    revert j
    decide +kernel
  obtain ⟨c, e, q⟩ := h ⟨r.toNat, by omega⟩
  refine ⟨c, ?_, q⟩
  rw [show r = ((r.toNat : Nat) : Int) by omega]
  exact atI_nat e
theorem scW : FnScope ["_law_purse_here", "_law_size", "_law_turn"] ["_law_purse_here"] (defScope sWord) := ⟨rfl, rfl, rfl, by decide +kernel, rfl, by decide +kernel, by decide +kernel⟩
theorem ok_word {f fD : Addr} {fd fdD : FuncData} (F : Fun K "_law_word" "_law_word" sWord f fd) (T : Free mg) (kD : PySem.W.keepIn K (.ref fD) = true) (GD : FnOk P w K mg base CX0 2 fD fdD ["_law_purse_here", "_law_many"] spDraw) (bD : Binds K fdD ["_law_purse_here", "_law_many"] []) (gD : mg "_law_draw" = some (.ref fD)) :
    FnOk P w K mg base CX0 3 f fd ["_law_purse_here"] spWord := by
  refine F.ok scW (fun vs H Q E h => ?_) (fun cdv A outer s H vs Q E hr h => ?_)
  · obtain ⟨p, t, rfl, _⟩ := h; rfl
  · obtain ⟨p, t, rfl, hp, t1, k⟩ := h
    refine ⟨_, pss_cons (ps_set (i := 1) scW.nd rfl (Or.inl rfl) (pe_op op_add pe_int (pe_call GD (hr.mono (by decide)) rfl gD kD bD .nil pass0 (pa_cons (pv 0) (pa_cons (pe_ifExp (pt_cmpR op_eq (pe_call GD (hr.mono (by decide)) rfl gD kD bD .nil pass0 (pa_cons (pv 0) (pa_cons pe_int pa_nil))) pe_int (nomark _)) pe_int pe_int) pa_nil)))))
      (pss_one (ps_ret (pe_join pe_str (pe_lc (own := [("_law_turn", 2)]) (g := gName 2) (tt := tYes) rfl scW.nd (pi_range1 rfl T.range (pa_cons (pv 1) pa_nil))
        (blkOk_by (N := ["_law_purse_here", "_law_size", "_law_turn"]) (sc := defScope sWord) (by decide +kernel)) (fun _ _ _ _ _ => pg_name (i := 2) scW.nd rfl (Or.inl rfl)) (fun _ _ _ _ _ => pts_nil)
        (fun _ _ _ _ _ => pe_ix ix_str pe_str (pe_call GD (hr.mono (by decide)) rfl gD kD bD .nil pass0 (pa_cons (pv 0) (pa_cons pe_int pa_nil))) (fun _ _ => rfl)))))), ?_⟩
    refine ⟨_, rfl, _, rfl, p, 3, t, rfl, hp, by decide, by decide, by omega, fun r1 t2 o1 r10 r11 tt1 hp1 => ?_⟩
    refine ⟨rfl, _, rfl, ?_⟩
    refine ite2 (fun _ => ?_) (fun _ => ?_) <;> refine ⟨p, _, t2, rfl, hp1, by decide, by decide, by omega, fun r2 t3 o2 r20 r21 tt2 hp2 => ⟨_, _, rfl, rfl, ?_⟩⟩
    all_goals
      have rb : r2 < 8 := by omega
      clear r21
      have bt : But p H (L2.upd (L2.upd H p o1) p o2) := (But.upd p H o1).trans (But.upd p _ o2)
      generalize L2.upd (L2.upd H p o1) p o2 = H0 at hp2 bt
      refine ⟨⟨_, rfl⟩, _, rfl, _, rfl, by omega, by omega, fun D hD => ?_⟩
      have nD : p ≠ D := by obtain ⟨o, ho⟩ := hp2.some; exact ne_of_none ho hD
      refine lc_range (n := (1 + r2).toNat) (fun i H' => ∃ ys : List Str, ys.length = i ∧ (∀ y ∈ ys, Let y) ∧ H' D = some (.lst (ys.map V.str)) ∧ But p H0 H' ∧ ∃ t', Purse H' p t' ∧ t' ≤ t + 2 + i) ⟨[], rfl, (fun y hy => by cases hy), upd_same, But.of (Same.new hD), t3, hp2.upd nD, by omega⟩ ?_ ?_
      · rintro i H1 hi ⟨ys, ly, al, hL, b1, t', hp', tl'⟩
        refine ⟨rfl, ?_⟩
        dsimp only [tYes]
        rw [if_pos rfl]
        refine ⟨_, rfl, p, 26, t', rfl, hp', by decide, by decide, by omega, fun r t4 o r0 r1 tt hp4 => ?_⟩
        obtain ⟨c, ec, c1, c2⟩ := abc_at r r0 r1
        refine ⟨_, r, c, rfl, rfl, by decide +kernel, ec, _, by rw [upd_ne nD.symm]; exact hL, by rw [List.length_map, ly, sizeLine_eq]; omega, ys ++ [⟨#[c]⟩], by rw [List.length_append, ly]; rfl, fun y hy => ?_, ?_, ?_, t4, hp4.upd nD, by omega⟩
        · rcases List.mem_append.mp hy with hy | hy
          · exact al y hy
          · exact ⟨c, c1, c2, by simpa using hy⟩
        · rw [upd_same, List.map_append]; rfl
        · intro b u nb e
          have nbD : b ≠ D := ne_of_none e hD
          rw [upd_ne nbD, upd_ne nb]; exact b1 b u nb e
      · rintro H1 ⟨ys, ly, al, hL, b1, t', hp', tl'⟩
        obtain ⟨lw, cw⟩ := word_of al
        refine ⟨_, D, ys, rfl, rfl, .inl (SqL.of hL), ?_, ?_⟩
        · have one : (ys.map (·.length)).sum ≤ ys.length := by
            clear lw cw hL ly
            induction ys with
            | nil => exact Nat.le_refl _
            | cons y r ih =>
              obtain ⟨c, _, _, rfl⟩ := al y List.mem_cons_self
              have := ih fun z hz => al z (List.mem_cons_of_mem _ hz)
              simp only [List.map_cons, List.sum_cons, List.length_cons]
              show 1 + _ ≤ _
              omega
          have z0 : (Str.ofString "").length = 0 := rfl
          rw [z0]; omega
        · exact k _ H1 t' (by rw [lw]; omega) (by rw [lw]; omega) cw (bt.trans b1) hp' (by omega)
end
end D1
end L2
namespace L2
namespace D1
open PySem PySem.Spec PyProof.Rows
/-- the heap without what stands at S -/
def cut (S : List Addr) (H : Hp) : Hp := fun b => if b ∈ S then none else H b
section
variable {S : List Addr} {H H' : Hp} {p q D : Addr} {o : HO}
theorem cut_in (h : q ∈ S) : cut S H q = none := if_pos h
theorem cut_out (h : q ∉ S) : cut S H q = H q := if_neg h
theorem cut_some {u : HO} (h : cut S H q = some u) : q ∉ S ∧ H q = some u := by
  unfold cut at h
  split at h
  · cases h
  · exact ⟨by assumption, h⟩
theorem cut_le : Same (cut S H) H := fun _ _ h => (cut_some h).2
theorem cut_mono {S' : List Addr} (h : ∀ b ∈ S', b ∈ S) : Same (cut S H) (cut S' H) := fun b o e => by
  obtain ⟨n, e⟩ := cut_some e
  rw [cut_out fun z => n (h b z)]; exact e
theorem cut_upd (h : q ∈ S) : cut S (upd H q o) = cut S H := by
  funext b
  by_cases hb : b ∈ S
  · rw [cut_in hb, cut_in hb]
  · rw [cut_out hb, cut_out hb, upd_ne fun e => hb (by rw [e]; exact h)]
theorem cut_same (s : Same H H') : Same (cut S H) (cut S H') := fun b o e => by
  obtain ⟨n, e⟩ := cut_some e
  rw [cut_out n]; exact s _ _ e
theorem cut_but (s : But p H H') (h : p ∈ S) : Same (cut S H) (cut S H') := fun b o e => by
  obtain ⟨n, e⟩ := cut_some e
  rw [cut_out n]; exact s _ _ (fun z => n (z ▸ h)) e
theorem cut_new (n : H q = none) : Same (cut S H) (cut S (upd H q o)) := cut_same (Same.new n)
/-- what is new may be hidden -/
theorem cut_hide (n : H q = none) : Same (cut S H) (cut (q :: S) H) := fun b o e => by
  obtain ⟨m, e⟩ := cut_some e
  rw [cut_out fun z => by rcases List.mem_cons.mp z with z | z; exact absurd e (by rw [z, n]; exact fun y => by cases y); exact m z]; exact e
theorem cut_nil : Same H (cut [] H) := fun b o e => by rw [cut_out (by simp)]; exact e
theorem But.new (n : H q = none) : But p H (L2.upd H q o) := But.of (Same.new n)
/-- a list of texts -/
def SL (H : Hp) (a : Addr) (ss : List Str) : Prop := H a = some (.lst (ss.map V.str))
theorem SL.same {a : Addr} {ss : List Str} (h : SL H a ss) (s : Same H H') : SL H' a ss := s _ _ h
theorem SL.sq {K : PySem.W.Frag} {a : Addr} {ss : List Str} (h : SL H a ss) : SqL K H a (ss.map V.str) := SqL.of h
end
theorem perm_ins {α : Type} (xs : List α) (i : Nat) (y : α) : (xs.take i ++ [y] ++ xs.drop i).Perm (xs ++ [y]) := by
  have h : (xs.take i ++ ([y] ++ xs.drop i)).Perm (xs.take i ++ (xs.drop i ++ [y])) := (List.perm_append_comm).append_left _
  rw [List.append_assoc]
  refine h.trans ?_
  rw [← List.append_assoc, List.take_append_drop]
theorem take_succ_get {α : Type} {xs : List α} {i : Nat} {x : α} (h : xs[i]? = some x) : xs.take (i + 1) = xs.take i ++ [x] := by
  rw [List.take_succ, h]; rfl
abbrev sShuf : Stmt := top 33
def spShuf : Sp := fun vs H Q _ => ∃ (p L : Addr) (xs : List V) (t : Int), vs = [.ref p, .ref L] ∧ Purse H p t ∧ H L = some (.lst xs) ∧ L ≠ p ∧ xs.length ≤ 1000 ∧ t < 2 ^ 29 ∧
  ∀ (H' : Hp) (R : Addr) (ys : List V) (t' : Int), But p H H' → H R = none → H' R = some (.lst ys) → ys.Perm xs → Purse H' p t' → t' ≤ t + xs.length → Q (.ref R) H'
section
variable {P : Program} {w : World} {K : PySem.W.Frag} {mg : Str → Option Value} {base : Heap}
theorem scSh : FnScope ["_law_purse_here", "_law_some", "_law_found", "_law_item"] ["_law_purse_here", "_law_some"] (defScope sShuf) := ⟨rfl, rfl, rfl, by decide +kernel, rfl, by decide +kernel, by decide +kernel⟩
theorem ok_shuf {f fD : Addr} {fd fdD : FuncData} (F : Fun K "_law_shuffled" "_law_shuffled" sShuf f fd) (T : Free mg) (kD : PySem.W.keepIn K (.ref fD) = true) (GD : FnOk P w K mg base CX0 2 fD fdD ["_law_purse_here", "_law_many"] spDraw) (bD : Binds K fdD ["_law_purse_here", "_law_many"] []) (gD : mg "_law_draw" = some (.ref fD)) :
    FnOk P w K mg base CX0 3 f fd ["_law_purse_here", "_law_some"] spShuf := by
  refine F.ok scSh (fun vs H Q E h => ?_) (fun cdv A outer s H vs Q E hr h => ?_)
  · obtain ⟨p, L, xs, t, rfl, _⟩ := h; rfl
  · obtain ⟨p, L, xs, t, rfl, hp, hL, ne, l1, t1, k⟩ := h
    refine ⟨_, pss_cons (ps_set (i := 2) scSh.nd rfl (Or.inl rfl) (pe_lst pa_nil))
      (pss_cons (ps_for PassesOwn.never rfl (pi_list (pv 1)) (pg_name (i := 3) scSh.nd rfl (Or.inl rfl))
        (pss_one (ps_expr (pe_bm PySem.F.plainAttrs_list PySem.F.slot_list_insert PySem.F.type_list_insert mt_insert (pv 2)
          (pa_cons (pe_call GD (hr.mono (by decide)) rfl gD kD bD .nil pass0 (pa_cons (pv 0) (pa_cons (pe_op op_add (pe_callB call_len_seq (by rfl) T.len PySem.boot_len (pa_cons (pv 2) pa_nil)) pe_int) pa_nil))) (pa_cons (pv 3) pa_nil))))))
      (pss_one (ps_ret (pv 2)))), ?_⟩
    refine ⟨by decide, fun D hD => ?_⟩
    have nD : p ≠ D := by obtain ⟨o, ho⟩ := hp.some; exact ne_of_none ho hD
    have nL : L ≠ D := ne_of_none hL hD
    refine ⟨_, rfl, L, rfl, ⟨_, SqL.of (by rw [upd_ne nL]; exact hL)⟩, for_list (xs := xs) (K := K) (fun i σ H' => ∃ (v : Option V) (ys : List V) (t' : Int), σ = [some (.ref p), some (.ref L), some (.ref D), v] ∧ But p H H' ∧ H' D = some (.lst ys) ∧ ys.Perm (xs.take i) ∧ Purse H' p t' ∧ t' ≤ t + i) ⟨none, [], t, rfl, But.new hD, upd_same, by simp, hp.upd nD, by omega⟩ ?_ ?_ ?_⟩
    · rintro i σ H' hi ⟨v, ys, t', rfl, b, _⟩
      exact SqL.of (b _ _ ne hL)
    · rintro i x σ H' hx ⟨v, ys, t', rfl, b, hD', pm, hp', tt⟩
      have hi : i < xs.length := (List.getElem?_eq_some_iff.mp hx).1
      have ly : ys.length = i := by rw [pm.length_eq, List.length_take]; omega
      refine ⟨_, rfl, .inl ⟨rfl, _, SqL.of hD'⟩, _, rfl, _, rfl, D, _, rfl, .inl (SqL.of hD'), _, _, rfl, rfl, p, _, t', rfl, hp', by omega, by omega, by omega, fun r t2 o r0 r1 tt2 hp2 => ?_⟩
      refine ⟨_, rfl, D, ys, r, x, rfl, rfl, by rw [upd_ne nD.symm]; exact hD', by rw [sizeLine_eq]; omega, r0, by omega, ?_⟩
      refine ⟨_, _, t2, rfl, ?_, upd_same, ?_, hp2.upd nD, by omega⟩
      · intro b' u nb e
        rw [upd_ne (ne_of_none e hD), upd_ne nb]; exact b b' u nb e
      · rw [take_succ_get hx]
        exact (perm_ins ys _ x).trans (pm.append_right _)
    · rintro σ H' ⟨v, ys, t', rfl, b, hD', pm, hp', tt⟩
      rw [List.take_length] at pm
      exact ⟨_, rfl, k H' D ys t' b hD hD' pm hp' tt⟩
end
end D1
end L2
namespace L2
namespace D1
open PySem PySem.Spec PyProof.Rows
/-- the def that stands under the name x keeps a promise -/
structure Cal (P : Program) (w : World) (K : PySem.W.Frag) (mg : Str → Option Value) (base : Heap) (x : Str) (k : Nat) (ps : List Str) (sp : Sp) : Prop where
  ex : ∃ f fd, mg x = some (.ref f) ∧ PySem.W.keepIn K (.ref f) = true ∧ FnOk P w K mg base CX0 k f fd ps sp ∧ Binds K fd ps []
theorem pe_cal {X : Cx} {x : Str} {k : Nat} {ps : List Str} {sp : Sp} {e : Expr} {es : List Expr} {t : TA} {p pos : Pos} (C : Cal X.prog X.w X.K X.mg X.base x k ps sp) (hr : Room k X.A) (hg : Gl X x) (ha : PA X (e :: es) t)
    (hdb : (x == ("__debug__" : Str)) = false := by decide) (he : starEach (e :: es) X.env = (false, eval e X.env) :: starEach es X.env := by rfl) (hpl : (backTo pos (starEach es X.env)).any (·.1) = false := by rfl) :
    PE X (.Call (.Name x p) (e :: es) [] pos) (tCall sp [] E0 t) := by
  obtain ⟨f, fd, h1, h2, h3, h4⟩ := C.ex
  exact pe_call h3 hr hg h1 h2 h4 .nil pass0 ha hdb he hpl
theorem Cal.of {P : Program} {w : World} {K : PySem.W.Frag} {mg : Str → Option Value} {base : Heap} {x : Str} {k : Nat} {ps : List Str} {sp : Sp} {f : Addr} {fd : FuncData} (g : mg x = some (.ref f)) (kp : PySem.W.keepIn K (.ref f) = true) (F : FnOk P w K mg base CX0 k f fd ps sp) (b : Binds K fd ps []) : Cal P w K mg base x k ps sp := ⟨⟨f, fd, g, kp, F, b⟩⟩
def signs (z : Str) : List Str := z.cps.toList.map fun c => ⟨#[c]⟩
theorem call_listStr {X : Cx} (hc : X.calm = true) : CallR X (.type "list") (fun xs H Q => ∃ z : Str, xs = [.str z] ∧ z.cps.size ≤ sizeLine ∧ ∀ l, H l = none → Q (.ref l) (upd H l (.lst ((signs z).map V.str)))) := by
  intro pins s σ H xs us Q I r h
  obtain ⟨z, rfl, hz, q⟩ := h
  obtain ⟨u, rfl, t, rfl⟩ := vals1 r
  refine PySem.call_list_str (I.ok.hd hc) z t (fun h' tk acc' c' hkeep hS hacc => ?_) hz
  refine ⟨.ref s.heap.objs.size, upd H s.heap.objs.size (.lst ((signs z).map V.str)), I.laid hkeep (Nat.le_refl _) (show ObjOk X.prog X.w _ _ _ (.lst ((signs z).map V.str)) from ⟨?_, acc'.toList, c', ?_, ?_⟩), rfl, q _ (I.hok.fresh (Nat.le_refl _))⟩
  · rw [List.length_map, signs, List.length_map, Array.length_toList]; exact hz
  · have el : acc'.toList.length = acc'.size := by simp
    refine vals_of_at (by rw [List.length_map, signs, List.length_map, Array.length_toList, el, hacc.1]) fun j x w h1 h2 => ?_
    obtain ⟨c, v, hc, rfl⟩ := hacc.2 j w (by rw [← Array.getElem?_toList]; exact h2)
    rw [signs, List.map_map, List.getElem?_map, Array.getElem?_toList, hc] at h1
    cases h1
    exact ⟨v, rfl⟩
  · rw [Array.toArray_toList]; exact hS
def tl (x : Str) : List Nat := x.cps.toList
theorem tl_len (x : Str) : (tl x).length = x.length := Array.length_toList
theorem tl_app (x y : Str) : tl (x ++ y) = tl x ++ tl y := by
  show (x.cps ++ y.cps).toList = _
  rw [Array.toList_append]; rfl
theorem tl_ext {x y : Str} (h : tl x = tl y) : x = y := by
  cases x; cases y; exact congrArg _ (Array.toList_inj.mp h)
theorem tl_cut (z : Str) (lo hi : Option Int) : tl (cutS z lo hi) = ((tl z).drop (HT.sIx z.length 0 lo)).take (HT.sIx z.length z.length hi - HT.sIx z.length 0 lo) := rfl
/-- a word -/
structure Wd (x : Str) : Prop where
  lo : 1 ≤ x.length
  hi : x.length ≤ 8
  ok : ∀ c ∈ tl x, 97 ≤ c ∧ c ≤ 122
theorem wd_let {c : Nat} (h1 : 97 ≤ c) (h2 : c ≤ 122) : Wd ⟨#[c]⟩ := ⟨by show 1 ≤ 1; decide, by show 1 ≤ 8; decide, fun d hd => by obtain rfl : d = c := List.mem_singleton.mp hd; exact ⟨h1, h2⟩⟩
theorem sIx_of {n d : Nat} {r : Int} (h : 0 ≤ r) : HT.sIx n d (some r) = min r.toNat n := by
  show (if r < 0 then _ else _) = _
  rw [if_neg (by omega)]
theorem wd_bent {b : Str} {r : Int} {c : Nat} (h : Wd b) (r0 : 0 ≤ r) (r1 : r < b.length) (h1 : 97 ≤ c) (h2 : c ≤ 122) : Wd (cutS b none (some r) ++ ⟨#[c]⟩ ++ cutS b (some (r + 1)) none) := by
  have e : tl (cutS b none (some r) ++ ⟨#[c]⟩ ++ cutS b (some (r + 1)) none) = (tl b).take r.toNat ++ [c] ++ (tl b).drop (r + 1).toNat := by
    rw [tl_app, tl_app, tl_cut, tl_cut, HT.sIx_none, HT.sIx_none, sIx_of r0, sIx_of (by omega), Nat.min_eq_left (by omega), Nat.min_eq_left (by omega), Nat.sub_zero, List.drop_zero]
    congr 1
    refine List.take_of_length_le ?_
    rw [List.length_drop, tl_len]; omega
  have l : (cutS b none (some r) ++ ⟨#[c]⟩ ++ cutS b (some (r + 1)) none).length = b.length := by
    rw [← tl_len, e, List.length_append, List.length_append, List.length_take, List.length_drop, tl_len]
    simp only [List.length_singleton]
    omega
  refine ⟨by rw [l]; exact h.lo, by rw [l]; exact h.hi, fun d hd => ?_⟩
  rw [e] at hd
  rcases List.mem_append.mp hd with hd | hd
  · rcases List.mem_append.mp hd with hd | hd
    · exact h.ok d (List.mem_of_mem_take hd)
    · obtain rfl : d = c := List.mem_singleton.mp hd; exact ⟨h1, h2⟩
  · exact h.ok d (List.mem_of_mem_drop hd)
theorem inV_str (x : Str) : ∀ ss : List Str, inV (.str x) (ss.map V.str) = decide (x ∈ ss)
  | [] => by simp [inV]
  | y :: r => by
    have ih := inV_str x r
    unfold inV at ih ⊢
    rw [List.map_cons, List.any_cons, ih]
    show (y == x || decide (x ∈ r)) = _
    by_cases h : y = x
    · subst h; simp
    · have h1 : (y == x) = false := beq_eq_false_iff_ne.mpr h
      have h2 : ¬ x = y := fun e => h e.symm
      rw [h1, Bool.false_or]
      by_cases h3 : x ∈ r <;> simp [h2, h3]
theorem flat_strs (ss : List Str) : (ss.map V.str).all flatV = true := by
  induction ss with
  | nil => rfl
  | cons a r ih => rw [List.map_cons, List.all_cons, ih]; rfl
theorem pigeon {α : Type} [DecidableEq α] : ∀ (l m : List α), l.Nodup → (∀ x ∈ l, x ∈ m) → l.length ≤ m.length
  | [], _, _, _ => Nat.zero_le _
  | x :: r, m, nd, h => by
    have nd' := List.nodup_cons.mp nd
    have hx := h x List.mem_cons_self
    have ih := pigeon r (m.erase x) nd'.2 fun y hy => (List.mem_erase_of_ne fun e => nd'.1 (by rw [← e]; exact hy)).mpr (h y (List.mem_cons_of_mem _ hy))
    rw [List.length_erase_of_mem hx] at ih
    have : 0 < m.length := List.length_pos_of_mem hx
    rw [List.length_cons]; omega
def abc : Str := Str.ofString "abcdefghijklmnopqrstuvwxyz"
theorem abc_len : (signs abc).length = 26 := by decide +kernel
theorem abc_nd : (signs abc).Nodup := by decide +kernel
theorem abc_wd : ∀ x ∈ signs abc, Wd x := by
  have h : ∀ c ∈ tl abc, 97 ≤ c ∧ c ≤ 122 := by decide +kernel
  intro x hx
  obtain ⟨c, hc, rfl⟩ := List.mem_map.mp hx
  exact wd_let (h c hc).1 (h c hc).2
theorem abc_left {ss : List Str} (h : ss.length < 26) : ∃ x r, (signs abc).filter (fun x => decide (x ∉ ss)) = x :: r ∧ x ∉ ss ∧ Wd x := by
  cases e : (signs abc).filter (fun x => decide (x ∉ ss)) with
  | nil =>
    exfalso
    have := pigeon (signs abc) ss abc_nd fun x hx => Classical.byContradiction fun n => by
      have : x ∈ (signs abc).filter (fun x => decide (x ∉ ss)) := List.mem_filter.mpr ⟨hx, by simpa using n⟩
      rw [e] at this; cases this
    rw [abc_len] at this; omega
  | cons x r =>
    have h1 : x ∈ (signs abc).filter (fun x => decide (x ∉ ss)) := by rw [e]; exact List.mem_cons_self
    obtain ⟨h2, h3⟩ := List.mem_filter.mp h1
    exact ⟨x, r, rfl, by simpa using h3, abc_wd x h2⟩
end D1
end L2
namespace L2
namespace D1
open PySem PySem.Spec PyProof.Rows
structure Free2 (mg : Str → Option Value) : Prop extends Free mg where
  list : mg "list" = none
  dict : mg "dict" = none
  tuple : mg "tuple" = none
  str : mg "str" = none
  bool : mg "bool" = none
  zip : mg "zip" = none
  sorted : mg "sorted" = none
abbrev sWords : Stmt := top 37
abbrev sPool : Stmt := top 38
def spWords : Sp := fun vs H Q _ => ∃ (p : Addr) (n t : Int), vs = [.ref p, .int n] ∧ Purse H p t ∧ 0 ≤ n ∧ n ≤ 20 ∧ t < 2 ^ 28 ∧
  ∀ (H' : Hp) (R : Addr) (ss : List Str) (t' : Int), But p H H' → H R = none → SL H' R ss → ss.length = n.toNat → ss.Nodup → (∀ x ∈ ss, Wd x) → Purse H' p t' → t' ≤ t + 300 → Q (.ref R) H'
theorem upd_none' {H : Hp} {a b : Addr} {o : HO} (e : L2.upd H a o b = none) : H b = none := by
  by_cases h : b = a
  · rw [h, upd_same] at e; cases e
  · rw [upd_ne h] at e; exact e
theorem But.fr {p b : Addr} {H H' : Hp} (h : But p H H') (e : H' b = none) (n : b ≠ p) : H b = none := by
  cases z : H b with
  | none => rfl
  | some o => rw [h b o n z] at e; cases e
theorem But.ofL {p L : Addr} {H0 H : Hp} {o : HO} (n : H0 L = Option.none) : But p H0 H → But p H0 (L2.upd H L o) := fun s b u nb e => by
  rw [upd_ne (ne_of_none e n)]; exact s b u nb e
theorem get_map {α β : Type} {f : α → β} {l : List α} {i : Nat} {y : β} (h : (l.map f)[i]? = some y) : ∃ x, l[i]? = some x ∧ y = f x := by
  rw [List.getElem?_map] at h
  obtain ⟨x, h1, h2⟩ := Option.map_eq_some_iff.mp h
  exact ⟨x, h1, h2.symm⟩
theorem nodup_app {α : Type} {l : List α} {x : α} (h : l.Nodup) (n : x ∉ l) : (l ++ [x]).Nodup :=
  List.nodup_append.mpr ⟨h, by simp, fun a ha b hb e => by obtain rfl : b = x := List.mem_singleton.mp hb; exact n (e ▸ ha)⟩
theorem wd_app {l : List Str} {x : Str} (h : ∀ y ∈ l, Wd y) (w : Wd x) : ∀ y ∈ l ++ [x], Wd y := fun y hy => by
  rcases List.mem_append.mp hy with hy | hy
  · exact h y hy
  · obtain rfl : y = x := List.mem_singleton.mp hy; exact w
theorem filt_yes {α : Type} {l : List α} {j : Nat} {z : α} {f : α → Bool} (h : l[j]? = some z) (b : f z = true) : (l.take (j + 1)).filter f = (l.take j).filter f ++ [z] := by
  rw [take_succ_get h, List.filter_append]; simp [List.filter, b]
theorem filt_no {α : Type} {l : List α} {j : Nat} {z : α} {f : α → Bool} (h : l[j]? = some z) (b : f z = false) : (l.take (j + 1)).filter f = (l.take j).filter f := by
  rw [take_succ_get h, List.filter_append]; simp [List.filter, b]
theorem cut_len (z : Str) (lo hi : Option Int) : (cutS z lo hi).length ≤ z.length := by
  rw [← tl_len, tl_cut, List.length_take, List.length_drop, tl_len]; omega
theorem bent_len1 {b : Str} {r : Int} {c : Nat} (h : Wd b) : (cutS b none (some r)).length + (⟨#[c]⟩ : Str).length ≤ sizeLine := by
  have := cut_len b none (some r); have := h.hi; rw [sizeLine_eq]; show _ + 1 ≤ _; omega
theorem bent_len2 {b : Str} {r r2 : Int} {c : Nat} (h : Wd b) : (cutS b none (some r) ++ ⟨#[c]⟩).length + (cutS b (some r2) none).length ≤ sizeLine := by
  have h1 := cut_len b none (some r); have h2 := cut_len b (some r2) none; have := h.hi
  rw [← tl_len, tl_app, List.length_append, tl_len, sizeLine_eq]
  show _ + 1 + _ ≤ _; omega
section
variable {P : Program} {w : World} {K : PySem.W.Frag} {mg : Str → Option Value} {base : Heap}
abbrev CDraw (P : Program) (w : World) (K : PySem.W.Frag) (mg : Str → Option Value) (base : Heap) := Cal P w K mg base "_law_draw" 2 ["_law_purse_here", "_law_many"] spDraw
abbrev CWord (P : Program) (w : World) (K : PySem.W.Frag) (mg : Str → Option Value) (base : Heap) := Cal P w K mg base "_law_word" 3 ["_law_purse_here"] spWord
abbrev CShuf (P : Program) (w : World) (K : PySem.W.Frag) (mg : Str → Option Value) (base : Heap) := Cal P w K mg base "_law_shuffled" 3 ["_law_purse_here", "_law_some"] spShuf
abbrev CWords (P : Program) (w : World) (K : PySem.W.Frag) (mg : Str → Option Value) (base : Heap) := Cal P w K mg base "_law_words" 4 ["_law_purse_here", "_law_many"] spWords
theorem scWs : FnScope ["_law_purse_here", "_law_many", "_law_base", "_law_near", "_law_spot", "_law_found", "_law_turn", "_law_word_here", "_law_letter"] ["_law_purse_here", "_law_many"] (defScope sWords) := ⟨rfl, rfl, rfl, by decide +kernel, rfl, by decide +kernel, by decide +kernel⟩
theorem ok_words {f : Addr} {fd : FuncData} (F : Fun K "_law_words" "_law_words" sWords f fd) (T : Free2 mg) (CD : CDraw P w K mg base) (CW : CWord P w K mg base) :
    FnOk P w K mg base CX0 4 f fd ["_law_purse_here", "_law_many"] spWords := by
  refine F.ok scWs (fun vs H Q E h => ?_) (fun cdv A outer s H vs Q E hr h => ?_)
  · obtain ⟨p, n, t, rfl, _⟩ := h; rfl
  · obtain ⟨p, n, t, rfl, hp, n0, n1, t1, k⟩ := h
    refine ⟨_, pss_cons (ps_par (i := 2) (j := 3) rfl scWs.nd rfl rfl (by decide) rfl rfl (pa_cons (pe_cal CW (hr.mono (by decide)) rfl (pa_cons (pv 0) pa_nil)) (pa_cons (pe_cmpR op_eq (pe_cal CD (hr.mono (by decide)) rfl (pa_cons (pv 0) (pa_cons pe_int pa_nil))) pe_int (nomark _)) pa_nil)) (by rfl))
      (pss_cons (ps_asg (pe_tup (pa_cons (pe_cal CD (hr.mono (by decide)) rfl (pa_cons (pv 0) (pa_cons (pe_callB call_len_str (by rfl) T.len PySem.boot_len (pa_cons (pv 2) pa_nil)) pa_nil))) (pa_cons (pe_lst pa_nil) pa_nil))) (pg_tup rfl (pgs_cons (pg_name (i := 4) scWs.nd rfl (Or.inl rfl)) (pgs_cons (pg_name (i := 5) scWs.nd rfl (Or.inr rfl)) pgs_nil))))
      (pss_cons (ps_for PassesOwn.never rfl (pi_range1 rfl T.range (pa_cons (pv 1) pa_nil)) (pg_name (i := 6) scWs.nd rfl (Or.inl rfl))
        (pss_cons (ps_set (i := 7) scWs.nd rfl (Or.inl rfl) (pe_op op_add_str (pe_op op_add_str (pe_slice sl_str (pv 2) po_none (po_some (pv 4))) (pe_ix ix_str pe_str (pe_cal CD (hr.mono (by decide)) rfl (pa_cons (pv 0) (pa_cons pe_int pa_nil))) (fun _ _ => rfl))) (pe_slice sl_str (pv 2) (po_some (pe_op op_add (pv 4) pe_int)) po_none)))
        (pss_cons (ps_if (pt_not (pt_truth (pv 3) (by intro _; rfl))) (pss_one (ps_set (i := 7) scWs.nd rfl (Or.inl rfl) (pe_cal CW (hr.mono (by decide)) rfl (pa_cons (pv 0) pa_nil)))) pss_nil)
        (pss_cons (ps_if (pt_cmpR op_in_seq (pv 7) (pv 5) rfl) (pss_one (ps_set (i := 7) scWs.nd rfl (Or.inl rfl) (pe_ix ix_list (pe_lc (own := [("_law_letter", 8)]) (g := gName 8) (tt := tTest (tOp (rIn K true) (tVar 8) (tVar 5))) rfl scWs.nd
            (pi_list (pe_callTy (call_listStr rfl) (by rfl) T.list (by decide +kernel) (pa_cons pe_str pa_nil)))
            (blkOk_by (N := ["_law_purse_here", "_law_many", "_law_base", "_law_near", "_law_spot", "_law_found", "_law_turn", "_law_word_here", "_law_letter"]) (sc := defScope sWords) (by decide +kernel)) (fun _ _ _ _ _ => pg_name (i := 8) scWs.nd rfl (Or.inl rfl))
            (fun _ _ _ _ _ => pts_one (pt_cmpR op_notIn_seq (pv 8) (pv 5) rfl)) (fun _ _ _ _ _ => pv 8)) pe_int (fun _ _ => rfl)))) pss_nil)
        (pss_one (ps_expr (pe_bm PySem.F.plainAttrs_list PySem.F.slot_list_append PySem.F.type_list_append mt_append (pv 5) (pa_cons (pv 7) pa_nil))))))))
      (pss_one (ps_ret (pv 5))))), ?_⟩
    refine ⟨_, rfl, p, t, rfl, hp, by omega, fun base' H1 t2 b1 b2 b3 bt1 hp1 tt1 => ?_⟩
    refine ⟨_, rfl, p, 3, t2, rfl, hp1, by decide, by decide, by omega, fun r t3 o r0 r1 tt2 hp2 => ?_⟩
    refine ⟨rfl, _, _, rfl, ?_⟩
    refine ⟨_, rfl, _, rfl, base', rfl, by have := sizeLine_eq; omega, p, _, t3, rfl, hp2, by omega, by omega, by omega, fun spot t4 o4 s0 s1 tt4 hp4 => ?_⟩
    refine ⟨Nat.zero_le _, fun L hL => ?_⟩
    refine ⟨by show 2 ≤ sizeLine; decide, fun T1 hT1 => ?_⟩
    have hL0 : H L = none := by
      have z := upd_none' (upd_none' hL)
      exact bt1.fr z (fun e => by obtain ⟨u, hu⟩ := hp1.some; rw [← e, z] at hu; cases hu)
    have npL : p ≠ L := by obtain ⟨u, hu⟩ := hp4.some; exact ne_of_none hu hL
    have nTL : L ≠ T1 := fun e => by rw [← e, upd_same] at hT1; cases hT1
    have npT : p ≠ T1 := by
      obtain ⟨u, hu⟩ := (hp4.upd (o := .lst []) npL).some
      exact ne_of_none hu hT1
    refine ⟨T1, _, rfl, SqT.of upd_same, rfl, _, _, rfl, _, _, rfl, rfl, ?_⟩
    have wb : Wd base' := ⟨b1, b2, b3⟩
    refine ⟨_, rfl, n, rfl, by omega, by omega, ?_⟩
    refine for_range (n := n.toNat) (fun i σ H' => ∃ (v6 v7 : Option V) (ss : List Str) (t' : Int), σ = [some (.ref p), some (.int n), some (.str base'), some (.bl (decide (V.int r = V.int 0))), some (.int spot), some (.ref L), v6, v7, none] ∧ But p H H' ∧ SL H' L ss ∧ ss.length = i ∧ ss.Nodup ∧ (∀ x ∈ ss, Wd x) ∧ Purse H' p t' ∧ t' ≤ t + 12 + 12 * i)
      ⟨none, none, [], t4, rfl, ?_, ?_, rfl, List.nodup_nil, (fun x hx => by cases hx), (hp4.upd npL).upd npT, by omega⟩ ?_ ?_
    · exact ((bt1.trans (But.upd p _ o)).trans (But.upd p _ o4)).trans ((But.new hL).trans (But.new hT1))
    · rw [SL, upd_ne nTL, upd_same]; rfl
    · rintro i σ HX hi ⟨v6, v7, ss, tX, rfl, bX, hLX, ls, nd, aw, hpX, ttX⟩
      have li : i < 20 := by omega
      refine ⟨_, rfl, _, rfl, _, rfl, base', rfl, by rw [sizeLine_eq]; omega, _, rfl, p, 26, tX, rfl, hpX, by decide, by decide, by omega, fun rc tY oY y0 y1 ttY hpY => ?_⟩
      obtain ⟨cc, ec, c1, c2⟩ := abc_at rc y0 y1
      refine ⟨_, rc, cc, rfl, rfl, by decide +kernel, ec, _, _, rfl, rfl, ?_, _, rfl, _, rfl, _, _, rfl, rfl, _, rfl, base', rfl, by rw [sizeLine_eq]; omega, _, _, rfl, rfl, ?_, ?_⟩
      · exact bent_len1 wb
      · exact bent_len2 wb
      have wwX := wd_bent wb s0 s1 c1 c2
      generalize cutS base' none (some spot) ++ ⟨#[cc]⟩ ++ cutS base' (some (spot + 1)) none = wX at wwX
      replace bX := bX.trans (But.upd p HX oY)
      replace hLX : SL (L2.upd HX p oY) L ss := by rw [SL, upd_ne npL.symm]; exact hLX
      replace hpX := hpY
      generalize L2.upd HX p oY = HX at bX hLX hpX
      clear hpY
      refine ⟨_, rfl, _, rfl, ?_⟩
      refine ite2 (fun _ => ?_) (fun _ => ?_)
      · refine ⟨_, rfl, p, tY, rfl, hpX, by omega, fun wX HX2 tX2 w1 w2 w3 btX hpX2 ttX2 => ?_⟩
        have wwX : Wd wX := ⟨w1, w2, w3⟩
        replace bX := bX.trans btX
        replace hLX : SL HX2 L ss := btX _ _ npL.symm hLX
        replace hpX := hpX2
        refine ⟨_, rfl, _, rfl, L, _, rfl, .inl hLX.sq, rfl, flat_strs ss, ?_⟩
        refine ⟨_, rfl, ?_⟩
        rw [if_neg (by decide), inV_str]
        refine ite2 (fun c => ?_) (fun c => ?_)
        · refine ⟨_, rfl, by decide +kernel, fun q hq => ⟨q, rfl, ⟨_, SqL.of upd_same⟩, fun D hD => ?_⟩⟩
          have nqL : L ≠ q := ne_of_none hLX hq
          have hDX : HX2 D = none := upd_none' hD
          have nDL : L ≠ D := ne_of_none hLX hDX
          have nDq : q ≠ D := fun e => by rw [e, upd_same] at hD; cases hD
          refine lc_list (K := K) (a := q) (xs := (signs abc).map V.str) (fun j H' => Same HX2 H' ∧ SL H' q (signs abc) ∧ SL H' D (((signs abc).take j).filter fun x => decide (x ∉ ss)))
            ⟨fun b u e => by rw [upd_ne (ne_of_none e hDX), upd_ne (ne_of_none e hq)]; exact e, by rw [SL, upd_ne nDq, upd_same]; rfl, by rw [SL, upd_same]; rfl⟩ (fun j H' _ z => z.2.1.sq) ?_ ?_
          · rintro j x H' hx ⟨sm, hq', hD'⟩
            obtain ⟨z, hz, rfl⟩ := get_map hx
            refine ⟨rfl, _, rfl, _, rfl, L, _, rfl, .inl (hLX.same sm).sq, rfl, flat_strs ss, ?_⟩
            refine ⟨_, rfl, ?_⟩
            rw [if_pos rfl, inV_str]
            have lj : j < 26 := by rw [← abc_len]; exact (List.getElem?_eq_some_iff.mp hz).1
            by_cases hzs : z ∈ ss
            · have e1 : decide (z ∈ ss) = true := decide_eq_true hzs
              rw [e1]
              refine iteF ?_
              refine ⟨sm, hq', ?_⟩
              rw [filt_no hz (by simpa using hzs)]
              exact hD'
            · have e1 : decide (z ∈ ss) = false := decide_eq_false hzs
              rw [e1]
              refine iteT ?_
              refine ⟨_, rfl, _, hD', by rw [List.length_map, sizeLine_eq]; exact Nat.lt_of_le_of_lt (List.length_filter_le _ _) (by rw [List.length_take]; omega), fun b u e => ?_, ?_, ?_⟩
              · rw [upd_ne (ne_of_none e hDX)]; exact sm _ _ e
              · rw [SL, upd_ne nDq]; exact hq'
              · rw [SL, upd_same, filt_yes hz (by simpa using hzs), List.map_append]
                rfl
          · rintro H' ⟨sm, hq', hD'⟩
            have lf : ((signs abc).map V.str).length = (signs abc).length := List.length_map _
            rw [lf, List.take_length] at hD'
            obtain ⟨x, rr, ex, nx, wx⟩ := abc_left (ss := ss) (by omega)
            refine ⟨D, _, 0, .str x, rfl, rfl, SqL.of hD', by rw [ex]; exact atI_nat (j := 0) rfl, ?_⟩
            refine ⟨_, rfl, .inl ⟨rfl, _, SqL.of (hLX.same sm)⟩, _, rfl, L, _, _, rfl, rfl, hLX.same sm, by rw [List.length_map, sizeLine_eq]; omega, ?_⟩
            exact ⟨_, _, ss ++ [x], tX2, rfl, But.ofL hL0 (bX.trans (But.of sm)), by rw [SL, upd_same, List.map_append]; rfl, by rw [List.length_append, ls]; rfl, nodup_app nd nx, wd_app aw wx, (hpX.same sm).upd npL, by omega⟩
        · refine ⟨_, rfl, .inl ⟨rfl, _, SqL.of hLX⟩, _, rfl, L, _, _, rfl, rfl, hLX, by rw [List.length_map, sizeLine_eq]; omega, ?_⟩
          exact ⟨_, _, ss ++ [wX], tX2, rfl, But.ofL hL0 bX, by rw [SL, upd_same, List.map_append]; rfl, by rw [List.length_append, ls]; rfl, nodup_app nd (of_decide_eq_false (Bool.eq_false_iff.mpr c)), wd_app aw wwX, hpX.upd npL, by omega⟩
      · refine ⟨_, rfl, _, rfl, L, _, rfl, .inl hLX.sq, rfl, flat_strs ss, ?_⟩
        refine ⟨_, rfl, ?_⟩
        rw [if_neg (by decide), inV_str]
        refine ite2 (fun c => ?_) (fun c => ?_)
        · refine ⟨_, rfl, by decide +kernel, fun q hq => ⟨q, rfl, ⟨_, SqL.of upd_same⟩, fun D hD => ?_⟩⟩
          have nqL : L ≠ q := ne_of_none hLX hq
          have hDX : HX D = none := upd_none' hD
          have nDL : L ≠ D := ne_of_none hLX hDX
          have nDq : q ≠ D := fun e => by rw [e, upd_same] at hD; cases hD
          refine lc_list (K := K) (a := q) (xs := (signs abc).map V.str) (fun j H' => Same HX H' ∧ SL H' q (signs abc) ∧ SL H' D (((signs abc).take j).filter fun x => decide (x ∉ ss)))
            ⟨fun b u e => by rw [upd_ne (ne_of_none e hDX), upd_ne (ne_of_none e hq)]; exact e, by rw [SL, upd_ne nDq, upd_same]; rfl, by rw [SL, upd_same]; rfl⟩ (fun j H' _ z => z.2.1.sq) ?_ ?_
          · rintro j x H' hx ⟨sm, hq', hD'⟩
            obtain ⟨z, hz, rfl⟩ := get_map hx
            refine ⟨rfl, _, rfl, _, rfl, L, _, rfl, .inl (hLX.same sm).sq, rfl, flat_strs ss, ?_⟩
            refine ⟨_, rfl, ?_⟩
            rw [if_pos rfl, inV_str]
            have lj : j < 26 := by rw [← abc_len]; exact (List.getElem?_eq_some_iff.mp hz).1
            by_cases hzs : z ∈ ss
            · have e1 : decide (z ∈ ss) = true := decide_eq_true hzs
              rw [e1]
              refine iteF ?_
              refine ⟨sm, hq', ?_⟩
              rw [filt_no hz (by simpa using hzs)]
              exact hD'
            · have e1 : decide (z ∈ ss) = false := decide_eq_false hzs
              rw [e1]
              refine iteT ?_
              refine ⟨_, rfl, _, hD', by rw [List.length_map, sizeLine_eq]; exact Nat.lt_of_le_of_lt (List.length_filter_le _ _) (by rw [List.length_take]; omega), fun b u e => ?_, ?_, ?_⟩
              · rw [upd_ne (ne_of_none e hDX)]; exact sm _ _ e
              · rw [SL, upd_ne nDq]; exact hq'
              · rw [SL, upd_same, filt_yes hz (by simpa using hzs), List.map_append]
                rfl
          · rintro H' ⟨sm, hq', hD'⟩
            have lf : ((signs abc).map V.str).length = (signs abc).length := List.length_map _
            rw [lf, List.take_length] at hD'
            obtain ⟨x, rr, ex, nx, wx⟩ := abc_left (ss := ss) (by omega)
            refine ⟨D, _, 0, .str x, rfl, rfl, SqL.of hD', by rw [ex]; exact atI_nat (j := 0) rfl, ?_⟩
            refine ⟨_, rfl, .inl ⟨rfl, _, SqL.of (hLX.same sm)⟩, _, rfl, L, _, _, rfl, rfl, hLX.same sm, by rw [List.length_map, sizeLine_eq]; omega, ?_⟩
            exact ⟨_, _, ss ++ [x], tY, rfl, But.ofL hL0 (bX.trans (But.of sm)), by rw [SL, upd_same, List.map_append]; rfl, by rw [List.length_append, ls]; rfl, nodup_app nd nx, wd_app aw wx, (hpX.same sm).upd npL, by omega⟩
        · refine ⟨_, rfl, .inl ⟨rfl, _, SqL.of hLX⟩, _, rfl, L, _, _, rfl, rfl, hLX, by rw [List.length_map, sizeLine_eq]; omega, ?_⟩
          exact ⟨_, _, ss ++ [wX], tY, rfl, But.ofL hL0 bX, by rw [SL, upd_same, List.map_append]; rfl, by rw [List.length_append, ls]; rfl, nodup_app nd (of_decide_eq_false (Bool.eq_false_iff.mpr c)), wd_app aw wwX, hpX.upd npL, by omega⟩
    · rintro σ H' ⟨v6, v7, ss, t', rfl, b, hS, ls, nd, aw, hp', tt⟩
      exact ⟨_, rfl, k H' L ss t' b hL0 hS ls nd aw hp' (by omega)⟩
end
end D1
end L2
namespace L2
namespace D1
open PySem PySem.Spec PyProof.Rows
def unS : V → Str
  | .str x => x
  | _ => ""
theorem Purse.ne {H : Hp} {p q : Addr} {t : Int} (h : Purse H p t) (n : H q = none) : q ≠ p := by
  obtain ⟨u, hu⟩ := h.some; exact (ne_of_none hu n).symm
theorem Purse.new {H : Hp} {p q : Addr} {t : Int} {o : HO} (h : Purse H p t) (n : H q = none) : Purse (L2.upd H q o) p t := h.upd (h.ne n).symm
theorem SL.new {H : Hp} {q a : Addr} {ss : List Str} {o : HO} (h : SL H a ss) (n : H q = none) : SL (L2.upd H q o) a ss := h.same (Same.new n)
theorem But.newt {p q : Addr} {H H1 : Hp} {o : HO} (h : But p H H1) (n : H1 q = none) : But p H (L2.upd H1 q o) := h.trans (But.new n)
theorem unS_map (ss : List Str) : (ss.map V.str).map unS = ss := by
  rw [List.map_map]
  exact List.map_id'' (fun _ => rfl) ss
/-- a permutation of texts is one of texts -/
theorem perm_str {ys : List V} {ss : List Str} (h : ys.Perm (ss.map V.str)) : ∃ zs : List Str, ys = zs.map V.str ∧ zs.Perm ss := by
  have a : ∀ y ∈ ys, y = V.str (unS y) := fun y hy => by
    obtain ⟨x, _, rfl⟩ := List.mem_map.mp (h.mem_iff.mp hy)
    rfl
  refine ⟨ys.map unS, ?_, ?_⟩
  · rw [List.map_map]
    refine (List.map_congr_left (g := id) fun y hy => (a y hy).symm).trans ?_ |>.symm
    exact List.map_id ys
  · have := h.map unS
    rwa [unS_map] at this
def cutL {α : Type} (xs : List α) (lo hi : Option Int) : List α := (xs.drop (HT.sIx xs.length 0 lo)).take (HT.sIx xs.length xs.length hi - HT.sIx xs.length 0 lo)
theorem cutV_map (ss : List Str) (lo hi : Option Int) : cutV (ss.map V.str) lo hi = (cutL ss lo hi).map V.str := by
  unfold cutV cutL
  rw [List.length_map, List.map_take, List.map_drop]
theorem cutL_to {α : Type} (xs : List α) {k : Int} (h : 0 ≤ k) : cutL xs none (some k) = xs.take k.toNat := by
  unfold cutL
  rw [HT.sIx_none, sIx_of h, Nat.sub_zero, List.drop_zero]
  rcases Nat.le_total k.toNat xs.length with q | q
  · rw [Nat.min_eq_left q]
  · rw [Nat.min_eq_right q, List.take_of_length_le (Nat.le_refl _), List.take_of_length_le q]
theorem cutL_from {α : Type} (xs : List α) {k : Int} (h : 0 ≤ k) : cutL xs (some k) none = xs.drop k.toNat := by
  unfold cutL
  rw [HT.sIx_none, sIx_of h]
  rcases Nat.le_total k.toNat xs.length with q | q
  · rw [Nat.min_eq_left q]
    exact List.take_of_length_le (by rw [List.length_drop]; omega)
  · rw [Nat.min_eq_right q, List.drop_of_length_le (Nat.le_refl _), List.drop_of_length_le q, List.take_nil]
abbrev sTurns : Stmt := top 39
def spPool : Sp := fun vs H Q _ => ∃ (p : Addr) (t : Int), vs = [.ref p] ∧ Purse H p t ∧ t < 2 ^ 27 ∧
  ∀ (H' : Hp) (R : Addr) (ss : List Str) (t' : Int), But p H H' → H R = none → SL H' R ss → ss.length = 6 → ss.Nodup → (∀ x ∈ ss, Wd x) → Purse H' p t' → t' ≤ t + 400 → Q (.ref R) H'
/-- turns as they stand in a dict -/
def kT (ts : List (Str × Str)) : List (Key × V) := ts.map fun t => (Sum.inr t.1, V.str t.2)
def putT (ts : List (Str × Str)) (k v : Str) : List (Str × Str) := if (ts.any fun t => decide (t.1 = k)) = true then ts.map (fun t => if t.1 = k then (t.1, v) else t) else ts ++ [(k, v)]
theorem any_kT (ts : List (Str × Str)) (k : Str) : ((kT ts).any fun kv => decide (kv.1 = Sum.inr k)) = ts.any fun t => decide (t.1 = k) := by
  rw [kT, List.any_map]
  refine congrArg (fun f => ts.any f) (funext fun t => ?_)
  show decide ((Sum.inr t.1 : Key) = Sum.inr k) = _
  by_cases h : t.1 = k
  · rw [h]; simp
  · have : ¬ (Sum.inr t.1 : Key) = Sum.inr k := fun e => h (Sum.inr.inj e)
    simp [h, this]
theorem putK_kT (ts : List (Str × Str)) (k v : Str) : putK (kT ts) (.inr k) (.str v) = kT (putT ts k v) := by
  unfold putK putT
  rw [any_kT]
  by_cases h : (ts.any fun t => decide (t.1 = k)) = true
  · rw [if_pos h, if_pos h, kT, kT, List.map_map, List.map_map]
    refine List.map_congr_left fun t _ => ?_
    show (if (Sum.inr t.1 : Key) = Sum.inr k then ((Sum.inr t.1 : Key), V.str v) else ((Sum.inr t.1 : Key), V.str t.2)) = _
    by_cases e : t.1 = k
    · rw [if_pos (congrArg _ e)]; simp [e]
    · rw [if_neg fun z => e (Sum.inr.inj z)]; simp [e]
  · rw [if_neg h, if_neg h, kT, kT, List.map_append]
    rfl
theorem any_mem (ts : List (Str × Str)) (k : Str) : ((ts.any fun t => decide (t.1 = k)) = true) ↔ k ∈ ts.map (·.1) := by
  rw [List.any_eq_true]
  constructor
  · rintro ⟨t, ht, e⟩
    exact List.mem_map.mpr ⟨t, ht, of_decide_eq_true e⟩
  · intro h
    obtain ⟨t, ht, e⟩ := List.mem_map.mp h
    exact ⟨t, ht, decide_eq_true e⟩
theorem putT_keys (ts : List (Str × Str)) (k v : Str) : (putT ts k v).map (·.1) = if k ∈ ts.map (·.1) then ts.map (·.1) else ts.map (·.1) ++ [k] := by
  unfold putT
  by_cases h : (ts.any fun t => decide (t.1 = k)) = true
  · rw [if_pos h, if_pos ((any_mem ts k).mp h), List.map_map]
    refine List.map_congr_left fun t _ => ?_
    show (if t.1 = k then (t.1, v) else t).1 = t.1
    by_cases e : t.1 = k
    · rw [if_pos e]
    · rw [if_neg e]
  · rw [if_neg h, if_neg fun z => h ((any_mem ts k).mpr z), List.map_append]
    rfl
theorem putT_goal {ts : List (Str × Str)} {k v : Str} : ∀ t ∈ putT ts k v, t.2 = v ∨ t ∈ ts := by
  unfold putT
  intro t ht
  by_cases h : (ts.any fun t => decide (t.1 = k)) = true
  · rw [if_pos h] at ht
    obtain ⟨u, hu, e⟩ := List.mem_map.mp ht
    by_cases c : u.1 = k
    · rw [if_pos c] at e; exact .inl (by rw [← e])
    · rw [if_neg c] at e; exact .inr (e ▸ hu)
  · rw [if_neg h] at ht
    rcases List.mem_append.mp ht with ht | ht
    · exact .inr ht
    · obtain rfl := List.mem_singleton.mp ht; exact .inl rfl
def TurnsAt (H : Hp) (a : Addr) (ts : List (Str × Str)) : Prop := H a = some (.dK (kT ts))
theorem TurnsAt.same {H H' : Hp} {a : Addr} {ts : List (Str × Str)} (h : TurnsAt H a ts) (s : Same H H') : TurnsAt H' a ts := s _ _ h
/-- turns over the words ws to the states ss -/
structure TOk (ts : List (Str × Str)) (ss ws : List Str) : Prop where
  nd : (ts.map (·.1)).Nodup
  ks : ∀ t ∈ ts, t.1 ∈ ws
  gs : ∀ t ∈ ts, t.2 ∈ ss
theorem TOk.nil {ss ws : List Str} : TOk [] ss ws := ⟨List.nodup_nil, by simp, by simp⟩
theorem TOk.len {ts : List (Str × Str)} {ss ws : List Str} (h : TOk ts ss ws) : ts.length ≤ ws.length := by
  have := pigeon (ts.map (·.1)) ws h.nd fun x hx => by obtain ⟨t, ht, rfl⟩ := List.mem_map.mp hx; exact h.ks t ht
  rwa [List.length_map] at this
theorem TOk.put {ts : List (Str × Str)} {ss ws : List Str} {k v : Str} (h : TOk ts ss ws) (hk : k ∈ ws) (hv : v ∈ ss) : TOk (putT ts k v) ss ws := by
  refine ⟨?_, fun t ht => ?_, fun t ht => ?_⟩
  · rw [putT_keys]
    by_cases c : k ∈ ts.map (·.1)
    · rw [if_pos c]; exact h.nd
    · rw [if_neg c]; exact nodup_app h.nd c
  · have : t.1 ∈ (putT ts k v).map (·.1) := List.mem_map_of_mem ht
    rw [putT_keys] at this
    have key : t.1 ∈ ts.map (·.1) → t.1 ∈ ws := fun z => by obtain ⟨u, hu, e⟩ := List.mem_map.mp z; rw [← e]; exact h.ks u hu
    by_cases c : k ∈ ts.map (·.1)
    · rw [if_pos c] at this; exact key this
    · rw [if_neg c] at this
      rcases List.mem_append.mp this with z | z
      · exact key z
      · rw [List.mem_singleton.mp z]; exact hk
  · rcases putT_goal t ht with e | e
    · rw [e]; exact hv
    · exact h.gs t e
theorem putT_ne {ts : List (Str × Str)} {k v : Str} : putT ts k v ≠ [] := fun e => by
  have := congrArg (List.map (·.1)) e
  rw [putT_keys] at this
  by_cases c : k ∈ ts.map (·.1)
  · rw [if_pos c] at this
    have e2 : ts.map (·.1) = [] := this
    rw [e2] at c; cases c
  · rw [if_neg c] at this; simp at this
def spTurns : Sp := fun vs H Q _ => ∃ (p S W : Addr) (ss ws : List Str) (at' top' t : Int), vs = [.ref p, .ref S, .ref W, .int at', .int top'] ∧ Purse H p t ∧ SL H S ss ∧ SL H W ws ∧ S ≠ p ∧ W ≠ p ∧ 1 ≤ ss.length ∧ ss.length ≤ 1000 ∧ 1 ≤ ws.length ∧ ws.length ≤ 20 ∧ ws.Nodup ∧ 0 ≤ at' ∧ at' < 2 ^ 20 ∧ 1 ≤ top' ∧ top' < 2 ^ 20 ∧ t < 2 ^ 27 ∧
  ∀ (H' : Hp) (R : Addr) (ts : List (Str × Str)) (t' : Int), But p H H' → H R = none → TurnsAt H' R ts → TOk ts ss ws → ts ≠ [] → Purse H' p t' → t' ≤ t + 50 → Q (.ref R) H'
def nmsL : List Str := ["says", "hears", "done", "start", "end"]
theorem nms_wd : ∀ x ∈ nmsL, Wd x := by
  have h : ∀ x ∈ nmsL, 1 ≤ x.length ∧ x.length ≤ 8 ∧ ∀ c ∈ tl x, 97 ≤ c ∧ c ≤ 122 := by decide +kernel
  exact fun x hx => ⟨(h x hx).1, (h x hx).2.1, (h x hx).2.2⟩
theorem nms_nd : nmsL.Nodup := by decide +kernel
section
variable {P : Program} {w : World} {K : PySem.W.Frag} {mg : Str → Option Value} {base : Heap}
abbrev COne (P : Program) (w : World) (K : PySem.W.Frag) (mg : Str → Option Value) (base : Heap) := Cal P w K mg base "_law_one_of" 3 ["_law_purse_here", "_law_some"] spOneOf
theorem scPo : FnScope ["_law_purse_here", "_law_words_here", "_law_word_here"] ["_law_purse_here"] (defScope sPool) := ⟨rfl, rfl, rfl, by decide +kernel, rfl, by decide +kernel, by decide +kernel⟩
theorem ok_pool {f : Addr} {fd : FuncData} (F : Fun K "_law_pool" "_law_pool" sPool f fd) (T : Free2 mg) (CD : CDraw P w K mg base) (CW : CWords P w K mg base) (CS : CShuf P w K mg base) :
    FnOk P w K mg base CX0 5 f fd ["_law_purse_here"] spPool := by
  refine F.ok scPo (fun vs H Q E h => ?_) (fun cdv A outer s H vs Q E hr h => ?_)
  · obtain ⟨p, t, rfl, _⟩ := h; rfl
  · obtain ⟨p, t, rfl, hp, t1, k⟩ := h
    refine ⟨_, pss_cons (ps_set (i := 1) scPo.nd rfl (Or.inr rfl) (pe_cal CW (hr.mono (by decide)) rfl (pa_cons (pv 0) (pa_cons pe_int pa_nil))))
      (pss_cons (ps_if (pt_cmpR op_eq (pe_cal CD (hr.mono (by decide)) rfl (pa_cons (pv 0) (pa_cons pe_int pa_nil))) pe_int (nomark _))
        (pss_one (ps_set (i := 1) scPo.nd rfl (Or.inr rfl) (pe_slice sl_list (pe_op op_cat (pe_slice sl_list (pe_lc (own := [("_law_word_here", 2)]) (g := gName 2) (tt := tTest (tOp (rIn K true) (tVar 2) (tVar 1))) rfl scPo.nd
            (pi_list (pe_lst (pa_cons pe_str (pa_cons pe_str (pa_cons pe_str (pa_cons pe_str (pa_cons pe_str pa_nil)))))))
            (blkOk_by (N := ["_law_purse_here", "_law_words_here", "_law_word_here"]) (sc := defScope sPool) (by decide +kernel)) (fun _ _ _ _ _ => pg_name (i := 2) scPo.nd rfl (Or.inl rfl))
            (fun _ _ _ _ _ => pts_one (pt_cmpR op_notIn_seq (pv 2) (pv 1) rfl)) (fun _ _ _ _ _ => pv 2)) po_none (po_some pe_int)) (pv 1)) po_none (po_some pe_int)))) pss_nil)
      (pss_one (ps_ret (pe_cal CS (hr.mono (by decide)) rfl (pa_cons (pv 0) (pa_cons (pv 1) pa_nil)))))), ?_⟩
    refine ⟨_, rfl, p, 6, t, rfl, hp, by decide, by decide, by omega, fun H1 R ss t1' b1 hR hS ls nd aw hp1 tt1 => ?_⟩
    refine ⟨_, rfl, p, 3, t1', rfl, hp1, by decide, by decide, by omega, fun r t2 o r0 r1 tt2 hp2 => ?_⟩
    have nRp : R ≠ p := fun e => by obtain ⟨u, hu⟩ := hp.some; rw [← e, hR] at hu; cases hu
    have b2 := b1.trans (But.upd p H1 o)
    have hS2 : SL (L2.upd H1 p o) R ss := by rw [SL, upd_ne nRp]; exact hS
    generalize L2.upd H1 p o = H2 at b2 hS2 hp2
    refine ⟨rfl, _, rfl, ?_⟩
    refine ite2 (fun _ => ?_) (fun _ => ?_)
    · refine ⟨by show 5 ≤ sizeLine; decide, fun q hq => ⟨q, rfl, ⟨_, SqL.of upd_same⟩, fun D hD => ?_⟩⟩
      have nRq : R ≠ q := ne_of_none hS2 hq
      have hD2 := upd_none' hD
      have nRD : R ≠ D := ne_of_none hS2 hD2
      have nDq : q ≠ D := fun e => by rw [e, upd_same] at hD; cases hD
      refine lc_list (K := K) (a := q) (xs := nmsL.map V.str) (fun j H' => Same H2 H' ∧ SL H' q nmsL ∧ SL H' D ((nmsL.take j).filter fun x => decide (x ∉ ss)))
        ⟨fun b u e => by rw [upd_ne (ne_of_none e hD2), upd_ne (ne_of_none e hq)]; exact e, by rw [SL, upd_ne nDq, upd_same]; rfl, by rw [SL, upd_same]; rfl⟩ (fun j H' _ z => z.2.1.sq) ?_ ?_
      · rintro j x H' hx ⟨sm, hq', hD'⟩
        obtain ⟨z, hz, rfl⟩ := get_map hx
        refine ⟨rfl, _, rfl, _, rfl, R, _, rfl, .inl (hS2.same sm).sq, rfl, flat_strs ss, ?_⟩
        refine ⟨_, rfl, ?_⟩
        rw [if_pos rfl, inV_str]
        have lj : j < 5 := (List.getElem?_eq_some_iff.mp hz).1
        by_cases hzs : z ∈ ss
        · rw [decide_eq_true hzs]
          refine iteF ⟨sm, hq', ?_⟩
          rw [filt_no hz (by simpa using hzs)]
          exact hD'
        · rw [decide_eq_false hzs]
          refine iteT ⟨_, rfl, _, hD', by rw [List.length_map, sizeLine_eq]; exact Nat.lt_of_le_of_lt (List.length_filter_le _ _) (by rw [List.length_take]; omega), fun b u e => ?_, ?_, ?_⟩
          · rw [upd_ne (ne_of_none e hD2)]; exact sm _ _ e
          · rw [SL, upd_ne nDq]; exact hq'
          · rw [SL, upd_same, filt_yes hz (by simpa using hzs), List.map_append]
            rfl
      · rintro H3 ⟨sm, hq', hD'⟩
        rw [show (nmsL.map V.str).length = 5 from rfl, show nmsL.take 5 = nmsL from rfl] at hD'
        refine ⟨_, rfl, D, _, rfl, SqL.of hD', fun q2 hq2 => ?_⟩
        have hR3 := hS2.same sm
        refine ⟨_, rfl, q2, R, _, _, rfl, rfl, upd_same, by rw [upd_ne (ne_of_none hR3 hq2)]; exact hR3, ?_, fun q3 hq3 => ?_⟩
        · rw [cutV_map, List.length_map, List.length_map, cutL_to _ (by decide), List.length_take, sizeLine_eq, ls]; omega
        refine ⟨_, rfl, q3, _, rfl, SqL.of upd_same, fun q4 hq4 => ?_⟩
        rw [cutV_map, ← List.map_append, cutV_map, cutL_to _ (by decide), cutL_to _ (by decide)]
        rw [cutV_map, ← List.map_append, cutL_to _ (by decide)] at hq4
        rw [cutV_map, cutL_to _ (by decide)] at hq3
        have wf : ∀ x ∈ nmsL.filter (fun x => decide (x ∉ ss)), x ∉ ss ∧ Wd x := fun x hx => by
          obtain ⟨h1, h2⟩ := List.mem_filter.mp hx
          exact ⟨by simpa using h2, nms_wd x h1⟩
        have nf : (nmsL.filter (fun x => decide (x ∉ ss))).Nodup := nms_nd.filter _
        generalize nmsL.filter (fun x => decide (x ∉ ss)) = fs at wf nf hq3 hq4 ⊢
        have lf : ((fs.take (2 : Int).toNat ++ ss).take (6 : Int).toNat).length = 6 := by
          rw [List.length_take, List.length_append, ls]; show min 6 _ = 6; omega
        have ndf : ((fs.take (2 : Int).toNat ++ ss).take (6 : Int).toNat).Nodup :=
          List.Nodup.sublist (List.take_sublist _ _) (List.nodup_append.mpr ⟨List.Nodup.sublist (List.take_sublist _ _) nf, nd, fun x hx y hy e => (wf x (List.mem_of_mem_take hx)).1 (e ▸ hy)⟩)
        have awf : ∀ x ∈ (fs.take (2 : Int).toNat ++ ss).take (6 : Int).toNat, Wd x := fun x hx => by
          rcases List.mem_append.mp (List.mem_of_mem_take hx) with z | z
          · exact (wf x (List.mem_of_mem_take z)).2
          · exact aw x z
        generalize (fs.take (2 : Int).toNat ++ ss).take (6 : Int).toNat = gs at lf ndf awf
        have b3 : But p H H3 := b2.trans (But.of sm)
        have hp3 := hp2.same sm
        refine ⟨_, rfl, _, rfl, p, q4, _, t2, rfl, ((hp3.new hq2).new hq3).new hq4, upd_same, ((hp3.new hq2).new hq3).ne hq4, by rw [List.length_map, lf]; decide, by omega, fun H5 R5 ys t5 b5 hR5 hy pm hp5 tt5 => ?_⟩
        obtain ⟨zs, rfl, pz⟩ := perm_str pm
        rw [List.length_map, lf] at tt5
        exact k H5 R5 zs t5 ((((b3.newt hq2).newt hq3).newt hq4).trans b5) ((((b3.newt hq2).newt hq3).newt hq4).fr hR5 ((((hp3.new hq2).new hq3).new hq4).ne hR5)) hy (by rw [pz.length_eq, lf]) (pz.nodup_iff.mpr ndf) (fun x hx => awf x (pz.mem_iff.mp hx)) hp5 (by omega)
    · refine ⟨_, rfl, _, rfl, p, R, _, t2, rfl, hp2, hS2, nRp, by rw [List.length_map, ls]; decide, by omega, fun H5 R5 ys t5 b5 hR5 hy pm hp5 tt5 => ?_⟩
      obtain ⟨zs, rfl, pz⟩ := perm_str pm
      rw [List.length_map, ls] at tt5
      exact k H5 R5 zs t5 (b2.trans b5) (b2.fr hR5 (hp2.ne hR5)) hy (by rw [pz.length_eq, ls]; rfl) (pz.nodup_iff.mpr nd) (fun x hx => aw x (pz.mem_iff.mp hx)) hp5 (by omega)
theorem scTu : FnScope ["_law_purse_here", "_law_states", "_law_words_here", "_law_at", "_law_top", "_law_many", "_law_found", "_law_word_here"] ["_law_purse_here", "_law_states", "_law_words_here", "_law_at", "_law_top"] (defScope sTurns) := ⟨rfl, rfl, rfl, by decide +kernel, rfl, by decide +kernel, by decide +kernel⟩
theorem ok_turns {f : Addr} {fd : FuncData} (F : Fun K "_law_turns" "_law_turns" sTurns f fd) (T : Free2 mg) (CD : CDraw P w K mg base) (CO : COne P w K mg base) (CS : CShuf P w K mg base) :
    FnOk P w K mg base CX0 4 f fd ["_law_purse_here", "_law_states", "_law_words_here", "_law_at", "_law_top"] spTurns := by
  refine F.ok scTu (fun vs H Q E h => ?_) (fun cdv A outer s H vs Q E hr h => ?_)
  · obtain ⟨p, S, W, ss, ws, a, b, t, rfl, _⟩ := h; rfl
  · obtain ⟨p, S, W, ss, ws, at', top', t, rfl, hp, hS, hW, nS, nW, s1, s2, w1, w2, wnd, a0, a1, p0, p1, t1, k⟩ := h
    have hu := hu_of hr
    refine ⟨_, pss_cons (ps_par (i := 5) (j := 6) rfl scTu.nd rfl rfl (by decide) rfl rfl (pa_cons (pe_op op_add pe_int (pe_cal CD (hr.mono (by decide)) rfl (pa_cons (pv 0) (pa_cons (pe_callB (call_max2 rfl) (by rfl) T.max (by decide +kernel) (pa_cons pe_int (pa_cons (pe_callB (call_min2 rfl) (by rfl) T.min (by decide +kernel) (pa_cons (pv 4) (pa_cons (pe_callB call_len_seq (by rfl) T.len PySem.boot_len (pa_cons (pv 2) pa_nil)) pa_nil))) pa_nil))) pa_nil)))) (pa_cons pe_dnewK pa_nil)) (by rfl))
      (pss_cons (ps_for PassesOwn.never rfl (pi_list (pe_slice sl_list (pe_cal CS (hr.mono (by decide)) rfl (pa_cons (pv 0) (pa_cons (pv 2) pa_nil))) po_none (po_some (pv 5)))) (pg_name (i := 7) scTu.nd rfl (Or.inl rfl))
        (pss_one (ps_dput hu (pv 6) (pv 7) (pe_cal CO (hr.mono (by decide)) rfl (pa_cons (pv 0) (pa_cons (pv 1) pa_nil))) rfl)))
      (pss_cons (ps_if (PW.pt (pw_and (pt_cmpR op_lt (pe_op op_add (pv 3) pe_int) (pe_callB call_len_seq (by rfl) T.len PySem.boot_len (pa_cons (pv 1) pa_nil)) (nomark _)) (pw_and1 (pt_cmpR op_gt (pe_cal CD (hr.mono (by decide)) rfl (pa_cons (pv 0) (pa_cons pe_int pa_nil))) pe_int (nomark _)))))
        (pss_one (ps_dput hu (pv 6) (pe_cal CO (hr.mono (by decide)) rfl (pa_cons (pv 0) (pa_cons (pe_callTy (call_listD rfl) (by rfl) T.list (by decide +kernel) (pa_cons (pv 6) pa_nil)) pa_nil))) (pe_cal CO (hr.mono (by decide)) rfl (pa_cons (pv 0) (pa_cons (pe_slice sl_list (pv 1) (po_some (pe_op op_add (pv 3) pe_int)) po_none) pa_nil))) rfl)) pss_nil)
      (pss_one (ps_ret (pv 6))))), ?_⟩
    refine ⟨_, rfl, _, rfl, _, rfl, W, _, rfl, .inl hW.sq, top', _, rfl, ?_⟩
    rw [List.length_map]
    refine ⟨1, _, rfl, ?_⟩
    generalize hM : (if (if (ws.length : Int) < top' then (ws.length : Int) else top') > 1 then (if (ws.length : Int) < top' then (ws.length : Int) else top') else (1 : Int)) = M
    have bM : 1 ≤ M ∧ M ≤ 20 := by
      rw [← hM]
      (repeat' split) <;> omega
    refine ⟨p, M, t, rfl, hp, bM.1, by omega, by omega, fun r t2 o r0 r1 tt2 hp2 => ?_⟩
    refine ⟨_, _, rfl, rfl, fun D hD => ⟨_, _, rfl, ?_⟩⟩
    have hS2 : SL (L2.upd H p o) S ss := by rw [SL, upd_ne nS]; exact hS
    have hW2 : SL (L2.upd H p o) W ws := by rw [SL, upd_ne nW]; exact hW
    have b2 := But.upd p H o
    generalize L2.upd H p o = H2 at hS2 hW2 hp2 b2 hD
    have hD0 := b2.fr hD (hp2.ne hD)
    refine ⟨_, rfl, _, rfl, p, W, _, t2, rfl, hp2.new hD, hW2.new hD, nW, by rw [List.length_map]; omega, by omega, fun H3 R ys t3 b3 hR hy pm hp3 tt3 => ?_⟩
    obtain ⟨zs, rfl, pz⟩ := perm_str pm
    refine ⟨_, rfl, _, rfl, R, _, rfl, SqL.of hy, fun q hq => ⟨q, rfl, ⟨_, SqL.of upd_same⟩, ?_⟩⟩
    rw [cutV_map, cutL_to _ (by omega)]
    have lz : zs.length = ws.length := pz.length_eq
    rw [List.length_map] at tt3
    have hm : 1 ≤ (1 + r).toNat := by omega
    generalize (1 + r).toNat = m at hm
    have lm : (zs.take m).length ≤ 20 ∧ 1 ≤ (zs.take m).length := by rw [List.length_take]; omega
    have mm : ∀ z ∈ zs.take m, z ∈ ws := fun z hz => pz.mem_iff.mp (List.mem_of_mem_take hz)
    generalize zs.take m = us at lm mm
    have nDp := hp2.ne hD
    have hS3 : SL H3 S ss := b3 _ _ nS (hS2.new hD)
    have hD3 : TurnsAt H3 D [] := b3 _ _ nDp upd_same
    have nqp := hp3.ne hq
    have nqD : D ≠ q := ne_of_none hD3 hq
    have b30 : But p H H3 := (b2.newt hD).trans b3
    refine for_list (K := K) (a := q) (xs := us.map V.str) (fun i σ H' => ∃ (v7 : Option V) (ts : List (Str × Str)) (t' : Int), σ = [some (.ref p), some (.ref S), some (.ref W), some (.int at'), some (.int top'), some (.int (1 + r)), some (.ref D), v7] ∧ But p H H' ∧ SL H' q us ∧ SL H' S ss ∧ TurnsAt H' D ts ∧ TOk ts ss ws ∧ (0 < i → ts ≠ []) ∧ Purse H' p t' ∧ t' ≤ t3 + i)
      ⟨none, [], t3, rfl, b30.newt hq, upd_same, hS3.new hq, hD3.same (Same.new hq), TOk.nil, fun c => absurd c (by decide), hp3.new hq, by omega⟩ (fun i σ H' _ ⟨v7, ts, t', _, _, z, _⟩ => z.sq) ?_ ?_
    · rintro i x σ H' hx ⟨v7, ts, t', rfl, b, hq', hS', hD', ok, ne, hp', tt'⟩
      obtain ⟨z, hz, rfl⟩ := get_map hx
      have hzm := mm z (List.mem_of_getElem? hz)
      have li : i < us.length := (List.getElem?_eq_some_iff.mp hz).1
      have lts := ok.len
      refine ⟨_, rfl, _, rfl, p, S, _, t', rfl, hp', hS', nS, by rw [List.length_map]; omega, by rw [List.length_map]; omega, by omega, fun j v t4 o4 hj tt4 hp4 => ?_⟩
      obtain ⟨g, hg, rfl⟩ := get_map hj
      have hgm := List.mem_of_getElem? hg
      refine ⟨_, rfl, _, rfl, D, _, rfl, DPut.k (k := Sum.inr z) (by rw [upd_ne nDp]; exact hD') (by rw [kT, List.length_map, sizeLine_eq]; omega), ?_⟩
      rw [putK_kT]
      have hDn : H D = none := hD0
      refine ⟨_, _, t4, rfl, But.ofL hDn (b.trans (But.upd p H' o4)), ?_, ?_, upd_same, ok.put hzm hgm, fun _ => putT_ne, hp4.upd nDp.symm, by omega⟩
      · rw [SL, upd_ne nqD.symm, upd_ne nqp]; exact hq'
      · have nSD : S ≠ D := fun e => by rw [e] at hS; rw [hS] at hDn; cases hDn
        rw [SL, upd_ne nSD, upd_ne nS]; exact hS'
    · rintro σ H' ⟨v7, ts, t', rfl, b, hq', hS', hD', ok, ne, hp', tt'⟩
      rw [List.length_map] at ne tt'
      have ne' := ne (by omega)
      have lts := ok.len
      refine ⟨_, rfl, _, _, rfl, rfl, _, rfl, S, _, rfl, .inl hS'.sq, _, _, rfl, rfl, _, rfl, ?_⟩
      rw [List.length_map]
      refine ite2 (fun c => ?_) (fun c => ?_)
      · refine ⟨_, rfl, p, 8, t', rfl, hp', by decide, by decide, by omega, fun r5 t5 o5 r50 r51 tt5 hp5 => ⟨_, _, rfl, rfl, _, rfl, ?_⟩⟩
        have hS5 : SL (L2.upd H' p o5) S ss := by rw [SL, upd_ne nS]; exact hS'
        have hD5 : TurnsAt (L2.upd H' p o5) D ts := by rw [TurnsAt, upd_ne nDp]; exact hD'
        have b5 := b.trans (But.upd p H' o5)
        generalize L2.upd H' p o5 = H5 at hS5 hD5 hp5 b5
        refine ite2 (fun c2 => ?_) (fun c2 => ?_)
        · have c' := of_decide_eq_true c
          refine ⟨_, rfl, _, rfl, _, rfl, _, _, rfl, rfl, _, rfl, S, _, rfl, hS5.sq, fun q6 hq6 => ?_⟩
          rw [cutV_map, cutL_from _ (by omega)]
          refine ⟨p, q6, _, t5, rfl, hp5.new hq6, upd_same, hp5.ne hq6, ?_, ?_, by omega, fun j v t6 o6 hj tt6 hp6 => ?_⟩
          · rw [List.length_map, List.length_drop]; omega
          · rw [List.length_map, List.length_drop]; omega
          obtain ⟨g, hg, rfl⟩ := get_map hj
          have hgm := List.mem_of_mem_drop (List.mem_of_getElem? hg)
          have hD6 : TurnsAt (L2.upd (L2.upd H5 q6 (.lst ((ss.drop (at' + 1).toNat).map V.str))) p o6) D ts := by
            rw [TurnsAt, upd_ne nDp]; exact hD5.same (Same.new hq6)
          have b6 := (b5.newt (o := .lst ((ss.drop (at' + 1).toNat).map V.str)) hq6).trans (But.upd p _ o6)
          generalize L2.upd (L2.upd H5 q6 (.lst ((ss.drop (at' + 1).toNat).map V.str))) p o6 = H6 at hp6 hD6 b6
          refine ⟨_, rfl, _, rfl, _, rfl, D, _, rfl, .inl hD6, fun q7 hq7 => ?_⟩
          have ek : (kT ts).map (fun kv => kV kv.1) = (ts.map (·.1)).map V.str := by
            rw [kT, List.map_map, List.map_map]; rfl
          rw [ek]
          refine ⟨p, q7, _, t6, rfl, hp6.new hq7, upd_same, hp6.ne hq7, ?_, ?_, by omega, fun j v t8 o8 hj tt8 hp8 => ?_⟩
          · rw [List.length_map, List.length_map]; have := List.length_pos_iff.mpr ne'; omega
          · rw [List.length_map, List.length_map]; omega
          obtain ⟨kk, hkk, rfl⟩ := get_map hj
          have hkm : kk ∈ ws := by
            obtain ⟨u, hu, e⟩ := List.mem_map.mp (List.mem_of_getElem? hkk)
            rw [← e]; exact ok.ks u hu
          refine ⟨D, _, rfl, DPut.k (k := Sum.inr kk) (by rw [upd_ne nDp]; exact hD6.same (Same.new hq7)) (by rw [kT, List.length_map, sizeLine_eq]; omega), ?_⟩
          rw [putK_kT]
          refine ⟨_, rfl, k _ D _ t8 (But.ofL hD0 ((b6.newt hq7).trans (But.upd p _ o8))) hD0 upd_same (ok.put hkm hgm) putT_ne (hp8.upd nDp.symm) (by omega)⟩
        · exact ⟨_, rfl, k H5 D ts t5 b5 hD0 hD5 ok ne' hp5 (by omega)⟩
      · exact ⟨_, rfl, k H' D ts t' b hD0 hD' ok ne' hp' (by omega)⟩
end
end D1
end L2
namespace L2
namespace D1
open PySem PySem.Spec PyProof.Rows
abbrev RowD := Str × Str × List (Str × Str)
abbrev Bk := List RowD
def RowAt (H : Hp) (v : V) (k : Str) (ts : List (Str × Str)) : Prop := ∃ t a, v = .ref t ∧ H t = some (.tup [.str k, .ref a]) ∧ TurnsAt H a ts
theorem RowAt.same {H H' : Hp} {v : V} {k : Str} {ts : List (Str × Str)} (h : RowAt H v k ts) (s : Same H H') : RowAt H' v k ts := by
  obtain ⟨t, a, e, h1, h2⟩ := h; exact ⟨t, a, e, s _ _ h1, h2.same s⟩
def Rows (H : Hp) : List (Key × V) → Bk → Prop := Paired fun kv r => kv.1 = Sum.inr r.1 ∧ RowAt H kv.2 r.2.1 r.2.2
theorem Rows.same {H H' : Hp} {kvs : List (Key × V)} {bk : Bk} (h : Rows H kvs bk) (s : Same H H') : Rows H' kvs bk := by
  unfold Rows at h ⊢
  induction h with
  | nil => exact .nil
  | cons a b ih => exact .cons ⟨a.1, a.2.same s⟩ ih
theorem Rows.app {H : Hp} {kvs : List (Key × V)} {bk : Bk} {s : Str} {v : V} {k : Str} {ts : List (Str × Str)} (h : Rows H kvs bk) (r : RowAt H v k ts) : Rows H (kvs ++ [(.inr s, v)]) (bk ++ [(s, k, ts)]) := by
  unfold Rows at h ⊢
  induction h with
  | nil => exact .cons ⟨rfl, r⟩ .nil
  | cons a b ih => exact .cons a ih
theorem Rows.keys {H : Hp} {kvs : List (Key × V)} {bk : Bk} (h : Rows H kvs bk) : kvs.map (·.1) = bk.map fun r => Sum.inr r.1 := by
  unfold Rows at h
  induction h with
  | nil => rfl
  | cons a b ih => rw [List.map_cons, List.map_cons, ih, a.1]
theorem Rows.len {H : Hp} {kvs : List (Key × V)} {bk : Bk} (h : Rows H kvs bk) : kvs.length = bk.length := by
  have := congrArg List.length h.keys
  rwa [List.length_map, List.length_map] at this
theorem putK_new {kvs : List (Key × V)} {k : Key} {v : V} (n : k ∉ kvs.map (·.1)) : putK kvs k v = kvs ++ [(k, v)] := by
  unfold putK
  rw [if_neg]
  intro h
  obtain ⟨p, hp, e⟩ := List.any_eq_true.mp h
  exact n (List.mem_map.mpr ⟨p, hp, of_decide_eq_true e⟩)
theorem Rows.fresh {H : Hp} {kvs : List (Key × V)} {bk : Bk} {s : Str} (h : Rows H kvs bk) (n : s ∉ bk.map (·.1)) : (Sum.inr s : Key) ∉ kvs.map (·.1) := by
  rw [h.keys]
  intro z
  obtain ⟨r, hr, e⟩ := List.mem_map.mp z
  exact n (List.mem_map.mpr ⟨r, hr, Sum.inr.inj e⟩)
def BookAt (H : Hp) (b : Addr) (bk : Bk) : Prop := ∃ kvs, H b = some (.dK kvs) ∧ Rows H kvs bk
theorem BookAt.same {H H' : Hp} {b : Addr} {bk : Bk} (h : BookAt H b bk) (s : Same H H') : BookAt H' b bk := by
  obtain ⟨kvs, e, r⟩ := h; exact ⟨kvs, s _ _ e, r.same s⟩
def WorldAt (H : Hp) (R : Addr) (bk : Bk) (st : Str) : Prop := ∃ b, H R = some (.lst [.ref b, .str st]) ∧ BookAt H b bk
theorem WorldAt.same {H H' : Hp} {R : Addr} {bk : Bk} {st : Str} (h : WorldAt H R bk st) (s : Same H H') : WorldAt H' R bk st := by
  obtain ⟨b, e, r⟩ := h; exact ⟨b, s _ _ e, r.same s⟩
/-- a row of a book over the states ss -/
def ROk (ss ws : List Str) (r : RowD) : Prop := Wd r.1 ∧ ((r.2.1 = "done" ∧ r.2.2 = []) ∨ ((r.2.1 = "says" ∨ r.2.1 = "hears") ∧ r.2.2 ≠ [] ∧ TOk r.2.2 ss ws))
structure WF (bk : Bk) (st : Str) (ws : List Str) : Prop where
  nd : (bk.map (·.1)).Nodup
  rs : ∀ r ∈ bk, ROk (bk.map (·.1)) ws r
  st : st ∈ bk.map (·.1)
  len : bk.length ≤ 6
abbrev sWorld : Stmt := top 40
/-- a list of words -/
structure WsOk (ws : List Str) : Prop where
  lo : 1 ≤ ws.length
  hi : ws.length ≤ 6
  nd : ws.Nodup
  wd : ∀ x ∈ ws, Wd x
def spWorld : Sp := fun vs H Q _ => ∃ (p W : Addr) (ws : List Str) (n top' t : Int), vs = [.ref p, .int n, .ref W, .int top'] ∧ Purse H p t ∧ SL H W ws ∧ W ≠ p ∧ WsOk ws ∧ 1 ≤ n ∧ n ≤ 6 ∧ 1 ≤ top' ∧ top' < 2 ^ 20 ∧ t < 2 ^ 26 ∧
  ∀ (H' : Hp) (R : Addr) (bk : Bk) (st : Str) (t' : Int), But p H H' → H R = none → WorldAt (cut [p] H') R bk st → WF bk st ws → Purse H' p t' → t' ≤ t + 700 → Q (.ref R) H'
theorem first_at {x : Str} : ∀ {zs : List Str}, x ∈ zs → ∃ j, zs[j]? = some x ∧ ∀ m : Nat, m < j → zs[m]? ≠ some x
  | [], h => by cases h
  | y :: r, h => by
    by_cases e : y = x
    · exact ⟨0, by rw [e]; rfl, fun m hm => absurd hm (Nat.not_lt_zero _)⟩
    · rcases List.mem_cons.mp h with z | z
      · exact absurd z.symm e
      · obtain ⟨j, h1, h2⟩ := first_at z
        refine ⟨j + 1, h1, fun m hm => ?_⟩
        cases m with
        | zero => exact fun q => e (Option.some.inj q)
        | succ m => exact h2 m (by omega)
theorem row_step {p B T1 E1 : Addr} {H5 : Hp} {kvs : List (Key × V)} {bk : Bk} {x k : Str} {ts : List (Str × Str)} (hB : H5 B = some (.dK kvs)) (R : Rows (cut [p, B] H5) kvs bk) (n : x ∉ bk.map (·.1)) (hT : TurnsAt H5 E1 ts) (nE : E1 ≠ p) (nEB : E1 ≠ B)
    (nT : T1 ≠ p) (hT1 : H5 T1 = none) : ∃ kv2, (L2.upd (L2.upd H5 T1 (.tup [.str k, .ref E1])) B (.dK (putK kvs (.inr x) (.ref T1)))) B = some (.dK kv2) ∧ Rows (cut [p, B] (L2.upd (L2.upd H5 T1 (.tup [.str k, .ref E1])) B (.dK (putK kvs (.inr x) (.ref T1))))) kv2 (bk ++ [(x, k, ts)]) := by
  have nTB : T1 ≠ B := fun e => by rw [e, hB] at hT1; cases hT1
  have nET : E1 ≠ T1 := fun e => by rw [← e, hT] at hT1; cases hT1
  refine ⟨_, upd_same, ?_⟩
  rw [putK_new (R.fresh n), cut_upd (by simp)]
  refine (R.same (cut_new hT1)).app ⟨T1, E1, rfl, ?_, ?_⟩
  · rw [cut_out (by simp [nT, nTB])]; exact upd_same
  · rw [TurnsAt, cut_out (by simp [nE, nEB]), upd_ne nET]; exact hT
theorem pt_imp {X : Cx} {c : Expr} {t t' : TT} (h : PT X c t) (i : ∀ σ H Q, t' σ H Q → t σ H Q) : PT X c t' := ⟨fun pins s σ H Q I q => h.run pins s σ H Q I (i _ _ _ q)⟩
theorem pe_imp {X : Cx} {c : Expr} {t t' : TE} (h : PE X c t) (i : ∀ σ H Q, t' σ H Q → t σ H Q) : PE X c t' := ⟨fun pins s σ H Q I q => h.run pins s σ H Q I (i _ _ _ q)⟩
/-- any answer, whatever whole numbers the slots hold -/
def tAny (l : List Nat) : TT := fun σ H Q => (∀ i ∈ l, ∃ z, σ[i]? = some (some (.int z))) ∧ ∀ b, Q b H
def tKind (l : List Nat) : TE := fun σ H Q => (∀ i ∈ l, ∃ z, σ[i]? = some (some (.int z))) ∧ ∀ k : Str, k = "says" ∨ k = "hears" → Q (.str k) H
/-- one of the two lists that world begins with -/
def tBeg : TE := fun σ H Q => ∃ (p W : Addr) (n t : Int) (ws : List Str), σ[0]? = some (some (.ref p)) ∧ σ[1]? = some (some (.int n)) ∧ σ[2]? = some (some (.ref W)) ∧ Purse H p t ∧ SL H W ws ∧ W ≠ p ∧ (∀ x ∈ ws, Wd x) ∧ ws.length ≤ 6 ∧ 1 ≤ n ∧ n ≤ 6 ∧ t < 2 ^ 26 ∧
  ∀ (H' : Hp) (R : Addr) (zs : List Str) (t' : Int), But p H H' → R ≠ p → SL H' R zs → (∀ x ∈ zs, Wd x) → zs.length = n.toNat → Purse H' p t' → t' ≤ t + 301 → Q (.ref R) H'
section
variable {P : Program} {w : World} {K : PySem.W.Frag} {mg : Str → Option Value} {base : Heap}
abbrev CTurns (P : Program) (w : World) (K : PySem.W.Frag) (mg : Str → Option Value) (base : Heap) := Cal P w K mg base "_law_turns" 4 ["_law_purse_here", "_law_states", "_law_words_here", "_law_at", "_law_top"] spTurns
theorem scWo : FnScope ["_law_purse_here", "_law_many", "_law_words_here", "_law_top", "_law_states", "_law_at", "_law_book", "_law_last", "_law_way"] ["_law_purse_here", "_law_many", "_law_words_here", "_law_top"] (defScope sWorld) := ⟨rfl, rfl, rfl, by decide +kernel, rfl, by decide +kernel, by decide +kernel⟩
theorem ok_world {f : Addr} {fd : FuncData} (F : Fun K "_law_world" "_law_world" sWorld f fd) (T : Free2 mg) (CD : CDraw P w K mg base) (CW : CWords P w K mg base) (CS : CShuf P w K mg base) (CT : CTurns P w K mg base) :
    FnOk P w K mg base CX0 5 f fd ["_law_purse_here", "_law_many", "_law_words_here", "_law_top"] spWorld := by
  refine F.ok scWo (fun vs H Q E h => ?_) (fun cdv A outer s H vs Q E hr h => ?_)
  · obtain ⟨p, W, ws, n, top', t, rfl, _⟩ := h; rfl
  · obtain ⟨p, W, ws, n, top', t, rfl, hp, hW, nW, wok, n0, n1, p0, p1, t1, k⟩ := h
    have hu := hu_of hr
    refine ⟨_, pss_cons (ps_set (i := 4) scWo.nd rfl (Or.inr rfl) (pe_cal CS (hr.mono (by decide)) rfl (pa_cons (pv 0) (pa_cons (pe_imp (t' := tBeg) (pe_ifExp (pt_cmpR op_eq (pe_cal CD (hr.mono (by decide)) rfl (pa_cons (pv 0) (pa_cons pe_int pa_nil))) pe_int (nomark _))
          (pe_cal CW (hr.mono (by decide)) rfl (pa_cons (pv 0) (pa_cons (pv 1) pa_nil)))
          (pe_slice sl_list (pe_op op_cat (pv 2) (pe_cal CW (hr.mono (by decide)) rfl (pa_cons (pv 0) (pa_cons (pv 1) pa_nil)))) po_none (po_some (pv 1)))) ?sub1) pa_nil))))
      (pss_cons (ps_set (i := 4) scWo.nd rfl (Or.inr rfl) (pe_lc (own := [("_law_at", 5)]) (g := gName 5) (tt := tTest (tOp (rEq) (tBM K "list" (rIndex K) (tVar 4) (tCons (tOp (rIxL K) (tVar 4) (tVar 5)) tNil)) (tVar 5))) (te := tOp (rIxL K) (tVar 4) (tVar 5)) rfl scWo.nd
          (pi_range1 rfl T.range (pa_cons (pv 1) pa_nil))
          (blkOk_by (N := ["_law_purse_here", "_law_many", "_law_words_here", "_law_top", "_law_states", "_law_at", "_law_book", "_law_last", "_law_way"]) (sc := defScope sWorld) (by decide +kernel)) (fun _ _ _ _ _ => pg_name (i := 5) scWo.nd rfl (Or.inl rfl))
          (fun _ _ _ _ _ => pts_one (pt_cmpR op_eq (pe_bm PySem.F.plainAttrs_list PySem.F.slot_list_index PySem.F.type_list_index mt_index (pv 4) (pa_cons (pe_ix ix_list (pv 4) (pv 5) (fun _ _ => rfl)) pa_nil)) (pv 5) (nomark _))) (fun _ _ _ _ _ => pe_ix ix_list (pv 4) (pv 5) (fun _ _ => rfl))))
      (pss_cons (ps_par (i := 6) (j := 7) rfl scWo.nd rfl rfl (by decide) rfl rfl (pa_cons pe_dnewK (pa_cons (pe_op op_sub (pe_callB call_len_seq (by rfl) T.len PySem.boot_len (pa_cons (pv 4) pa_nil)) pe_int) pa_nil)) (by rfl))
      (pss_cons (ps_for PassesOwn.never rfl (pi_range1 rfl T.range (pa_cons (pe_callB call_len_seq (by rfl) T.len PySem.boot_len (pa_cons (pv 4) pa_nil)) pa_nil)) (pg_name (i := 5) scWo.nd rfl (Or.inl rfl))
        (pss_cons (ps_set (i := 8) scWo.nd rfl (Or.inl rfl) (pe_cal CD (hr.mono (by decide)) rfl (pa_cons (pv 0) (pa_cons pe_int pa_nil))))
        (pss_one (ps_if (pt_imp (t' := tAny [5, 7, 8]) (PW.pt (pw_or (PW.pt (pw_and (pt_cmpR op_eq (pv 5) (pv 7) (nomark _)) (pw_and1 (pt_cmpR op_gt (pv 8) pe_int (nomark _))))) (pw_or1 (PW.pt (pw_and (pt_cmpR op_eq (pv 8) pe_int (nomark _)) (pw_and1 (pt_cmpR op_gt (pv 5) pe_int (nomark _)))))))) ?sub2)
          (pss_one (ps_dput hu (pv 6) (pe_ix ix_list (pv 4) (pv 5) (fun _ _ => rfl)) (pe_tup (pa_cons pe_str (pa_cons pe_dnewK pa_nil))) rfl))
          (pss_one (ps_dput hu (pv 6) (pe_ix ix_list (pv 4) (pv 5) (fun _ _ => rfl)) (pe_tup (pa_cons (pe_imp (t' := tKind [8]) (pe_ifExp (pt_cmpR op_eq (pe_op op_mod (pv 8) pe_int) pe_int (nomark _)) pe_str pe_str) ?sub3) (pa_cons (pe_cal CT (hr.mono (by decide)) rfl (pa_cons (pv 0) (pa_cons (pv 4) (pa_cons (pv 2) (pa_cons (pv 5) (pa_cons (pv 3) pa_nil)))))) pa_nil))) rfl))))))
      (pss_one (ps_ret (pe_lst (pa_cons (pv 6) (pa_cons (pe_ix ix_list (pv 4) pe_int (fun _ _ => rfl)) pa_nil)))))))), ?_⟩
    case sub1 =>
      rintro σ H Q ⟨p, W, n, t, ws, e0, e1, e2, hp, hW, nW, aw, lw, n0, n1, t1, k⟩
      refine ⟨_, e0, p, 2, t, rfl, hp, by decide, by decide, by omega, fun r t2 o r0 r1 tt2 hp2 => ?_⟩
      have b2 := But.upd p H o
      have hW2 : SL (L2.upd H p o) W ws := by rw [SL, upd_ne nW]; exact hW
      generalize L2.upd H p o = H2 at b2 hW2 hp2
      refine ⟨rfl, _, rfl, ?_⟩
      refine ite2 (fun _ => ?_) (fun _ => ?_)
      · refine ⟨_, e0, _, e1, p, n, t2, rfl, hp2, by omega, by omega, by omega, fun H3 R ss t3 b3 hR hS ls nd aw hp3 tt3 => ?_⟩
        exact k H3 R ss t3 (b2.trans b3) (hp2.ne hR) hS aw ls hp3 (by omega)
      · refine ⟨_, e2, _, e0, _, e1, p, n, t2, rfl, hp2, by omega, by omega, by omega, fun H3 R ss t3 b3 hR hS ls nd aw2 hp3 tt3 => ?_⟩
        have hW3 : SL H3 W ws := b3 _ _ nW hW2
        refine ⟨W, R, _, _, rfl, rfl, hW3, hS, by rw [List.length_map, List.length_map, sizeLine_eq]; omega, fun q hq => ?_⟩
        refine ⟨_, e1, n, rfl, q, _, rfl, SqL.of upd_same, fun q2 hq2 => ?_⟩
        rw [← List.map_append, cutV_map, cutL_to _ (by omega)]
        rw [← List.map_append] at hq2
        refine k _ q2 _ t3 (((b2.trans b3).newt hq).newt hq2) ((hp3.new hq).ne hq2) upd_same (fun x hx => ?_) ?_ ((hp3.new hq).new hq2) (by omega)
        · rcases List.mem_append.mp (List.mem_of_mem_take hx) with z | z
          · exact aw x z
          · exact aw2 x z
        · rw [List.length_take, List.length_append]; omega
    case sub2 =>
      rintro σ H Q ⟨a, k⟩
      obtain ⟨z5, e5⟩ := a 5 (by simp)
      obtain ⟨z7, e7⟩ := a 7 (by simp)
      obtain ⟨z8, e8⟩ := a 8 (by simp)
      have two : ∃ a, σ[8]? = some (some a) ∧ rEq a (.int 10) H fun x H' => ∃ k, x = .bl k ∧ if k = true then (∃ a, σ[5]? = some (some a) ∧ rI0 (fun i j => V.bl (decide (j < i))) a (.int 0) H' fun x H' => ∃ k, x = .bl k ∧ Q k H') else Q false H' := by
        refine ⟨_, e8, rfl, _, rfl, ite2 (fun _ => ⟨_, e5, _, _, rfl, rfl, _, rfl, k _⟩) (fun _ => k _)⟩
      refine ⟨_, e5, _, e7, rfl, _, rfl, ?_⟩
      refine ite2 (fun _ => ⟨_, e8, _, _, rfl, rfl, _, rfl, ?_⟩) (fun _ => ?_)
      · exact ite2 (fun _ => k _) (fun _ => two)
      · exact iteF two
    case sub3 =>
      rintro σ H Q ⟨a, k⟩
      obtain ⟨z8, e8⟩ := a 8 (by simp)
      refine ⟨_, e8, _, _, rfl, rfl, (by show (0 : Int) < 2; decide), rfl, _, rfl, ?_⟩
      exact ite2 (fun _ => k _ (.inl rfl)) (fun _ => k _ (.inr rfl))
    refine ⟨_, rfl, p, W, n, t, ws, rfl, rfl, rfl, hp, hW, nW, wok.wd, wok.hi, n0, n1, t1, fun H3 R zs0 t3 b3 nR hS az0 lz0 hp3 tt3 => ?_⟩
    refine ⟨p, R, _, t3, rfl, hp3, hS, nR, by rw [List.length_map]; omega, by omega, fun H4 R4 ys t4 b4 hR4 hy pm hp4 tt4 => ?_⟩
    obtain ⟨zs, rfl, pz⟩ := perm_str pm
    rw [List.length_map, lz0] at tt4
    have lz : zs.length = n.toNat := by rw [pz.length_eq]; exact lz0
    have az : ∀ x ∈ zs, Wd x := fun x hx => az0 x (pz.mem_iff.mp hx)
    have bH4 := b3.trans b4
    have nR4 := hp3.ne hR4
    have hW4 : SL H4 W ws := bH4 _ _ nW hW
    clear b3 b4 hS pm az0 lz0 hp3 pz
    have hy : SL H4 R4 zs := hy
    refine ⟨_, rfl, n, rfl, by omega, by omega, fun D hD => ?_⟩
    refine lc_range (n := n.toNat) (fun i H' => ∃ rs : List Str, Same H4 H' ∧ SL H' D rs ∧ rs.Nodup ∧ (∀ x ∈ rs, x ∈ zs.take i) ∧ (0 < i → rs ≠ []) ∧ rs.length ≤ i)
      ⟨[], Same.new hD, upd_same, List.nodup_nil, by simp, fun c => absurd c (by decide), Nat.le_refl _⟩ ?_ ?_
    · rintro i H' hi ⟨rs, sm, hD', nd, sub, ne, ll⟩
      have hiz : i < zs.length := by omega
      have hx := List.getElem?_eq_getElem hiz
      have ha : atI (zs.map V.str) (0 + (i : Int)) = some (V.str zs[i]) := at_of (j := i) (by omega) (by rw [List.getElem?_map, hx]; rfl)
      obtain ⟨j, hj, no⟩ := first_at (List.getElem_mem hiz)
      generalize zs[i] = x at hx ha hj no
      have hy' := (hy.same sm).sq (K := K)
      refine ⟨rfl, _, rfl, .inl ⟨rfl, _, hy'⟩, _, rfl, _, rfl, R4, _, _, _, rfl, rfl, hy', ha, R4, _, .str x, j, .str x, rfl, rfl, hy', rfl, flat_strs zs, by rw [List.getElem?_map, hj]; rfl, ?_, fun m z' hm hz => ?_, ?_⟩
      · show (x == x) = true
        exact beq_self_eq_true x
      · obtain ⟨y, hyy, rfl⟩ := get_map hz
        show (y == x) = false
        exact beq_eq_false_iff_ne.mpr fun e => no m hm (by rw [hyy, e])
      refine ⟨_, rfl, rfl, _, rfl, ?_⟩
      have hji : j ≤ i := by
        rcases Nat.lt_or_ge i j with c | c
        · exact absurd hx (no i c)
        · exact c
      refine ite2 (fun c => ?_) (fun c => ?_)
      · have ej : j = i := by
          have := of_decide_eq_true c
          have e2 : (j : Int) = 0 + (i : Int) := by injection this
          omega
        have xn : x ∉ zs.take i := fun hm => by
          obtain ⟨m, hm1, hm2⟩ := List.mem_take_iff_getElem.mp hm
          have : m < j := by omega
          exact no m this (by rw [List.getElem?_eq_getElem (by omega), hm2])
        refine ⟨_, rfl, _, rfl, R4, _, _, _, rfl, rfl, hy', ha, _, hD', by rw [List.length_map, sizeLine_eq]; omega, rs ++ [x], ?_, by rw [SL, upd_same, List.map_append]; rfl, nodup_app nd fun z => xn (sub x z), fun z hz => ?_, fun _ e => by simp at e, by rw [List.length_append]; simp only [List.length_singleton]; omega⟩
        · intro b u e
          rw [upd_ne (ne_of_none e hD)]; exact sm _ _ e
        · rw [take_succ_get hx]
          rcases List.mem_append.mp hz with z1 | z1
          · exact List.mem_append_left _ (sub z z1)
          · exact List.mem_append_right _ z1
      · have ei : i ≠ 0 := fun e => by
          refine c (decide_eq_true ?_)
          have : j = i := by omega
          rw [this, Int.zero_add]
        exact ⟨rs, sm, hD', nd, fun z hz => by rw [take_succ_get hx]; exact List.mem_append_left _ (sub z hz), fun _ => ne (by omega), by omega⟩
    · rintro H5 ⟨rs, sm, hD', nd, sub, ne, ll⟩
      have ne' := ne (by omega)
      have ln : 1 ≤ rs.length := List.length_pos_iff.mpr ne'
      have ar : ∀ x ∈ rs, Wd x := fun x hx => az x (List.mem_of_mem_take (sub x hx))
      have b5 := bH4.trans (But.of sm)
      have hp5 := hp4.same sm
      have hW5 := hW4.same sm
      have nDp := hp4.ne hD
      clear hy sub ne hD
      refine fun B hB => ⟨_, rfl, D, _, rfl, .inl (hD'.new hB).sq, _, _, rfl, rfl, _, _, rfl, ?_⟩
      have nBp := hp5.ne hB
      have nDB : D ≠ B := ne_of_none hD' hB
      have nWB : W ≠ B := ne_of_none hW5 hB
      have hB0 : H B = none := b5.fr hB nBp
      refine ⟨_, rfl, D, _, rfl, .inl (hD'.new hB).sq, _, rfl, by rw [List.length_map]; omega, by rw [List.length_map]; omega, ?_⟩
      rw [List.length_map]
      refine for_range (n := rs.length) (fun i σ H' => ∃ (v5 v8 : Option V) (bk : Bk) (t' : Int), σ = [some (.ref p), some (.int n), some (.ref W), some (.int top'), some (.ref D), v5, some (.ref B), some (.int ((rs.length : Int) - 1)), v8] ∧ But p H H' ∧ SL H' D rs ∧ SL H' W ws ∧ (∃ kvs, H' B = some (.dK kvs) ∧ Rows (cut [p, B] H') kvs bk) ∧ bk.map (·.1) = rs.take i ∧ (∀ r ∈ bk, ROk rs ws r) ∧ Purse H' p t' ∧ t' ≤ t4 + 51 * i)
        ⟨none, none, [], t4, rfl, b5.newt hB, hD'.new hB, hW5.new hB, ⟨[], upd_same, .nil⟩, by simp, by simp, hp5.new hB, by omega⟩ ?_ ?_
      · rintro i σ H' hi ⟨v5, v8, bk, t', rfl, b, hDD, hWW, ⟨kvs, hBB, hR⟩, ek, ak, hp', tt'⟩
        have hx := List.getElem?_eq_getElem hi
        have hxm := List.getElem_mem hi
        have ha : atI (rs.map V.str) (0 + (i : Int)) = some (V.str rs[i]) := at_of (j := i) (by omega) (by rw [List.getElem?_map, hx]; rfl)
        generalize rs[i] = x at hx hxm ha
        have xn : x ∉ bk.map (·.1) := fun z => by
          rw [ek] at z
          obtain ⟨m, hm1, hm2⟩ := List.mem_take_iff_getElem.mp z
          have h1 : rs[m]? = some x := by rw [List.getElem?_eq_getElem (by omega), hm2]
          have := (List.getElem?_inj (by omega) nd).mp (h1.trans hx.symm)
          omega
        have lk : kvs.length ≤ 6 := by
          rw [hR.len, ← List.length_map (·.1), ek, List.length_take]; omega
        refine ⟨_, rfl, p, 11, t', rfl, hp', by decide, by decide, by omega, fun way t5 o r0 r1 tt5 hp5 => ?_⟩
        have hD5 : SL (L2.upd H' p o) D rs := by rw [SL, upd_ne nDp]; exact hDD
        have hW5 : SL (L2.upd H' p o) W ws := by rw [SL, upd_ne nW]; exact hWW
        have hB5 : (L2.upd H' p o) B = some (.dK kvs) := by rw [upd_ne nBp]; exact hBB
        have hR5 : Rows (cut [p, B] (L2.upd H' p o)) kvs bk := by rw [cut_upd (by simp)]; exact hR
        have b5 := b.trans (But.upd p H' o)
        generalize L2.upd H' p o = H5 at hD5 hW5 hB5 hR5 hp5 b5
        clear hDD hWW hBB hR b hp'
        refine ⟨fun j hj => ?_, fun bb => ?_⟩
        · simp only [List.mem_cons, List.not_mem_nil, or_false] at hj
          rcases hj with rfl | rfl | rfl
          · exact ⟨_, rfl⟩
          · exact ⟨_, rfl⟩
          · exact ⟨_, rfl⟩
        have fin : ∀ (H6 : Hp) (E1 T1 : Addr) (k0 : Str) (ts : List (Str × Str)) (t6 : Int), But p H5 H6 → E1 ≠ p → E1 ≠ B → TurnsAt H6 E1 ts → H6 T1 = none → Purse H6 p t6 → t6 ≤ t5 + 50 → ROk rs ws (x, k0, ts) →
            ∃ (v5 v8 : Option V) (bk2 : Bk) (t' : Int), [some (.ref p), some (.int n), some (.ref W), some (.int top'), some (.ref D), some (.int (0 + (i : Int))), some (.ref B), some (.int ((rs.length : Int) - 1)), some (.int way)] = [some (.ref p), some (.int n), some (.ref W), some (.int top'), some (.ref D), v5, some (.ref B), some (.int ((rs.length : Int) - 1)), v8] ∧ But p H (L2.upd (L2.upd H6 T1 (.tup [.str k0, .ref E1])) B (.dK (putK kvs (.inr x) (.ref T1)))) ∧ SL (L2.upd (L2.upd H6 T1 (.tup [.str k0, .ref E1])) B (.dK (putK kvs (.inr x) (.ref T1)))) D rs ∧ SL (L2.upd (L2.upd H6 T1 (.tup [.str k0, .ref E1])) B (.dK (putK kvs (.inr x) (.ref T1)))) W ws ∧
              (∃ kvs', (L2.upd (L2.upd H6 T1 (.tup [.str k0, .ref E1])) B (.dK (putK kvs (.inr x) (.ref T1)))) B = some (.dK kvs') ∧ Rows (cut [p, B] (L2.upd (L2.upd H6 T1 (.tup [.str k0, .ref E1])) B (.dK (putK kvs (.inr x) (.ref T1))))) kvs' bk2) ∧ bk2.map (·.1) = rs.take (i + 1) ∧ (∀ r ∈ bk2, ROk rs ws r) ∧ Purse (L2.upd (L2.upd H6 T1 (.tup [.str k0, .ref E1])) B (.dK (putK kvs (.inr x) (.ref T1)))) p t' ∧ t' ≤ t4 + 51 * ((i + 1 : Nat) : Int) := by
          intro H6 E1 T1 k0 ts t6 b6 nE nEB hT hT1 hp6 tt6 rok
          have hB6 : H6 B = some (.dK kvs) := b6 _ _ nBp hB5
          have nT := hp6.ne hT1
          refine ⟨_, _, bk ++ [(x, k0, ts)], t6, rfl, But.ofL hB0 ((b5.trans b6).newt hT1), ?_, ?_, row_step hB6 (hR5.same (cut_but b6 (by simp))) xn hT nE nEB nT hT1, ?_, fun r hr => ?_, (hp6.new hT1).upd nBp.symm, by omega⟩
          · rw [SL, upd_ne nDB]; exact SL.new (b6 _ _ nDp hD5) hT1
          · rw [SL, upd_ne nWB]; exact SL.new (b6 _ _ nW hW5) hT1
          · rw [List.map_append, ek, take_succ_get hx]; rfl
          · rcases List.mem_append.mp hr with z | z
            · exact ak r z
            · rw [List.mem_singleton.mp z]; exact rok
        refine ite2 (fun _ => ?_) (fun _ => ?_)
        · refine fun E1 hE1 => ⟨by show 2 ≤ sizeLine; decide, fun T1 hT1 => ?_⟩
          have hD6 := (hD5.new (o := .dK []) hE1).new (o := .tup [.str "done", .ref E1]) hT1
          refine ⟨_, rfl, _, rfl, _, rfl, D, _, _, _, rfl, rfl, hD6.sq, ha, B, _, rfl, DPut.k (kvs := kvs) (k := Sum.inr x) ?_ (by rw [sizeLine_eq]; omega), ?_⟩
          · exact Same.new hT1 _ _ (Same.new hE1 _ _ hB5)
          · exact fin _ E1 T1 "done" [] t5 (But.new hE1) (hp5.ne hE1) (ne_of_none hB5 hE1).symm upd_same hT1 (hp5.new hE1) (by omega) ⟨ar x hxm, .inl ⟨rfl, rfl⟩⟩
        · refine ⟨fun j hj => ?_, fun k0 hk0 => ?_⟩
          · simp only [List.mem_cons, List.not_mem_nil, or_false] at hj
            rw [hj]; exact ⟨_, rfl⟩
          refine ⟨_, rfl, _, rfl, _, rfl, _, rfl, _, rfl, p, D, W, rs, ws, _, top', t5, rfl, hp5, hD5, hW5, nDp, nW, ln, by omega, wok.lo, Nat.le_trans wok.hi (by decide), wok.nd, by omega, by omega, p0, p1, by omega, fun H6 E1 ts t6 b6 hE1 hT ok ne6 hp6 tt6 => ?_⟩
          refine ⟨by show 2 ≤ sizeLine; decide, fun T1 hT1 => ?_⟩
          have hD6 := SL.new (o := .tup [.str k0, .ref E1]) (b6 _ _ nDp hD5 : SL H6 D rs) hT1
          refine ⟨_, rfl, _, rfl, _, rfl, D, _, _, _, rfl, rfl, hD6.sq, ha, B, _, rfl, DPut.k (k := Sum.inr x) (Same.new hT1 _ _ (b6 _ _ nBp hB5)) (by rw [sizeLine_eq]; omega), ?_⟩
          exact fin H6 E1 T1 k0 ts t6 b6 (hp5.ne hE1) (ne_of_none hB5 hE1).symm hT hT1 hp6 tt6 ⟨ar x hxm, .inr ⟨hk0, ne6, ok⟩⟩
      · rintro σ H' ⟨v5, v8, bk, t', rfl, b, hDD, hWW, ⟨kvs, hBB, hR⟩, ek, ak, hp', tt'⟩
        rw [List.take_length] at ek
        have ha : atI (rs.map V.str) (0 : Int) = some (V.str rs[0]) := at_of (j := 0) (by omega) (by rw [List.getElem?_map, List.getElem?_eq_getElem ln]; rfl)
        have h0 : rs[0] ∈ rs := List.getElem_mem ln
        refine ⟨_, rfl, _, rfl, D, _, _, _, rfl, rfl, hDD.sq, ha, by show 2 ≤ sizeLine; decide, fun R hR1 => ?_⟩
        refine k _ R bk rs[0] t' (b.newt hR1) (b.fr hR1 (hp'.ne hR1)) ⟨B, ?_, kvs, ?_, hR.same ?_⟩ ⟨by rw [ek]; exact nd, by rw [ek]; exact ak, by rw [ek]; exact h0, ?_⟩ (hp'.new hR1) (by omega)
        · rw [cut_out (by simp [hp'.ne hR1])]; exact upd_same
        · rw [cut_out (by simp [nBp])]; exact Same.new hR1 _ _ hBB
        · exact fun c u e => cut_new hR1 _ _ (cut_mono (S := [p, B]) (S' := [p]) (by simp) _ _ e)
        · rw [← List.length_map (·.1), ek]; omega
end
end D1
end L2
namespace L2
namespace D1
open PySem PySem.Spec PyProof.Rows
theorem merge_nd : ∀ (more kvs : List (Key × V)), (∀ p ∈ more, p.1 ∉ kvs.map (·.1)) → (more.map (·.1)).Nodup → mergeK kvs more = kvs ++ more
  | [], kvs, _, _ => (List.append_nil _).symm
  | p :: r, kvs, h, nd => by
    have nd' := List.nodup_cons.mp nd
    show mergeK (putK kvs p.1 p.2) r = _
    rw [putK_new (h p List.mem_cons_self), merge_nd r _ ?_ nd'.2, List.append_assoc]
    · rfl
    · intro q hq z
      rw [List.map_append] at z
      rcases List.mem_append.mp z with z | z
      · exact h q (List.mem_cons_of_mem _ hq) z
      · have : q.1 = p.1 := List.mem_singleton.mp z
        exact nd'.1 (by show p.1 ∈ _; rw [← this]; exact List.mem_map_of_mem hq)
theorem merge_id {kvs : List (Key × V)} (nd : (kvs.map (·.1)).Nodup) : mergeK [] kvs = kvs := by
  rw [merge_nd kvs [] (by simp) nd]; rfl
theorem inr_nd {l : List Str} (h : l.Nodup) : (l.map (Sum.inr : Str → Key)).Nodup := by
  induction l with
  | nil => exact List.nodup_nil
  | cons a r ih =>
    have h' := List.nodup_cons.mp h
    refine List.nodup_cons.mpr ⟨fun z => ?_, ih h'.2⟩
    obtain ⟨b, hb, e⟩ := List.mem_map.mp z
    exact h'.1 (by rw [← Sum.inr.inj e]; exact hb)
theorem kT_nd {ts : List (Str × Str)} (h : (ts.map (·.1)).Nodup) : ((kT ts).map (·.1)).Nodup := by
  have : (kT ts).map (·.1) = (ts.map (·.1)).map Sum.inr := by rw [kT, List.map_map, List.map_map]; rfl
  rw [this]; exact inr_nd h
/-- a new row, its words and goals in slots -/
def tRow (k : Str) (l : List (Nat × Nat)) : TE := fun σ H Q => ∃ ts : List (Str × Str), Paired (fun ij t => σ[ij.1]? = some (some (.str t.1)) ∧ σ[ij.2]? = some (some (.str t.2))) l ts ∧ (ts.map (·.1)).Nodup ∧
  ∀ (H' : Hp) (T E : Addr), Same H H' → H T = none → H E = none → H' T = some (.tup [.str k, .ref E]) → TurnsAt H' E ts → Q (.ref T) H'
theorem row2 {X : Cx} {k : Str} {i j m n : Nat} {e1 e2 e3 e4 : Expr} {pos pos' : Pos} {x1 j0 : Nat} {ps : Pos} (h1 : PE X e1 (tVar i)) (h2 : PE X e2 (tVar j)) (h3 : PE X e3 (tVar m)) (h4 : PE X e4 (tVar n)) :
    PE X (.Tuple [.Constant (.str k) j0 ps, .Dict [some e1, some e3] [e2, e4] pos] x1 pos') (tRow k [(i, j), (m, n)]) := by
  refine pe_imp (pe_tup (pa_cons pe_str (pa_cons (pe_disp (pps_cons h1 h2 (pps_cons h3 h4 pps_nil)) (by rfl) (by rfl) (fun z => by cases z) (by show 2 ≤ 15; decide)) pa_nil))) ?_
  rintro σ H Q ⟨ts, pr, nd, kk⟩
  cases pr with
  | @cons _ t1 _ _ a pr =>
    cases pr with
    | @cons _ t2 _ _ b pr =>
      cases pr
      refine fun E hE => ⟨_, a.1, _, a.2, _, b.1, _, b.2, upd_same, kT [t1, t2], rfl, by show 2 ≤ 15; decide, by show 2 ≤ sizeLine; decide, fun T hT => ?_⟩
      rw [merge_id (kT_nd nd)] at hT ⊢
      have hT2 := upd_none' hT
      have nET : E ≠ T := fun e => by rw [← e, upd_same] at hT; cases hT
      refine kk _ T E (fun c u ec => ?_) (upd_none' hT2) hE upd_same (by rw [TurnsAt, upd_ne nET, upd_same])
      rw [upd_ne (ne_of_none ec (upd_none' hT2)), upd_ne (ne_of_none ec hE), upd_ne (ne_of_none ec hE)]; exact ec
theorem row1 {X : Cx} {k : Str} {i j : Nat} {e1 e2 : Expr} {pos pos' : Pos} {x1 j0 : Nat} {ps : Pos} (h1 : PE X e1 (tVar i)) (h2 : PE X e2 (tVar j)) :
    PE X (.Tuple [.Constant (.str k) j0 ps, .Dict [some e1] [e2] pos] x1 pos') (tRow k [(i, j)]) := by
  refine pe_imp (pe_tup (pa_cons pe_str (pa_cons (pe_disp (pps_cons h1 h2 pps_nil) (by rfl) (by rfl) (fun z => by cases z) (by show 1 ≤ 15; decide)) pa_nil))) ?_
  rintro σ H Q ⟨ts, pr, nd, kk⟩
  cases pr with
  | @cons _ t1 _ _ a pr =>
    cases pr
    refine fun E hE => ⟨_, a.1, _, a.2, upd_same, kT [t1], rfl, by show 1 ≤ 15; decide, by show 2 ≤ sizeLine; decide, fun T hT => ?_⟩
    rw [merge_id (kT_nd nd)] at hT ⊢
    have hT2 := upd_none' hT
    have nET : E ≠ T := fun e => by rw [← e, upd_same] at hT; cases hT
    refine kk _ T E (fun c u ec => ?_) (upd_none' hT2) hE upd_same (by rw [TurnsAt, upd_ne nET, upd_same])
    rw [upd_ne (ne_of_none ec (upd_none' hT2)), upd_ne (ne_of_none ec hE), upd_ne (ne_of_none ec hE)]; exact ec
theorem row0 {X : Cx} {k : Str} {pos pos' : Pos} {x1 j0 : Nat} {ps : Pos} :
    PE X (.Tuple [.Constant (.str k) j0 ps, .Dict [] [] pos] x1 pos') (tRow k []) := by
  refine pe_imp (pe_tup (pa_cons pe_str (pa_cons pe_dnewK pa_nil))) ?_
  rintro σ H Q ⟨ts, pr, nd, kk⟩
  cases pr
  refine fun E hE => ⟨by show 2 ≤ sizeLine; decide, fun T hT => ?_⟩
  have nET : E ≠ T := fun e => by rw [← e, upd_same] at hT; cases hT
  refine kk _ T E (fun c u ec => ?_) (upd_none' hT) hE upd_same (by rw [TurnsAt, upd_ne nET, upd_same]; rfl)
  rw [upd_ne (ne_of_none ec (upd_none' hT)), upd_ne (ne_of_none ec hE)]; exact ec
/-- a row that stands new -/
theorem RowAt.mk' {S : List Addr} {H H' : Hp} {T E : Addr} {k : Str} {ts : List (Str × Str)} (hS : ∀ b ∈ S, ∃ u, H b = some u) (nT : H T = none) (nE : H E = none) (h1 : H' T = some (.tup [.str k, .ref E])) (h2 : TurnsAt H' E ts) : RowAt (cut S H') (.ref T) k ts := by
  refine ⟨T, E, rfl, ?_, ?_⟩
  · rw [cut_out fun z => by obtain ⟨u, hu⟩ := hS T z; rw [hu] at nT; cases nT]; exact h1
  · rw [TurnsAt, cut_out fun z => by obtain ⟨u, hu⟩ := hS E z; rw [hu] at nE; cases nE]; exact h2
abbrev sShape : Stmt := top 41
def spShape : Sp := fun vs H Q _ => ∃ (p W : Addr) (ws : List Str) (t : Int), vs = [.ref p, .ref W] ∧ Purse H p t ∧ SL H W ws ∧ W ≠ p ∧ WsOk ws ∧ 4 ≤ ws.length ∧ t < 2 ^ 26 ∧
  ∀ (H' : Hp) (R : Addr) (bk : Bk) (st : Str) (t' : Int), But p H H' → H R = none → WorldAt (cut [p] H') R bk st → WF bk st ws → Purse H' p t' → t' ≤ t + 700 → Q (.ref R) H'
/-- the end of a display of a book -/
theorem book_end {p B R : Addr} {H3 : Hp} {kvs : List (Key × V)} {bk : Bk} {st : Str} (hp : p ≠ B) (hRw : Rows (cut [p, B] H3) kvs bk) (nd : (bk.map (·.1)).Nodup) (hR : (L2.upd H3 B (.dK (mergeK [] kvs))) R = none) (nRp : R ≠ p) :
    WorldAt (cut [p] (L2.upd (L2.upd H3 B (.dK (mergeK [] kvs))) R (.lst [.ref B, .str st]))) R bk st := by
  have nd2 : (kvs.map (·.1)).Nodup := by
    have z := inr_nd nd
    rw [List.map_map] at z
    rw [hRw.keys]; exact z
  have nBR : B ≠ R := fun e => by rw [← e, upd_same] at hR; cases hR
  refine ⟨B, by rw [cut_out (by simpa using nRp)]; exact upd_same, kvs, ?_, ?_⟩
  · rw [cut_out (by simpa using hp.symm), upd_ne nBR, upd_same, merge_id nd2]
  · refine hRw.same fun c u e => ?_
    obtain ⟨nc, e⟩ := cut_some e
    simp only [List.mem_cons, List.not_mem_nil, or_false, not_or] at nc
    have ncR : c ≠ R := fun z => by rw [z] at e nc; rw [upd_ne nc.2] at hR; rw [hR] at e; cases e
    rw [cut_out (by simpa using nc.1), upd_ne ncR, upd_ne nc.2]; exact e
theorem tok2 {a b c d : Str} {ss ws : List Str} (n : a ≠ b) (ha : a ∈ ws) (hb : b ∈ ws) (hc : c ∈ ss) (hd : d ∈ ss) : TOk [(a, c), (b, d)] ss ws :=
  ⟨by simpa using n, by simp [ha, hb], by simp [hc, hd]⟩
theorem tok1 {a c : Str} {ss ws : List Str} (ha : a ∈ ws) (hc : c ∈ ss) : TOk [(a, c)] ss ws := ⟨by simp, by simp [ha], by simp [hc]⟩
end D1
end L2
namespace L2
namespace D1
open PySem PySem.Spec PyProof.Rows
section
variable {P : Program} {w : World} {K : PySem.W.Frag} {mg : Str → Option Value} {base : Heap}
theorem scSa : FnScope ["_law_purse_here", "_law_words_here", "_law_way", "_law_states", "_law_begin", "_law_second", "_law_third", "_law_last", "_law_go", "_law_out", "_law_on", "_law_end", "_law_row"] ["_law_purse_here", "_law_words_here"] (defScope sShape) := ⟨rfl, rfl, rfl, by decide +kernel, rfl, by decide +kernel, by decide +kernel⟩
theorem ok_shape {f : Addr} {fd : FuncData} (F : Fun K "_law_shape" "_law_shape" sShape f fd) (T : Free2 mg) (CD : CDraw P w K mg base) (CW : CWords P w K mg base) :
    FnOk P w K mg base CX0 5 f fd ["_law_purse_here", "_law_words_here"] spShape := by
  refine F.ok scSa (fun vs H Q E h => ?_) (fun cdv A outer s H vs Q E hr h => ?_)
  · obtain ⟨p, W, ws, t, rfl, _⟩ := h; rfl
  · obtain ⟨p, W, ws, t, rfl, hp, hW, nW, wok, l4, t1, k⟩ := h
    have hu := hu_of hr
    refine ⟨_, pss_cons (ps_par (i := 2) (j := 3) rfl scSa.nd rfl rfl (by decide) rfl rfl (pa_cons (pe_cal CD (hr.mono (by decide)) rfl (pa_cons (pv 0) (pa_cons pe_int pa_nil))) (pa_cons (pe_cal CW (hr.mono (by decide)) rfl (pa_cons (pv 0) (pa_cons pe_int pa_nil))) pa_nil)) (by rfl))
      (pss_cons (ps_asg (pv 3) (pg_lst rfl (pgs_cons (pg_name (i := 4) scSa.nd rfl (Or.inl rfl)) (pgs_cons (pg_name (i := 5) scSa.nd rfl (Or.inl rfl)) (pgs_cons (pg_name (i := 6) scSa.nd rfl (Or.inl rfl)) (pgs_cons (pg_name (i := 7) scSa.nd rfl (Or.inl rfl)) pgs_nil))))))
      (pss_cons (ps_asg (pe_slice sl_list (pv 1) po_none (po_some pe_int)) (pg_lst rfl (pgs_cons (pg_name (i := 8) scSa.nd rfl (Or.inl rfl)) (pgs_cons (pg_name (i := 9) scSa.nd rfl (Or.inl rfl)) (pgs_cons (pg_name (i := 10) scSa.nd rfl (Or.inl rfl)) (pgs_cons (pg_name (i := 11) scSa.nd rfl (Or.inl rfl)) pgs_nil))))))
      (pss_cons (ps_if (pt_cmpR op_eq (pv 2) pe_int (nomark _)) (pss_one (ps_ret (pe_lst (pa_cons (pe_disp (pps_cons (pv 4) (row2 (pv 8) (pv 4) (pv 9) (pv 5)) (pps_cons (pv 5) row0 pps_nil)) (by rfl) (by rfl) (fun z => by cases z) (by show 2 ≤ 15; decide)) (pa_cons (pv 4) pa_nil))))) pss_nil)
      (pss_cons (ps_if (pt_cmpR op_eq (pv 2) pe_int (nomark _)) (pss_one (ps_ret (pe_lst (pa_cons (pe_disp (pps_cons (pv 4) (row2 (pv 8) (pv 5) (pv 9) (pv 6)) (pps_cons (pv 5) (row2 (pv 10) (pv 4) (pv 11) (pv 6)) (pps_cons (pv 6) row0 pps_nil))) (by rfl) (by rfl) (fun z => by cases z) (by show 3 ≤ 15; decide)) (pa_cons (pv 4) pa_nil))))) pss_nil)
      (pss_cons (ps_set (i := 12) scSa.nd rfl (Or.inl rfl) (pe_disp (pps_cons (pv 4) (row2 (pv 8) (pv 5) (pv 9) (pv 6)) (pps_cons (pv 5) (row2 (pv 10) (pv 4) (pv 11) (pv 7)) (pps_cons (pv 7) row0 pps_nil))) (by rfl) (by rfl) (fun z => by cases z) (by show 3 ≤ 15; decide)))
      (pss_cons (ps_dput hu (pv 12) (pv 6) (pe_ifExp (pt_cmpR op_eq (pv 2) pe_int (nomark _)) (row2 (pv 10) (pv 4) (pv 11) (pv 7)) (row1 (pv 10) (pv 6))) rfl)
      (pss_one (ps_ret (pe_lst (pa_cons (pv 12) (pa_cons (pv 4) pa_nil))))))))))), ?_⟩
    refine ⟨_, rfl, p, 4, t, rfl, hp, by decide, by decide, by omega, fun way t2 o r0 r1 tt2 hp2 => ?_⟩
    have b2 := But.upd p H o
    have hW2 : SL (L2.upd H p o) W ws := by rw [SL, upd_ne nW]; exact hW
    generalize L2.upd H p o = H2 at b2 hW2 hp2
    refine ⟨_, rfl, p, 4, t2, rfl, hp2, by decide, by decide, by omega, fun H3 S ss t3 b3 hS hSS ls nd aw hp3 tt3 => ⟨_, _, rfl, ?_⟩⟩
    have b03 := b2.trans b3
    have hW3 : SL H3 W ws := b3 _ _ nW hW2
    have ls4 : ss.length = 4 := ls
    obtain ⟨b', s', d', l', rfl⟩ : ∃ a b c d, ss = [a, b, c, d] := by
      match ss, ls4 with
      | [a, b, c, d], _ => exact ⟨a, b, c, d, rfl⟩
    refine ⟨_, rfl, S, _, rfl, hSS.sq, rfl, _, _, rfl, _, _, rfl, _, _, rfl, _, _, rfl, rfl, ?_⟩
    refine ⟨_, rfl, _, rfl, W, _, rfl, hW3.sq, fun q hq => ?_⟩
    rw [cutV_map, cutL_to _ (by decide)]
    obtain ⟨g', o', n', e', ew⟩ : ∃ a b c d, ws.take (4 : Int).toNat = [a, b, c, d] := by
      match ws, l4 with
      | a :: b :: c :: d :: r, _ => exact ⟨a, b, c, d, rfl⟩
    rw [ew]
    have wnd : ([g', o', n', e'] : List Str).Nodup := ew ▸ List.Nodup.sublist (List.take_sublist _ _) wok.nd
    have wm : ∀ x ∈ ([g', o', n', e'] : List Str), x ∈ ws := fun x hx => List.mem_of_mem_take (by rw [ew]; exact hx)
    refine ⟨q, _, rfl, SqL.of upd_same, rfl, _, _, rfl, _, _, rfl, _, _, rfl, _, _, rfl, rfl, ?_⟩
    have hp4 : Purse (L2.upd H3 q (.lst ([g', o', n', e'].map V.str))) p t3 := hp3.new hq
    have b04 : But p H (L2.upd H3 q (.lst ([g', o', n', e'].map V.str))) := b03.newt hq
    generalize L2.upd H3 q (.lst ([g', o', n', e'].map V.str)) = H4 at hp4 b04
    simp only [List.nodup_cons, List.mem_cons, List.not_mem_nil, or_false, not_or, not_false_eq_true, List.nodup_nil, and_true] at nd wnd
    obtain ⟨⟨nbs, nbd, nbl⟩, ⟨nsd, nsl⟩, ndl⟩ := nd
    obtain ⟨⟨ngo, ngn, nge⟩, ⟨non, noe⟩, nne⟩ := wnd
    have nld : ¬ l' = d' := fun e => ndl e.symm
    have gm := wm g' (by simp)
    have om := wm o' (by simp)
    have nm := wm n' (by simp)
    have em := wm e' (by simp)
    have wb := aw b' (by simp)
    have wsc := aw s' (by simp)
    have wd' := aw d' (by simp)
    have wl := aw l' (by simp)
    change Ends.nx _ [some (.ref p), some (.ref W), some (.int way), some (.ref S), some (.str b'), some (.str s'), some (.str d'), some (.str l'), some (.str g'), some (.str o'), some (.str n'), some (.str e'), none] _
    clear wm aw ls ls4 hSS hW3 hp3 hq b03 b3 hp2 b2 hW2
    refine ⟨_, rfl, rfl, _, rfl, ?_⟩
    refine ite2 (fun _ => ?_) (fun _ => ?_)
    · skip
      refine fun B hB => ?_
      have nBp := hp4.ne hB
      have hB0 : H B = none := b04.fr hB nBp
      have k0 : ∀ c ∈ [p, B], ∃ u, (L2.upd H4 B (.dK [])) c = some u := fun c hc => by
        rcases List.mem_cons.mp hc with rfl | hc
        · exact (hp4.new hB).some
        · obtain rfl := List.mem_singleton.mp hc; exact ⟨_, upd_same⟩
      have s0 : Same (L2.upd H4 B (.dK [])) (L2.upd H4 B (.dK [])) := Same.refl _
      refine ⟨_, rfl, [(g', b'), (o', s')], (.cons ⟨rfl, rfl⟩ (.cons ⟨rfl, rfl⟩ .nil)), by simpa using ngo, fun G1 T1 E1 s1 nT1 nE1 h1 e1 => ?_⟩
      have R1 := RowAt.mk' k0 nT1 nE1 h1 e1
      have k1 : ∀ c ∈ [p, B], ∃ u, G1 c = some u := fun c hc => by obtain ⟨u, hu⟩ := k0 c hc; exact ⟨u, s1 _ _ hu⟩
      refine ⟨_, rfl, [], .nil, by simp, fun G2 T2 E2 s2 nT2 nE2 h2 e2 => ?_⟩
      have R2 := RowAt.mk' k1 nT2 nE2 h2 e2
      have k2 : ∀ c ∈ [p, B], ∃ u, G2 c = some u := fun c hc => by obtain ⟨u, hu⟩ := k1 c hc; exact ⟨u, s2 _ _ hu⟩
      have hRw : Rows (cut [p, B] G2) [(.inr b', .ref T1), (.inr s', .ref T2)] [(b', "says", [(g', b'), (o', s')]), (s', "done", [])] := (.cons ⟨rfl, (R1).same (cut_same s2)⟩ (.cons ⟨rfl, R2⟩ .nil))
      have sT : Same (L2.upd H4 B (.dK [])) G2 := (Same.trans s1 s2)
      have hG := (hp4.new (o := .dK []) hB).same sT
      have bG : But p H G2 := (b04.newt hB).trans (But.of sT)
      refine ⟨sT _ _ upd_same, [(.inr b', .ref T1), (.inr s', .ref T2)], rfl, by show 2 ≤ 15; decide, ?_⟩
      refine ⟨_, rfl, by show 2 ≤ sizeLine; decide, fun R hR => ?_⟩
      have hG2 : Purse (L2.upd G2 B (.dK (mergeK [] [(.inr b', .ref T1), (.inr s', .ref T2)]))) p t3 := hG.upd nBp.symm
      have bG2 : But p H (L2.upd G2 B (.dK (mergeK [] [(.inr b', .ref T1), (.inr s', .ref T2)]))) := But.ofL hB0 bG
      refine k _ R [(b', "says", [(g', b'), (o', s')]), (s', "done", [])] b' t3 (bG2.newt hR) (bG2.fr hR (hG2.ne hR)) (book_end nBp.symm hRw (by simp [nbs, nbd, nbl, nsd, nsl, ndl, nld]) hR (hG2.ne hR)) ?_ (hG2.new hR) (by omega)
      refine ⟨by simp [nbs, nbd, nbl, nsd, nsl, ndl, nld], fun r hr => ?_, by simp, by simp⟩
      simp only [List.mem_cons, List.not_mem_nil, or_false] at hr
      rcases hr with rfl | rfl
      · exact ⟨wb, .inr ⟨.inl rfl, by simp, tok2 ngo gm om (by simp) (by simp)⟩⟩
      · exact ⟨wsc, .inl ⟨rfl, rfl⟩⟩
    · refine ⟨_, rfl, rfl, _, rfl, ?_⟩
      refine ite2 (fun _ => ?_) (fun _ => ?_)
      · skip
        refine fun B hB => ?_
        have nBp := hp4.ne hB
        have hB0 : H B = none := b04.fr hB nBp
        have k0 : ∀ c ∈ [p, B], ∃ u, (L2.upd H4 B (.dK [])) c = some u := fun c hc => by
          rcases List.mem_cons.mp hc with rfl | hc
          · exact (hp4.new hB).some
          · obtain rfl := List.mem_singleton.mp hc; exact ⟨_, upd_same⟩
        have s0 : Same (L2.upd H4 B (.dK [])) (L2.upd H4 B (.dK [])) := Same.refl _
        refine ⟨_, rfl, [(g', s'), (o', d')], (.cons ⟨rfl, rfl⟩ (.cons ⟨rfl, rfl⟩ .nil)), by simpa using ngo, fun G1 T1 E1 s1 nT1 nE1 h1 e1 => ?_⟩
        have R1 := RowAt.mk' k0 nT1 nE1 h1 e1
        have k1 : ∀ c ∈ [p, B], ∃ u, G1 c = some u := fun c hc => by obtain ⟨u, hu⟩ := k0 c hc; exact ⟨u, s1 _ _ hu⟩
        refine ⟨_, rfl, [(n', b'), (e', d')], (.cons ⟨rfl, rfl⟩ (.cons ⟨rfl, rfl⟩ .nil)), by simpa using nne, fun G2 T2 E2 s2 nT2 nE2 h2 e2 => ?_⟩
        have R2 := RowAt.mk' k1 nT2 nE2 h2 e2
        have k2 : ∀ c ∈ [p, B], ∃ u, G2 c = some u := fun c hc => by obtain ⟨u, hu⟩ := k1 c hc; exact ⟨u, s2 _ _ hu⟩
        refine ⟨_, rfl, [], .nil, by simp, fun G3 T3 E3 s3 nT3 nE3 h3 e3 => ?_⟩
        have R3 := RowAt.mk' k2 nT3 nE3 h3 e3
        have k3 : ∀ c ∈ [p, B], ∃ u, G3 c = some u := fun c hc => by obtain ⟨u, hu⟩ := k2 c hc; exact ⟨u, s3 _ _ hu⟩
        have hRw : Rows (cut [p, B] G3) [(.inr b', .ref T1), (.inr s', .ref T2), (.inr d', .ref T3)] [(b', "says", [(g', s'), (o', d')]), (s', "says", [(n', b'), (e', d')]), (d', "done", [])] := (.cons ⟨rfl, ((R1).same (cut_same s2)).same (cut_same s3)⟩ (.cons ⟨rfl, (R2).same (cut_same s3)⟩ (.cons ⟨rfl, R3⟩ .nil)))
        have sT : Same (L2.upd H4 B (.dK [])) G3 := (Same.trans (Same.trans s1 s2) s3)
        have hG := (hp4.new (o := .dK []) hB).same sT
        have bG : But p H G3 := (b04.newt hB).trans (But.of sT)
        refine ⟨sT _ _ upd_same, [(.inr b', .ref T1), (.inr s', .ref T2), (.inr d', .ref T3)], rfl, by show 3 ≤ 15; decide, ?_⟩
        refine ⟨_, rfl, by show 2 ≤ sizeLine; decide, fun R hR => ?_⟩
        have hG2 : Purse (L2.upd G3 B (.dK (mergeK [] [(.inr b', .ref T1), (.inr s', .ref T2), (.inr d', .ref T3)]))) p t3 := hG.upd nBp.symm
        have bG2 : But p H (L2.upd G3 B (.dK (mergeK [] [(.inr b', .ref T1), (.inr s', .ref T2), (.inr d', .ref T3)]))) := But.ofL hB0 bG
        refine k _ R [(b', "says", [(g', s'), (o', d')]), (s', "says", [(n', b'), (e', d')]), (d', "done", [])] b' t3 (bG2.newt hR) (bG2.fr hR (hG2.ne hR)) (book_end nBp.symm hRw (by simp [nbs, nbd, nbl, nsd, nsl, ndl, nld]) hR (hG2.ne hR)) ?_ (hG2.new hR) (by omega)
        refine ⟨by simp [nbs, nbd, nbl, nsd, nsl, ndl, nld], fun r hr => ?_, by simp, by simp⟩
        simp only [List.mem_cons, List.not_mem_nil, or_false] at hr
        rcases hr with rfl | rfl | rfl
        · exact ⟨wb, .inr ⟨.inl rfl, by simp, tok2 ngo gm om (by simp) (by simp)⟩⟩
        · exact ⟨wsc, .inr ⟨.inl rfl, by simp, tok2 nne nm em (by simp) (by simp)⟩⟩
        · exact ⟨wd', .inl ⟨rfl, rfl⟩⟩
      · skip
        refine fun B hB => ?_
        have nBp := hp4.ne hB
        have hB0 : H B = none := b04.fr hB nBp
        have k0 : ∀ c ∈ [p, B], ∃ u, (L2.upd H4 B (.dK [])) c = some u := fun c hc => by
          rcases List.mem_cons.mp hc with rfl | hc
          · exact (hp4.new hB).some
          · obtain rfl := List.mem_singleton.mp hc; exact ⟨_, upd_same⟩
        have s0 : Same (L2.upd H4 B (.dK [])) (L2.upd H4 B (.dK [])) := Same.refl _
        refine ⟨_, rfl, [(g', s'), (o', d')], (.cons ⟨rfl, rfl⟩ (.cons ⟨rfl, rfl⟩ .nil)), by simpa using ngo, fun G1 T1 E1 s1 nT1 nE1 h1 e1 => ?_⟩
        have R1 := RowAt.mk' k0 nT1 nE1 h1 e1
        have k1 : ∀ c ∈ [p, B], ∃ u, G1 c = some u := fun c hc => by obtain ⟨u, hu⟩ := k0 c hc; exact ⟨u, s1 _ _ hu⟩
        refine ⟨_, rfl, [(n', b'), (e', l')], (.cons ⟨rfl, rfl⟩ (.cons ⟨rfl, rfl⟩ .nil)), by simpa using nne, fun G2 T2 E2 s2 nT2 nE2 h2 e2 => ?_⟩
        have R2 := RowAt.mk' k1 nT2 nE2 h2 e2
        have k2 : ∀ c ∈ [p, B], ∃ u, G2 c = some u := fun c hc => by obtain ⟨u, hu⟩ := k1 c hc; exact ⟨u, s2 _ _ hu⟩
        refine ⟨_, rfl, [], .nil, by simp, fun G3 T3 E3 s3 nT3 nE3 h3 e3 => ?_⟩
        have R3 := RowAt.mk' k2 nT3 nE3 h3 e3
        have k3 : ∀ c ∈ [p, B], ∃ u, G3 c = some u := fun c hc => by obtain ⟨u, hu⟩ := k2 c hc; exact ⟨u, s3 _ _ hu⟩
        have hRw : Rows (cut [p, B] G3) [(.inr b', .ref T1), (.inr s', .ref T2), (.inr l', .ref T3)] [(b', "hears", [(g', s'), (o', d')]), (s', "says", [(n', b'), (e', l')]), (l', "done", [])] := (.cons ⟨rfl, ((R1).same (cut_same s2)).same (cut_same s3)⟩ (.cons ⟨rfl, (R2).same (cut_same s3)⟩ (.cons ⟨rfl, R3⟩ .nil)))
        have sT : Same (L2.upd H4 B (.dK [])) G3 := (Same.trans (Same.trans s1 s2) s3)
        have hG := (hp4.new (o := .dK []) hB).same sT
        have bG : But p H G3 := (b04.newt hB).trans (But.of sT)
        refine ⟨sT _ _ upd_same, [(.inr b', .ref T1), (.inr s', .ref T2), (.inr l', .ref T3)], rfl, by show 3 ≤ 15; decide, ?_⟩
        have mid : mergeK [] [(.inr b', .ref T1), (.inr s', .ref T2), (.inr l', .ref T3)] = [(.inr b', .ref T1), (.inr s', .ref T2), (.inr l', .ref T3)] := merge_id (inr_nd (l := [b', s', l']) (by simp [nbs, nbl, nsl]))
        have hG2 : Purse (L2.upd G3 B (.dK (mergeK [] [(.inr b', .ref T1), (.inr s', .ref T2), (.inr l', .ref T3)]))) p t3 := hG.upd nBp.symm
        have bG2 : But p H (L2.upd G3 B (.dK (mergeK [] [(.inr b', .ref T1), (.inr s', .ref T2), (.inr l', .ref T3)]))) := But.ofL hB0 bG
        have hRw5 : Rows (cut [p, B] (L2.upd G3 B (.dK (mergeK [] [(.inr b', .ref T1), (.inr s', .ref T2), (.inr l', .ref T3)])))) [(.inr b', .ref T1), (.inr s', .ref T2), (.inr l', .ref T3)] [(b', "hears", [(g', s'), (o', d')]), (s', "says", [(n', b'), (e', l')]), (l', "done", [])] := by rw [cut_upd (by simp)]; exact hRw
        have k4 : ∀ c ∈ [p, B], ∃ u, (L2.upd G3 B (.dK (mergeK [] [(.inr b', .ref T1), (.inr s', .ref T2), (.inr l', .ref T3)]))) c = some u := fun c hc => by
          rcases List.mem_cons.mp hc with rfl | hc
          · exact hG2.some
          · obtain rfl := List.mem_singleton.mp hc; exact ⟨_, upd_same⟩
        refine ⟨_, rfl, rfl, _, rfl, ?_⟩
        refine ite2 (fun _ => ?_) (fun _ => ?_)
        ·   refine ⟨[(n', b'), (e', l')], (.cons ⟨rfl, rfl⟩ (.cons ⟨rfl, rfl⟩ .nil)), by simpa using nne, fun G4 T4 E4 s4 nT4 nE4 h4 e4 => ?_⟩
            have R4 := RowAt.mk' k4 nT4 nE4 h4 e4
            have hB4 : G4 B = some (.dK [(.inr b', .ref T1), (.inr s', .ref T2), (.inr l', .ref T3)]) := s4 _ _ (by rw [upd_same, mid])
            have hRw4 : Rows (cut [p, B] G4) [(.inr b', .ref T1), (.inr s', .ref T2), (.inr l', .ref T3)] [(b', "hears", [(g', s'), (o', d')]), (s', "says", [(n', b'), (e', l')]), (l', "done", [])] := (hRw5.same (cut_same s4))
            refine ⟨_, rfl, _, rfl, B, _, rfl, DPut.k (k := Sum.inr d') hB4 (by rw [sizeLine_eq]; show 3 < _; decide), ?_⟩
            have hRw6 := hRw4.app (s := d') R4
            have ep : putK ([(.inr b', .ref T1), (.inr s', .ref T2), (.inr l', .ref T3)] : List (Key × V)) (.inr d') (.ref T4) = ([(.inr b', .ref T1), (.inr s', .ref T2), (.inr l', .ref T3)] : List (Key × V)) ++ ([(.inr d', .ref T4)] : List (Key × V)) := putK_new (hRw4.fresh (by simp [Ne.symm nbd, Ne.symm nsd, ndl]))
            rw [ep]
            have hG4 := hG2.same s4
            have bG4 := bG2.trans (But.of s4)
            refine ⟨_, rfl, _, rfl, by show 2 ≤ sizeLine; decide, fun R hR => ?_⟩
            have hG5 : Purse (L2.upd G4 B (.dK (([(.inr b', .ref T1), (.inr s', .ref T2), (.inr l', .ref T3)] : List (Key × V)) ++ ([(.inr d', .ref T4)] : List (Key × V))))) p t3 := hG4.upd nBp.symm
            have bG5 : But p H (L2.upd G4 B (.dK (([(.inr b', .ref T1), (.inr s', .ref T2), (.inr l', .ref T3)] : List (Key × V)) ++ ([(.inr d', .ref T4)] : List (Key × V))))) := But.ofL hB0 bG4
            have nRp := hG5.ne hR
            have nBR : B ≠ R := fun e => by rw [← e, upd_same] at hR; cases hR
            refine k _ R [(b', "hears", [(g', s'), (o', d')]), (s', "says", [(n', b'), (e', l')]), (l', "done", []), (d', "says", [(n', b'), (e', l')])] b' t3 (bG5.newt hR) (bG5.fr hR nRp) ⟨B, by rw [cut_out (by simpa using nRp)]; exact upd_same, _, by rw [cut_out (by simpa using nBp), upd_ne nBR, upd_same], hRw6.same fun c u e => ?_⟩ ?_ (hG5.new hR) (by omega)
            · obtain ⟨nc, e⟩ := cut_some e
              simp only [List.mem_cons, List.not_mem_nil, or_false, not_or] at nc
              have ncR : c ≠ R := fun z => by rw [z] at e nc; rw [upd_ne nc.2] at hR; rw [hR] at e; cases e
              rw [cut_out (by simpa using nc.1), upd_ne ncR, upd_ne nc.2]; exact e
            · refine ⟨by simp [nbs, nbd, nbl, nsd, nsl, ndl, nld], fun r hr => ?_, by simp, by simp⟩
              simp only [List.mem_cons, List.not_mem_nil, or_false] at hr
              rcases hr with rfl | rfl | rfl | rfl
              · exact ⟨wb, .inr ⟨.inr rfl, by simp, tok2 ngo gm om (by simp) (by simp)⟩⟩
              · exact ⟨wsc, .inr ⟨.inl rfl, by simp, tok2 nne nm em (by simp) (by simp)⟩⟩
              · exact ⟨wl, .inl ⟨rfl, rfl⟩⟩
              · exact ⟨wd', .inr ⟨.inl rfl, by simp, tok2 nne nm em (by simp) (by simp)⟩⟩
        ·   refine ⟨[(n', d')], (.cons ⟨rfl, rfl⟩ .nil), by simp, fun G4 T4 E4 s4 nT4 nE4 h4 e4 => ?_⟩
            have R4 := RowAt.mk' k4 nT4 nE4 h4 e4
            have hB4 : G4 B = some (.dK [(.inr b', .ref T1), (.inr s', .ref T2), (.inr l', .ref T3)]) := s4 _ _ (by rw [upd_same, mid])
            have hRw4 : Rows (cut [p, B] G4) [(.inr b', .ref T1), (.inr s', .ref T2), (.inr l', .ref T3)] [(b', "hears", [(g', s'), (o', d')]), (s', "says", [(n', b'), (e', l')]), (l', "done", [])] := (hRw5.same (cut_same s4))
            refine ⟨_, rfl, _, rfl, B, _, rfl, DPut.k (k := Sum.inr d') hB4 (by rw [sizeLine_eq]; show 3 < _; decide), ?_⟩
            have hRw6 := hRw4.app (s := d') R4
            have ep : putK ([(.inr b', .ref T1), (.inr s', .ref T2), (.inr l', .ref T3)] : List (Key × V)) (.inr d') (.ref T4) = ([(.inr b', .ref T1), (.inr s', .ref T2), (.inr l', .ref T3)] : List (Key × V)) ++ ([(.inr d', .ref T4)] : List (Key × V)) := putK_new (hRw4.fresh (by simp [Ne.symm nbd, Ne.symm nsd, ndl]))
            rw [ep]
            have hG4 := hG2.same s4
            have bG4 := bG2.trans (But.of s4)
            refine ⟨_, rfl, _, rfl, by show 2 ≤ sizeLine; decide, fun R hR => ?_⟩
            have hG5 : Purse (L2.upd G4 B (.dK (([(.inr b', .ref T1), (.inr s', .ref T2), (.inr l', .ref T3)] : List (Key × V)) ++ ([(.inr d', .ref T4)] : List (Key × V))))) p t3 := hG4.upd nBp.symm
            have bG5 : But p H (L2.upd G4 B (.dK (([(.inr b', .ref T1), (.inr s', .ref T2), (.inr l', .ref T3)] : List (Key × V)) ++ ([(.inr d', .ref T4)] : List (Key × V))))) := But.ofL hB0 bG4
            have nRp := hG5.ne hR
            have nBR : B ≠ R := fun e => by rw [← e, upd_same] at hR; cases hR
            refine k _ R [(b', "hears", [(g', s'), (o', d')]), (s', "says", [(n', b'), (e', l')]), (l', "done", []), (d', "says", [(n', d')])] b' t3 (bG5.newt hR) (bG5.fr hR nRp) ⟨B, by rw [cut_out (by simpa using nRp)]; exact upd_same, _, by rw [cut_out (by simpa using nBp), upd_ne nBR, upd_same], hRw6.same fun c u e => ?_⟩ ?_ (hG5.new hR) (by omega)
            · obtain ⟨nc, e⟩ := cut_some e
              simp only [List.mem_cons, List.not_mem_nil, or_false, not_or] at nc
              have ncR : c ≠ R := fun z => by rw [z] at e nc; rw [upd_ne nc.2] at hR; rw [hR] at e; cases e
              rw [cut_out (by simpa using nc.1), upd_ne ncR, upd_ne nc.2]; exact e
            · refine ⟨by simp [nbs, nbd, nbl, nsd, nsl, ndl, nld], fun r hr => ?_, by simp, by simp⟩
              simp only [List.mem_cons, List.not_mem_nil, or_false] at hr
              rcases hr with rfl | rfl | rfl | rfl
              · exact ⟨wb, .inr ⟨.inr rfl, by simp, tok2 ngo gm om (by simp) (by simp)⟩⟩
              · exact ⟨wsc, .inr ⟨.inl rfl, by simp, tok2 nne nm em (by simp) (by simp)⟩⟩
              · exact ⟨wl, .inl ⟨rfl, rfl⟩⟩
              · exact ⟨wd', .inr ⟨.inl rfl, by simp, tok1 nm (by simp)⟩⟩
end
end D1
end L2
namespace L2
namespace D1
open PySem PySem.Spec PyProof.Rows
end D1
end L2
namespace L2
namespace D1
open PySem PySem.Spec PyProof.Rows
abbrev sRowOf : Stmt := top 52
/-- a list of a world and its words -/
def RichAt (H : Hp) (R : Addr) (bk : Bk) (st : Str) (ws : List Str) : Prop := ∃ W L, H R = some (.lst [.ref W, .ref L]) ∧ WorldAt H W bk st ∧ SL H L ws
theorem RichAt.same {H H' : Hp} {R : Addr} {bk : Bk} {st : Str} {ws : List Str} (h : RichAt H R bk st ws) (s : Same H H') : RichAt H' R bk st ws := by
  obtain ⟨W, L, h1, h2, h3⟩ := h; exact ⟨W, L, s _ _ h1, h2.same s, h3.same s⟩
def spRow (c d : Int) : Sp := fun vs H Q _ => ∃ (p : Addr) (top' t : Int), vs = [.ref p, .int top'] ∧ Purse H p t ∧ 3 ≤ top' ∧ top' ≤ 6 ∧ t < c ∧
  ∀ (H' : Hp) (R : Addr) (bk : Bk) (st : Str) (ws : List Str) (t' : Int), But p H H' → RichAt (cut [p] H') R bk st ws → WF bk st ws → WsOk ws → Purse H' p t' → t' ≤ t + d → Q (.ref R) H'
theorem rich_new {p R W L : Addr} {H : Hp} {bk : Bk} {st : Str} {ws : List Str} (hR : H R = none) (nR : R ≠ p) (hW : WorldAt (cut [p] H) W bk st) (hL : SL H L ws) (nL : L ≠ p) : RichAt (cut [p] (L2.upd H R (.lst [.ref W, .ref L]))) R bk st ws :=
  ⟨W, L, by rw [cut_out (by simpa using nR)]; exact upd_same, hW.same (cut_new hR), by rw [SL, cut_out (by simpa using nL)]; exact hL.new hR⟩
theorem ws_take {ws : List Str} (l : ws.length = 6) (nd : ws.Nodup) (aw : ∀ x ∈ ws, Wd x) {k : Nat} (h : 1 ≤ k) : WsOk (ws.take k) :=
  ⟨by rw [List.length_take]; omega, by rw [List.length_take]; omega, List.Nodup.sublist (List.take_sublist _ _) nd, fun x hx => aw x (List.mem_of_mem_take hx)⟩
section
variable {P : Program} {w : World} {K : PySem.W.Frag} {mg : Str → Option Value} {base : Heap}
abbrev CPool (P : Program) (w : World) (K : PySem.W.Frag) (mg : Str → Option Value) (base : Heap) := Cal P w K mg base "_law_pool" 5 ["_law_purse_here"] spPool
abbrev CWorld (P : Program) (w : World) (K : PySem.W.Frag) (mg : Str → Option Value) (base : Heap) := Cal P w K mg base "_law_world" 5 ["_law_purse_here", "_law_many", "_law_words_here", "_law_top"] spWorld
abbrev CShape (P : Program) (w : World) (K : PySem.W.Frag) (mg : Str → Option Value) (base : Heap) := Cal P w K mg base "_law_shape" 5 ["_law_purse_here", "_law_words_here"] spShape
abbrev CRow (P : Program) (w : World) (K : PySem.W.Frag) (mg : Str → Option Value) (base : Heap) := Cal P w K mg base "_law_row_of" 6 ["_law_purse_here", "_law_top"] (spRow (2 ^ 25) 1800)
theorem scRo : FnScope ["_law_purse_here", "_law_top", "_law_pool_here", "_law_words_here"] ["_law_purse_here", "_law_top"] (defScope sRowOf) := ⟨rfl, rfl, rfl, by decide +kernel, rfl, by decide +kernel, by decide +kernel⟩
theorem ok_row {f : Addr} {fd : FuncData} (F : Fun K "_law_row_of" "_law_row_of" sRowOf f fd) (T : Free2 mg) (CD : CDraw P w K mg base) (CP : CPool P w K mg base) (CW : CWorld P w K mg base) (CS : CShape P w K mg base) :
    FnOk P w K mg base CX0 6 f fd ["_law_purse_here", "_law_top"] (spRow (2 ^ 25) 1800) := by
  refine F.ok scRo (fun vs H Q E h => ?_) (fun cdv A outer s H vs Q E hr h => ?_)
  · obtain ⟨p, m, t, rfl, _⟩ := h; rfl
  · obtain ⟨p, top', t, rfl, hp, m3, m6, t1, k⟩ := h
    refine ⟨_, pss_cons (ps_set (i := 2) scRo.nd rfl (Or.inl rfl) (pe_cal CP (hr.mono (by decide)) rfl (pa_cons (pv 0) pa_nil)))
      (pss_cons (ps_if (pt_cmpR op_eq (pe_cal CD (hr.mono (by decide)) rfl (pa_cons (pv 0) (pa_cons pe_int pa_nil))) pe_int (nomark _))
        (pss_one (ps_ret (pe_lst (pa_cons (pe_cal CW (hr.mono (by decide)) rfl (pa_cons (pv 0) (pa_cons (pe_op op_add pe_int (pe_cal CD (hr.mono (by decide)) rfl (pa_cons (pv 0) (pa_cons (pv 1) pa_nil)))) (pa_cons (pe_slice sl_list (pv 2) po_none (po_some pe_int)) (pa_cons pe_int pa_nil))))) (pa_cons (pe_slice sl_list (pv 2) po_none (po_some pe_int)) pa_nil))))) pss_nil)
      (pss_cons (ps_set (i := 3) scRo.nd rfl (Or.inl rfl) (pe_slice sl_list (pv 2) po_none (po_some (pe_op op_add pe_int (pe_cal CD (hr.mono (by decide)) rfl (pa_cons (pv 0) (pa_cons (pe_callB (call_min2 rfl) (by rfl) T.min (by decide +kernel) (pa_cons pe_int (pa_cons (pe_callB call_len_seq (by rfl) T.len PySem.boot_len (pa_cons (pv 2) pa_nil)) pa_nil))) pa_nil)))))))
      (pss_cons (ps_if (PW.pt (pw_and (pt_cmpR op_gt (pe_callB call_len_seq (by rfl) T.len PySem.boot_len (pa_cons (pv 3) pa_nil)) pe_int (nomark _)) (pw_and1 (pt_cmpR op_eq (pe_cal CD (hr.mono (by decide)) rfl (pa_cons (pv 0) (pa_cons pe_int pa_nil))) pe_int (nomark _)))))
        (pss_one (ps_ret (pe_lst (pa_cons (pe_cal CS (hr.mono (by decide)) rfl (pa_cons (pv 0) (pa_cons (pv 3) pa_nil))) (pa_cons (pv 3) pa_nil))))) pss_nil)
      (pss_one (ps_ret (pe_lst (pa_cons (pe_cal CW (hr.mono (by decide)) rfl (pa_cons (pv 0) (pa_cons (pe_op op_add pe_int (pe_cal CD (hr.mono (by decide)) rfl (pa_cons (pv 0) (pa_cons (pv 1) pa_nil)))) (pa_cons (pv 3) (pa_cons pe_int pa_nil))))) (pa_cons (pv 3) pa_nil)))))))), ?_⟩
    refine ⟨_, rfl, p, t, rfl, hp, by omega, fun H1 L ps t1 b1 hL hLL lp nd aw hp1 tt1 => ?_⟩
    have nL := hp.ne hL
    refine ⟨_, rfl, p, 8, t1, rfl, hp1, by decide, by decide, by omega, fun r t2 o r0 r1 tt2 hp2 => ?_⟩
    have b2 := b1.trans (But.upd p H1 o)
    have hL2 : SL (L2.upd H1 p o) L ps := by rw [SL, upd_ne nL]; exact hLL
    generalize L2.upd H1 p o = H2 at b2 hL2 hp2
    refine ⟨rfl, _, rfl, ?_⟩
    refine ite2 (fun _ => ?_) (fun _ => ?_)
    · refine ⟨_, rfl, _, rfl, _, rfl, p, top', t2, rfl, hp2, by omega, by omega, by omega, fun r3 t3 o3 r30 r31 tt3 hp3 => ?_⟩
      have b3 := b2.trans (But.upd p H2 o3)
      have hL3 : SL (L2.upd H2 p o3) L ps := by rw [SL, upd_ne nL]; exact hL2
      generalize L2.upd H2 p o3 = H3 at b3 hL3 hp3
      refine ⟨_, _, rfl, rfl, _, rfl, _, rfl, L, _, rfl, hL3.sq, fun q hq => ?_⟩
      rw [cutV_map, cutL_to _ (by decide)]
      have wok := ws_take lp nd aw (k := (6 : Int).toNat) (by decide)
      refine ⟨p, q, ps.take (6 : Int).toNat, 1 + r3, 6, t3, rfl, hp3.new hq, upd_same, hp3.ne hq, wok, by omega, by omega, by decide, by decide, by omega, fun H4 W bk st t4 b4 hW0 hW wf hp4 tt4 => ?_⟩
      have hL4 : SL H4 L ps := b4 _ _ nL (hL3.new hq)
      have b04 := (b3.newt hq).trans b4
      refine ⟨_, rfl, _, rfl, L, _, rfl, hL4.sq, fun q2 hq2 => ?_⟩
      rw [cutV_map, cutL_to _ (by decide)]
      refine ⟨by show 2 ≤ sizeLine; decide, fun R hR => ?_⟩
      exact k _ R bk st _ t4 ((b04.newt hq2).newt hR) (rich_new hR ((hp4.new hq2).ne hR) (hW.same (cut_new hq2)) upd_same (hp4.ne hq2)) wf wok ((hp4.new hq2).new hR) (by omega)
    · refine ⟨_, rfl, _, rfl, _, rfl, L, _, rfl, .inl hL2.sq, 5, _, rfl, ?_⟩
      rw [List.length_map, lp]
      refine ⟨p, 5, t2, rfl, hp2, by decide, by decide, by omega, fun r3 t3 o3 r30 r31 tt3 hp3 => ?_⟩
      have b3 := b2.trans (But.upd p H2 o3)
      have hL3 : SL (L2.upd H2 p o3) L ps := by rw [SL, upd_ne nL]; exact hL2
      generalize L2.upd H2 p o3 = H3 at b3 hL3 hp3
      refine ⟨_, _, rfl, rfl, _, rfl, L, _, rfl, hL3.sq, fun q hq => ?_⟩
      rw [cutV_map, cutL_to _ (by omega)]
      have wok := ws_take lp nd aw (k := (1 + r3).toNat) (by omega)
      generalize ps.take (1 + r3).toNat = ws at wok
      have hq3 : SL (L2.upd H3 q (.lst (ws.map V.str))) q ws := upd_same
      have hp4 := hp3.new (o := .lst (ws.map V.str)) hq
      have b4 := b3.newt (o := .lst (ws.map V.str)) hq
      have nq := hp3.ne hq
      generalize L2.upd H3 q (.lst (ws.map V.str)) = H4 at hq3 hp4 b4
      refine ⟨_, rfl, q, _, rfl, .inl hq3.sq, _, _, rfl, rfl, _, rfl, ?_⟩
      rw [List.length_map]
      refine ite2 (fun c => ?_) (fun c => ?_)
      · refine ⟨_, rfl, p, 3, t3, rfl, hp4, by decide, by decide, by omega, fun r5 t5 o5 r50 r51 tt5 hp5 => ?_⟩
        have b5 := b4.trans (But.upd p H4 o5)
        have hq5 : SL (L2.upd H4 p o5) q ws := by rw [SL, upd_ne nq]; exact hq3
        generalize L2.upd H4 p o5 = H5 at b5 hq5 hp5
        refine ⟨rfl, _, rfl, ?_⟩
        refine ite2 (fun c2 => ?_) (fun c2 => ?_)
        · have c' := of_decide_eq_true c
          refine ⟨_, rfl, _, rfl, p, q, ws, t5, rfl, hp5, hq5, nq, wok, by omega, by omega, fun H6 W bk st t6 b6 hW0 hW wf hp6 tt6 => ?_⟩
          have hq6 : SL H6 q ws := b6 _ _ nq hq5
          refine ⟨_, rfl, by show 2 ≤ sizeLine; decide, fun R hR => ?_⟩
          exact k _ R bk st _ t6 ((b5.trans b6).newt hR) (rich_new hR (hp6.ne hR) hW hq6 nq) wf wok (hp6.new hR) (by omega)
        · refine ⟨_, rfl, _, rfl, _, rfl, p, top', t5, rfl, hp5, by omega, by omega, by omega, fun r7 t7 o7 r70 r71 tt7 hp7 => ?_⟩
          have b7 := b5.trans (But.upd p H5 o7)
          have hq7 : SL (L2.upd H5 p o7) q ws := by rw [SL, upd_ne nq]; exact hq5
          generalize L2.upd H5 p o7 = H7 at b7 hq7 hp7
          refine ⟨_, _, rfl, rfl, _, rfl, p, q, ws, 1 + r7, 3, t7, rfl, hp7, hq7, nq, wok, by omega, by omega, by decide, by decide, by omega, fun H8 W bk st t8 b8 hW0 hW wf hp8 tt8 => ?_⟩
          have hq8 : SL H8 q ws := b8 _ _ nq hq7
          refine ⟨_, rfl, by show 2 ≤ sizeLine; decide, fun R hR => ?_⟩
          exact k _ R bk st _ t8 ((b7.trans b8).newt hR) (rich_new hR (hp8.ne hR) hW hq8 nq) wf wok (hp8.new hR) (by omega)
      · refine ⟨_, rfl, _, rfl, _, rfl, p, top', t3, rfl, hp4, by omega, by omega, by omega, fun r7 t7 o7 r70 r71 tt7 hp7 => ?_⟩
        have b7 := b4.trans (But.upd p H4 o7)
        have hq7 : SL (L2.upd H4 p o7) q ws := by rw [SL, upd_ne nq]; exact hq3
        generalize L2.upd H4 p o7 = H7 at b7 hq7 hp7
        refine ⟨_, _, rfl, rfl, _, rfl, p, q, ws, 1 + r7, 3, t7, rfl, hp7, hq7, nq, wok, by omega, by omega, by decide, by decide, by omega, fun H8 W bk st t8 b8 hW0 hW wf hp8 tt8 => ?_⟩
        have hq8 : SL H8 q ws := b8 _ _ nq hq7
        refine ⟨_, rfl, by show 2 ≤ sizeLine; decide, fun R hR => ?_⟩
        exact k _ R bk st _ t8 ((b7.trans b8).newt hR) (rich_new hR (hp8.ne hR) hW hq8 nq) wf wok (hp8.new hR) (by omega)
end
end D1
end L2
namespace L2
namespace D1
open PySem PySem.Spec PyProof.Rows
abbrev sIsName : Stmt := top 3
abbrev sIsRow : Stmt := top 4
abbrev sIsState : Stmt := top 5
/-- the names of built-in classes, and the two numbers of forms -/
structure Free3 (mg : Str → Option Value) : Prop extends Free2 mg where
  lets : ∃ t, mg "LETTERS" = some (.str abc t)
  most : ∃ t, mg "MOST_LETTERS" = some (.int 8 t)
def spIsName : Sp := fun vs H Q _ => ∃ x : Str, vs = [.str x] ∧ Wd x ∧ ∀ H', Same H H' → Q (.bl true) H'
def spIsState : Sp := fun vs H Q _ => ∃ (b : Addr) (kvs : List (Key × V)) (x : Str), vs = [.ref b, .str x] ∧ Rd H b (.dK kvs) ∧ (valV kvs (.inr x)).isSome = true ∧ Q (.bl true) H
/-- a row by its form -/
def RForm (k : Str) (ts : List (Str × Str)) : Prop := (k = "done" ∧ ts = []) ∨ ((k = "says" ∨ k = "hears") ∧ ts ≠ [] ∧ ts.length ≤ 1000 ∧ ∀ t ∈ ts, Wd t.1 ∧ Wd t.2)
def spIsRow : Sp := fun vs H Q _ => ∃ (v : V) (k : Str) (ts : List (Str × Str)), vs = [v] ∧ RowAt H v k ts ∧ RForm k ts ∧ ∀ H', Same H H' → Q (.bl true) H'
theorem Same.unlock {H H' : Hp} {b : Addr} {u f : HO} (e : H b = some u) (s : Same (L2.upd H b f) H') : Same H (L2.upd H' b u) := fun c o ec => by
  by_cases h : c = b
  · rw [h] at ec ⊢; rw [upd_same, ← ec, e]
  · rw [upd_ne h]; exact s _ _ (by rw [upd_ne h]; exact ec)
theorem all_true (n : Nat) : (List.replicate n true).all id = true := by
  induction n with
  | zero => rfl
  | succ n ih => rw [List.replicate_succ, List.all_cons, ih]; rfl
theorem repl_snoc (n : Nat) : (List.replicate n true).map V.bl ++ [V.bl true] = (List.replicate (n + 1) true).map V.bl := by
  rw [List.replicate_succ', List.map_append]; rfl
section
variable {P : Program} {w : World} {K : PySem.W.Frag} {mg : Str → Option Value} {base : Heap}
abbrev CIsName (P : Program) (w : World) (K : PySem.W.Frag) (mg : Str → Option Value) (base : Heap) := Cal P w K mg base "is_name" 1 ["value"] spIsName
theorem scIn : FnScope ["value", "letter"] ["value"] (defScope sIsName) := ⟨rfl, rfl, rfl, by decide +kernel, rfl, by decide +kernel, by decide +kernel⟩
theorem ok_isname {f : Addr} {fd : FuncData} (F : Fun K "is_name" "is_name" sIsName f fd) (T : Free3 mg) : FnOk P w K mg base CX0 1 f fd ["value"] spIsName := by
  obtain ⟨tL, eL⟩ := T.lets
  obtain ⟨tM, eM⟩ := T.most
  refine F.ok scIn (fun vs H Q E h => ?_) (fun cdv A outer s H vs Q E hr h => ?_)
  · obtain ⟨x, rfl, _⟩ := h; rfl
  · obtain ⟨x, rfl, wx, k⟩ := h
    refine ⟨_, pss_cons (ps_if (PW.pt (pw_or (pt_not (pt_val (pe_callB call_isi (by rfl) T.isi (by decide +kernel) (pa_cons (pv 0) (pa_cons (pe_bltn (v := .ty "str") rfl T.str (by decide +kernel) rfl) pa_nil))))) (pw_or1 (pt_not (pt_chain op_le op_le pe_int (pe_callB call_len_str (by rfl) T.len PySem.boot_len (pa_cons (pv 0) pa_nil)) (pe_glob (v := .int 8) rfl eM ⟨_, rfl⟩)))))) (pss_one (ps_ret pe_bl)) pss_nil)
      (pss_one (ps_ret (pe_callB (cr_all rfl) (by rfl) T.all (by decide +kernel) (pa_cons (pe_lc (own := [("letter", 1)]) (g := gName 1) (tt := tYes) rfl scIn.nd (pi_str (pv 0))
        (blkOk_by (N := ["value", "letter"]) (sc := defScope sIsName) (by decide +kernel)) (fun _ _ _ _ _ => pg_name (i := 1) scIn.nd rfl (Or.inl rfl)) (fun _ _ _ _ _ => pts_nil)
        (fun _ _ _ _ _ => pe_cmpR op_in_sign (pv 1) (pe_glob (v := .str abc) rfl eL ⟨_, rfl⟩) rfl)) pa_nil)))), ?_⟩
    have l1 := wx.lo
    have l2 := wx.hi
    refine ⟨_, rfl, _, .ty "str", .type "str", .type "str", true, rfl, .ty _, .base (.str _), kit_ty (by decide +kernel), _, rfl, ?_⟩
    refine iteF ?_
    refine ⟨_, rfl, x, rfl, by rw [sizeLine_eq]; omega, _, _, rfl, rfl, _, rfl, ?_⟩
    rw [decide_eq_true (show (1 : Int) ≤ x.length by omega)]
    refine iteT ⟨_, _, rfl, rfl, _, rfl, ?_⟩
    rw [decide_eq_true (show (x.length : Int) ≤ 8 by omega)]
    refine iteF ?_
    refine ⟨_, rfl, x, rfl, fun D hD => ?_⟩
    refine lc_it (walk_str (z := x)) (fun i H' => Same H H' ∧ H' D = some (.lst ((List.replicate i true).map V.bl))) ⟨Same.new hD, upd_same⟩ (fun _ _ _ _ => trivial) ?_ ?_
    · rintro i v H1 H2 hi ⟨sm, hl⟩ ⟨rfl, c, hc, rfl⟩
      refine ⟨rfl, ?_⟩
      dsimp only [tYes]
      rw [if_pos rfl]
      have hm : c ∈ tl x := by
        rw [tl, ← Array.getElem?_toList] at *
        exact List.mem_of_getElem? hc
      have hr' := wx.ok c hm
      have ha : ∀ c, 97 ≤ c → c ≤ 122 → c ∈ abc.cps.toList := by
        have h : ∀ j : Fin 26, (97 + j.val) ∈ abc.cps.toList := by decide +kernel
        intro c h1 h2
        have := h ⟨c - 97, by omega⟩
        rwa [show 97 + (c - 97) = c by omega] at this
      refine ⟨_, rfl, c, abc, rfl, rfl, _, hl, by rw [List.length_map, List.length_replicate, sizeLine_eq]; have : x.cps.size = x.length := rfl; omega, ?_, ?_⟩
      · intro b u e
        rw [upd_ne (ne_of_none e hD)]; exact sm _ _ e
      · rw [upd_same, decide_eq_true (ha c hr'.1 hr'.2), repl_snoc]
    · rintro H1 ⟨sm, hl⟩
      refine ⟨D, _, rfl, SqL.of hl, ?_⟩
      rw [all_true]
      exact k H1 sm
theorem scIst : FnScope ["book", "value"] ["book", "value"] (defScope sIsState) := ⟨rfl, rfl, rfl, by decide +kernel, rfl, by decide +kernel, by decide +kernel⟩
theorem ok_isstate {f : Addr} {fd : FuncData} (F : Fun K "is_state_of" "is_state_of" sIsState f fd) (T : Free3 mg) : FnOk P w K mg base CX0 1 f fd ["book", "value"] spIsState := by
  refine F.ok scIst (fun vs H Q E h => ?_) (fun cdv A outer s H vs Q E hr h => ?_)
  · obtain ⟨b, kvs, x, rfl, _⟩ := h; rfl
  · obtain ⟨b, kvs, x, rfl, hb, hx, k⟩ := h
    have hu := hu_of hr
    refine ⟨_, pss_one (ps_ret (pe_and (pe_callB call_isi (by rfl) T.isi (by decide +kernel) (pa_cons (pv 1) (pa_cons (pe_bltn (v := .ty "str") rfl T.str (by decide +kernel) rfl) pa_nil))) (pe_one (pe_cmp (pc_din hu (pv 1) (pv 0)) rfl)))), ?_⟩
    refine ⟨_, rfl, _, .ty "str", .type "str", .type "str", true, rfl, .ty _, .base (.str _), kit_ty (by decide +kernel), _, rfl, ?_⟩
    refine iteT ⟨_, rfl, _, rfl, b, _, rfl, .inl ⟨kvs, .inr x, hb, rfl, rfl⟩, ?_⟩
    rw [hx]
    exact k
abbrev CIsRow (P : Program) (w : World) (K : PySem.W.Frag) (mg : Str → Option Value) (base : Heap) := Cal P w K mg base "is_row" 2 ["value"] spIsRow
theorem scIr : FnScope ["value", "kind", "turns", "word", "goal"] ["value"] (defScope sIsRow) := ⟨rfl, rfl, rfl, by decide +kernel, rfl, by decide +kernel, by decide +kernel⟩
theorem ok_isrow {f : Addr} {fd : FuncData} (F : Fun K "is_row" "is_row" sIsRow f fd) (T : Free3 mg) (CN : CIsName P w K mg base) : FnOk P w K mg base CX0 2 f fd ["value"] spIsRow := by
  refine F.ok scIr (fun vs H Q E h => ?_) (fun cdv A outer s H vs Q E hr h => ?_)
  · obtain ⟨v, k, ts, rfl, _⟩ := h; rfl
  · obtain ⟨v, kd, ts, rfl, ⟨t, a, rfl, ht, ha⟩, rf, k⟩ := h
    have hu := hu_of hr
    refine ⟨_, pss_cons (ps_if (PW.pt (pw_or (pt_not (pt_val (pe_callB call_isi (by rfl) T.isi (by decide +kernel) (pa_cons (pv 0) (pa_cons (pe_bltn (v := .ty "tuple") rfl T.tuple (by decide +kernel) rfl) pa_nil))))) (pw_or1 (pt_cmpR op_ne (pe_callB call_len_seq (by rfl) T.len PySem.boot_len (pa_cons (pv 0) pa_nil)) pe_int (nomark _))))) (pss_one (ps_ret pe_bl)) pss_nil)
      (pss_cons (ps_asg (pv 0) (pg_tup rfl (pgs_cons (pg_name (i := 1) scIr.nd rfl (Or.inl rfl)) (pgs_cons (pg_name (i := 2) scIr.nd rfl (Or.inl rfl)) pgs_nil))))
      (pss_cons (ps_if (pt_not (pt_val (pe_callB call_isi (by rfl) T.isi (by decide +kernel) (pa_cons (pv 2) (pa_cons (pe_bltn (v := .ty "dict") rfl T.dict (by decide +kernel) rfl) pa_nil))))) (pss_one (ps_ret pe_bl)) pss_nil)
      (pss_cons (ps_if (pt_cmpR op_eq (pv 1) pe_str (nomark _)) (pss_one (ps_ret (pe_cmpR op_eq (pe_callB call_lenD (by rfl) T.len PySem.boot_len (pa_cons (pv 2) pa_nil)) pe_int (nomark _)))) pss_nil)
      (pss_cons (ps_if (PW.pt (pw_and (pt_cmpR op_ne (pv 1) pe_str (nomark _)) (pw_and1 (pt_cmpR op_ne (pv 1) pe_str (nomark _))))) (pss_one (ps_ret pe_bl)) pss_nil)
      (pss_one (ps_ret (pe_and (pe_cmpR op_gt (pe_callB call_lenD (by rfl) T.len PySem.boot_len (pa_cons (pv 2) pa_nil)) pe_int (nomark _)) (pe_one (pe_callB (cr_all rfl) (by rfl) T.all (by decide +kernel) (pa_cons (pe_lock (pe_lc (own := [("word", 3), ("goal", 4)]) (g := gTup K 2 (gCons (gName 3) (gCons (gName 4) gNil))) (tt := tYes) rfl scIr.nd (pi_items (pv 2))
        (blkOk_by (N := ["value", "kind", "turns", "word", "goal"]) (sc := defScope sIsRow) (by decide +kernel)) (fun _ _ _ _ _ => pg_tup rfl (pgs_cons (pg_name (i := 3) scIr.nd rfl (Or.inl rfl)) (pgs_cons (pg_name (i := 4) scIr.nd rfl (Or.inl rfl)) pgs_nil))) (fun _ _ _ _ _ => pts_nil)
        (fun _ _ _ _ _ => pe_and (pe_cal CN (hr.mono (by decide)) rfl (pa_cons (pv 3) pa_nil)) (pe_one (pe_cal CN (hr.mono (by decide)) rfl (pa_cons (pv 4) pa_nil)))))) pa_nil)))))))))), ?_⟩
    refine ⟨_, rfl, _, .ty "tuple", .type "tuple", .type "tuple", true, rfl, .ty _, .base (.tup ht), kit_ty (by decide +kernel), _, rfl, ?_⟩
    refine iteF ⟨_, rfl, t, _, rfl, .inr (SqT.of ht), ?_⟩
    refine ⟨rfl, _, rfl, ?_⟩
    refine iteF ⟨_, rfl, t, _, rfl, SqT.of ht, rfl, _, _, rfl, _, _, rfl, rfl, ?_⟩
    refine ⟨_, rfl, _, .ty "dict", .type "dict", .type "dict", true, rfl, .ty _, .base (.dK ha), kit_ty (by decide +kernel), _, rfl, ?_⟩
    refine iteF ⟨_, rfl, rfl, _, rfl, ?_⟩
    rcases rf with ⟨rfl, rfl⟩ | ⟨hk, ne, ll, aw⟩
    · refine iteT ⟨_, rfl, a, [], rfl, ha, rfl, ?_⟩
      exact k H (Same.refl H)
    · have nk : (decide (V.str kd = V.str "done")) = false := by
        refine decide_eq_false fun e => ?_
        have e : kd = "done" := by injection e
        rcases hk with h | h <;> rw [h] at e <;> exact absurd e (by decide)
      rw [nk]
      refine iteF ⟨_, rfl, rfl, _, rfl, ?_⟩
      have bad : (!decide (V.str kd = V.str "says")) = true → (!decide (V.str kd = V.str "hears")) = true → False := fun c1 c2 => by
        rcases hk with h | h
        · rw [h] at c1; simp at c1
        · rw [h] at c2; simp at c2
      refine ite2 (fun c1 => ⟨_, rfl, rfl, _, rfl, ite2 (fun c2 => (bad c1 c2).elim) (fun _ => ?_)⟩) (fun _ => iteF ?_)
      all_goals
        refine ⟨_, rfl, a, _, rfl, ha, _, _, rfl, rfl, _, rfl, ?_⟩
        have lp : 0 < (kT ts).length := by rw [kT, List.length_map]; exact List.length_pos_iff.mpr ne
        rw [decide_eq_true (show (0 : Int) < ((kT ts).length : Int) by omega)]
        refine iteT ⟨a, _, ha, trivial, fun od => ?_⟩
        refine ⟨_, rfl, a, od, kT ts, rfl, upd_same, fun D hD => ?_⟩
        have nD : a ≠ D := fun e => by rw [← e, upd_same] at hD; cases hD
        have hD0 := upd_none' hD
        refine lc_it (walk_items (d := a) (o := od) (kvs := kT ts)) (fun i H' => Same (L2.upd H a (.frz od (.dK (kT ts)))) H' ∧ H' D = some (.lst ((List.replicate i true).map V.bl))) ⟨Same.new hD, upd_same⟩ (fun i H' _ z => z.1 _ _ upd_same) ?_ ?_
        · rintro i v H1 H2 hi ⟨sm, hl⟩ ⟨T1, x, y, rfl, hT1, rfl, ex, ey⟩
          have hi' : i < ts.length := by rw [kT, List.length_map] at hi; exact hi
          have hk1 : (kT ts)[i]? = some (.inr ts[i].1, .str ts[i].2) := by rw [kT, List.getElem?_map, List.getElem?_eq_getElem hi']; rfl
          dsimp only at ex ey
          rw [hk1] at ex ey
          cases ex; cases ey
          have hw := aw ts[i] (List.getElem_mem hi')
          have nTD : D ≠ T1 := ne_of_none hl hT1
          refine ⟨T1, _, rfl, SqT.of upd_same, rfl, _, _, rfl, _, _, rfl, rfl, rfl, ?_⟩
          dsimp only [tYes]
          rw [if_pos rfl]
          refine ⟨_, rfl, _, rfl, hw.1, fun H3 s3 => ⟨_, rfl, iteT ⟨_, rfl, _, rfl, hw.2, fun H4 s4 => ?_⟩⟩⟩
          refine ⟨_, s4 _ _ (s3 _ _ (by rw [upd_ne nTD]; exact hl)), by rw [List.length_map, List.length_replicate, sizeLine_eq]; omega, ?_, ?_⟩
          · intro b u e
            rw [upd_ne (ne_of_none e hD)]; exact s4 _ _ (s3 _ _ (Same.new hT1 _ _ (sm _ _ e)))
          · rw [upd_same, repl_snoc]
        · rintro H1 ⟨sm, hl⟩
          refine ⟨sm _ _ upd_same, D, _, rfl, SqL.of (by rw [upd_ne nD.symm]; exact hl), ?_⟩
          rw [all_true]
          exact k _ (Same.unlock ha sm)
end
end D1
end L2
namespace L2
namespace D1
open PySem PySem.Spec PyProof.Rows
def leC (a b : List Nat) : Prop := ltCps b a = false
theorem leC_trans : ∀ {a b c : List Nat}, leC a b → leC b c → leC a c
  | [], _, [], _, _ => rfl
  | [], _, _ :: _, _, _ => rfl
  | _ :: _, [], _, h, _ => by cases h
  | _ :: _, _ :: _, [], _, h => by cases h
  | x :: a, y :: b, z :: c, h1, h2 => by
    unfold leC at *
    unfold ltCps at *
    simp only [Bool.or_eq_false_iff, decide_eq_false_iff_not, Bool.and_eq_false_iff, beq_eq_false_iff_ne] at *
    obtain ⟨p1, q1⟩ := h1
    obtain ⟨p2, q2⟩ := h2
    refine ⟨by omega, ?_⟩
    by_cases e : z = x
    · right
      have e1 : y = x := by omega
      have e2 : z = y := by omega
      have r1 := q1.resolve_left fun n => n e1
      have r2 := q2.resolve_left fun n => n e2
      exact leC_trans (a := a) (b := b) (c := c) r1 r2
    · exact .inl e
theorem leC_anti : ∀ {a b : List Nat}, leC a b → leC b a → a = b
  | [], [], _, _ => rfl
  | [], _ :: _, _, h => by cases h
  | _ :: _, [], h, _ => by cases h
  | x :: a, y :: b, h1, h2 => by
    unfold leC at *
    unfold ltCps at *
    simp only [Bool.or_eq_false_iff, decide_eq_false_iff_not, Bool.and_eq_false_iff, beq_eq_false_iff_ne] at *
    have e : x = y := by omega
    have r1 := h1.2.resolve_left fun n => n e.symm
    have r2 := h2.2.resolve_left fun n => n e
    rw [e, leC_anti (a := a) (b := b) r1 r2]
theorem leC_total : ∀ (a b : List Nat), leC a b ∨ leC b a
  | [], [] => .inl rfl
  | [], _ :: _ => .inl rfl
  | _ :: _, [] => .inr rfl
  | x :: a, y :: b => by
    unfold leC
    unfold ltCps
    simp only [Bool.or_eq_false_iff, decide_eq_false_iff_not, Bool.and_eq_false_iff, beq_eq_false_iff_ne]
    rcases Nat.lt_trichotomy x y with h | h | h
    · exact .inl ⟨by omega, .inl (by omega)⟩
    · rcases leC_total a b with r | r
      · exact .inl ⟨by omega, .inr r⟩
      · exact .inr ⟨by omega, .inr r⟩
    · exact .inr ⟨by omega, .inl (by omega)⟩
def leS (x y : Str) : Prop := leC (tl x) (tl y)
theorem rising_pw : ∀ (l : List Str) (p : Str), risingS p l = true → (p :: l).Pairwise leS
  | [], p, _ => List.pairwise_singleton _ _
  | x :: r, p, h => by
    unfold risingS at h
    rw [Bool.and_eq_true, Bool.not_eq_true'] at h
    have ih := rising_pw r x h.2
    refine List.pairwise_cons.mpr ⟨fun y hy => ?_, ih⟩
    rcases List.mem_cons.mp hy with e | e
    · rw [e]; exact h.1
    · exact leC_trans (show leC (tl p) (tl x) from h.1) ((List.pairwise_cons.mp ih).1 y e)
theorem sorted_pw : ∀ {l : List Str}, sortedS l = true → l.Pairwise leS
  | [], _ => List.Pairwise.nil
  | x :: r, h => rising_pw r x h
theorem pw_unique : ∀ {ys zs : List Str}, ys.Perm zs → ys.Pairwise leS → zs.Pairwise leS → ys = zs
  | [], zs, p, _, _ => (List.nil_perm.mp p).symm
  | y :: r, [], p, _, _ => by have := p.length_eq; simp at this
  | y :: r, z :: s, p, h1, h2 => by
    have e : y = z := by
      rcases List.mem_cons.mp (p.mem_iff.mp List.mem_cons_self) with e | e
      · exact e
      · rcases List.mem_cons.mp (p.mem_iff.mpr List.mem_cons_self) with e2 | e2
        · exact e2.symm
        · exact tl_ext (leC_anti ((List.pairwise_cons.mp h1).1 z e2) ((List.pairwise_cons.mp h2).1 y e))
    subst e
    rw [pw_unique (List.Perm.cons_inv p) (List.pairwise_cons.mp h1).2 (List.pairwise_cons.mp h2).2]
instance (x y : Str) : Decidable (leS x y) := inferInstanceAs (Decidable (_ = false))
def insS (x : Str) : List Str → List Str
  | [] => [x]
  | y :: r => if leS x y then x :: y :: r else y :: insS x r
def srt : List Str → List Str
  | [] => []
  | x :: r => insS x (srt r)
theorem ins_perm (x : Str) : ∀ l : List Str, (insS x l).Perm (x :: l)
  | [] => List.Perm.refl _
  | y :: r => by
    unfold insS
    split
    · exact List.Perm.refl _
    · exact ((ins_perm x r).cons y).trans (List.Perm.swap x y r)
theorem srt_perm : ∀ l : List Str, (srt l).Perm l
  | [] => List.Perm.refl _
  | x :: r => (ins_perm x (srt r)).trans ((srt_perm r).cons x)
theorem ins_pw (x : Str) : ∀ {l : List Str}, l.Pairwise leS → (insS x l).Pairwise leS
  | [], _ => List.pairwise_singleton _ _
  | y :: r, h => by
    unfold insS
    split
    · rename_i c
      refine List.pairwise_cons.mpr ⟨fun z hz => ?_, h⟩
      rcases List.mem_cons.mp hz with e | e
      · rw [e]; exact c
      · exact leC_trans c ((List.pairwise_cons.mp h).1 z e)
    · rename_i c
      have hy : leS y x := (leC_total (tl x) (tl y)).resolve_left c
      refine List.pairwise_cons.mpr ⟨fun z hz => ?_, ins_pw x (List.pairwise_cons.mp h).2⟩
      rcases List.mem_cons.mp ((ins_perm x r).mem_iff.mp hz) with e | e
      · rw [e]; exact hy
      · exact (List.pairwise_cons.mp h).1 z e
theorem srt_pw : ∀ l : List Str, (srt l).Pairwise leS
  | [] => List.Pairwise.nil
  | x :: r => ins_pw x (srt_pw r)
theorem srt_of {ys ks : List Str} (p : ys.Perm ks) (s : sortedS ys = true) : ys = srt ks := pw_unique (p.trans (srt_perm ks).symm) (sorted_pw s) (srt_pw ks)
theorem srt_congr {ks ls : List Str} (p : ks.Perm ls) : srt ks = srt ls := pw_unique ((srt_perm ks).trans (p.trans (srt_perm ls).symm)) (srt_pw ks) (srt_pw ls)
/-- the goal of a word -/
def goalT (ts : List (Str × Str)) (k : Str) : Str := ((ts.find? fun t => decide (t.1 = k)).map (·.2)).getD ""
def ordT (ts : List (Str × Str)) : List (Str × Str) := (srt (ts.map (·.1))).map fun k => (k, goalT ts k)
theorem valV_kT (ts : List (Str × Str)) (k : Str) : valV (kT ts) (.inr k) = (ts.find? fun t => decide (t.1 = k)).map fun t => V.str t.2 := by
  induction ts with
  | nil => rfl
  | cons a r ih =>
    rw [List.find?_cons]
    by_cases h : a.1 = k
    · rw [show valV (kT (a :: r)) (.inr k) = some (V.str a.2) from valV_pos (p := (Sum.inr a.1, V.str a.2)) (congrArg _ h), decide_eq_true h]; rfl
    · rw [show valV (kT (a :: r)) (.inr k) = valV (kT r) (.inr k) from valV_neg (p := (Sum.inr a.1, V.str a.2)) (fun e => h (Sum.inr.inj e)), decide_eq_false h, ih]
theorem find_some {ts : List (Str × Str)} {k : Str} (h : k ∈ ts.map (·.1)) : ∃ t, (ts.find? fun t => decide (t.1 = k)) = some t ∧ t.1 = k ∧ t ∈ ts := by
  obtain ⟨t, ht, e⟩ := List.mem_map.mp h
  cases z : ts.find? fun t => decide (t.1 = k) with
  | none => exact absurd (decide_eq_true e) (List.find?_eq_none.mp z t ht)
  | some u =>
    have e1 := List.find?_some z
    exact ⟨u, rfl, of_decide_eq_true e1, List.mem_of_find?_eq_some z⟩
theorem valV_goal {ts : List (Str × Str)} {k : Str} (h : k ∈ ts.map (·.1)) : valV (kT ts) (.inr k) = some (.str (goalT ts k)) := by
  obtain ⟨t, e, _⟩ := find_some h
  rw [valV_kT, goalT, e]; rfl
theorem ordT_keys (ts : List (Str × Str)) : (ordT ts).map (·.1) = srt (ts.map (·.1)) := by
  rw [ordT, List.map_map]
  exact List.map_id'' (fun _ => rfl) _
/-- a dict comprehension over a walk -/
theorem dc_it {J : It} {n : Nat} {G : Hp → Prop} {Y : Nat → Hp → V → Hp → Prop} (w : Walk J n G Y) {g : TG} {tt : TT} {tk tv : TE} {vs : List Nat} {σ : L2.St} {H1 : Hp} {D : Addr} {Qd : Hp → Prop} (Pv : Nat → Hp → Prop) (h0 : Pv 0 (L2.upd H1 D (.dK []))) (hG : ∀ i H, i ≤ n → Pv i H → G H)
    (hs : ∀ i x H H', i < n → Pv i H → Y i H x H' → g x (wipe σ vs) H' fun σ2 H2 => wipe σ2 vs = wipe σ vs ∧ tt σ2 H2 fun b H3 =>
      if b = true then tk σ2 H3 fun y H4 => tv σ2 H4 fun z H5 => ∃ kvs k, y = kV k ∧ H5 D = some (.dK kvs) ∧ kvs.length < sizeLine ∧ Pv (i + 1) (L2.upd H5 D (.dK (putK kvs k z))) else Pv (i + 1) H3) (hd : ∀ H, Pv n H → Qd H) :
    ∃ W : Nat → Nat → Hp → Prop, (∃ m, W 0 m (L2.upd H1 D (.dK []))) ∧ ∀ i m H, W i m H →
      (J.stop i H ∧ Qd H) ∨ (J.go i H ∧ ∃ Nx : Hp → Prop, (∀ H', Nx H' → ∃ m', m' < m ∧ W (i + 1) m' H') ∧ ∀ x H', J.yld i H x H' → g x (wipe σ vs) H' fun σ2 H2 => wipe σ2 vs = wipe σ vs ∧ tt σ2 H2 fun b H3 =>
        if b = true then tk σ2 H3 fun y H4 => tv σ2 H4 fun z H5 => ∃ kvs k, y = kV k ∧ H5 D = some (.dK kvs) ∧ kvs.length < sizeLine ∧ Nx (L2.upd H5 D (.dK (putK kvs k z))) else Nx H3) := by
  refine ⟨fun i m H => m = n - i ∧ i ≤ n ∧ Pv i H, ⟨n, by simp, Nat.zero_le _, h0⟩, ?_⟩
  rintro i m H ⟨rfl, hi, p⟩
  have q := hG i H hi p
  by_cases hlt : i < n
  · refine .inr ⟨w.goes i H hlt q, Pv (i + 1), fun H' p' => ⟨n - (i + 1), by omega, rfl, hlt, p'⟩, fun x H' y => hs i x H H' hlt p (w.yields i H x H' hlt q y)⟩
  · have e : i = n := by omega
    subst e
    exact .inl ⟨w.stops H q, hd H p⟩
/-- a book's row -/
def rowOf (bk : Bk) (s : Str) : Str × List (Str × Str) := ((bk.find? fun r => decide (r.1 = s)).map (·.2)).getD ("", [])
def ordB (bk : Bk) : Bk := (srt (bk.map (·.1))).map fun s => (s, (rowOf bk s).1, ordT (rowOf bk s).2)
theorem Rows.look {H : Hp} {kvs : List (Key × V)} {bk : Bk} {s : Str} (h : Rows H kvs bk) (m : s ∈ bk.map (·.1)) : ∃ v, valV kvs (.inr s) = some v ∧ RowAt H v (rowOf bk s).1 (rowOf bk s).2 ∧ (s, rowOf bk s) ∈ bk := by
  unfold Rows at h
  induction h with
  | nil => cases m
  | @cons a r kvs bk h1 _ ih =>
    by_cases e : r.1 = s
    · refine ⟨a.2, valV_pos (by rw [h1.1, e]), ?_, ?_⟩
      · rw [rowOf, List.find?_cons, decide_eq_true e]; exact h1.2
      · rw [rowOf, List.find?_cons, decide_eq_true e, ← e]; exact List.mem_cons_self
    · have m' : s ∈ bk.map (·.1) := by
        rcases List.mem_cons.mp m with z | z
        · exact absurd z.symm e
        · exact z
      obtain ⟨v, h2, h3, h4⟩ := ih m'
      have er : rowOf (r :: bk) s = rowOf bk s := by rw [rowOf, List.find?_cons, decide_eq_false e]; rfl
      refine ⟨v, by rw [valV_neg (by rw [h1.1]; exact fun z => e (Sum.inr.inj z))]; exact h2, by rw [er]; exact h3, by rw [er]; exact List.mem_cons_of_mem _ h4⟩
/-- what is new in H' -/
def newH (H H' : Hp) : Hp := fun a => if (H a).isSome then none else H' a
theorem new_out {H H' : Hp} {a : Addr} (n : H a = none) : newH H H' a = H' a := by unfold newH; rw [n]; rfl
theorem new_some {H H' : Hp} {a : Addr} {o : HO} (e : newH H H' a = some o) : H a = none ∧ H' a = some o := by
  unfold newH at e
  cases h : H a with
  | none => rw [h] at e; exact ⟨rfl, e⟩
  | some u => rw [h] at e; cases e
theorem new_le {H H' : Hp} : Same (newH H H') H' := fun _ _ e => (new_some e).2
theorem new_same {H H1 H2 : Hp} (s : Same H1 H2) : Same (newH H H1) (newH H H2) := fun _ _ e => let ⟨n, e⟩ := new_some e; by rw [new_out n]; exact s _ _ e
theorem new_mono {H Hq H' : Hp} (s : Same H Hq) : Same (newH Hq H') (newH H H') := fun a _ e => by
  obtain ⟨n, e⟩ := new_some e
  have n2 : H a = none := by
    cases h : H a with
    | none => rfl
    | some u => rw [s _ _ h] at n; cases n
  rw [new_out n2]; exact e
theorem cut_new_upd {H X : Hp} {D : Addr} {o : HO} : cut [D] (newH H (L2.upd X D o)) = cut [D] (newH H X) := by
  funext a
  by_cases h : a = D
  · rw [cut, cut, if_pos (List.mem_singleton.mpr h), if_pos (List.mem_singleton.mpr h)]
  · have e : newH H (L2.upd X D o) a = newH H X a := by unfold newH; rw [upd_ne h]
    rw [cut_out (by simpa using h), cut_out (by simpa using h), e]
/-- a book that may stand locked -/
def BookR (H : Hp) (b : Addr) (bk : Bk) : Prop := ∃ kvs, Rd H b (.dK kvs) ∧ Rows H kvs bk
theorem rd_same {H H' : Hp} {a : Addr} {o : HO} (h : Rd H a o) (s : Same H H') : Rd H' a o := by
  rcases h with h | ⟨od, h⟩
  · exact .inl (s _ _ h)
  · exact .inr ⟨od, s _ _ h⟩
theorem BookAt.r {H : Hp} {b : Addr} {bk : Bk} (h : BookAt H b bk) : BookR H b bk := let ⟨kvs, e, r⟩ := h; ⟨kvs, .inl e, r⟩
theorem BookR.same {H H' : Hp} {b : Addr} {bk : Bk} (h : BookR H b bk) (s : Same H H') : BookR H' b bk := let ⟨kvs, e, r⟩ := h; ⟨kvs, rd_same e s, r.same s⟩
abbrev sOrdT : Stmt := top 14
abbrev sOrdB : Stmt := top 15
def spOrdT : Sp := fun vs H Q _ => ∃ (a : Addr) (ts : List (Str × Str)), vs = [.ref a] ∧ TurnsAt H a ts ∧ (ts.map (·.1)).Nodup ∧ ts.length < 64 ∧ ∀ H' R, Same H H' → H R = none → TurnsAt H' R (ordT ts) → Q (.ref R) H'
/-- a book that may be put in order -/
structure BOk (bk : Bk) : Prop where
  nd : (bk.map (·.1)).Nodup
  len : bk.length < 64
  rs : ∀ r ∈ bk, (r.2.2.map (·.1)).Nodup ∧ r.2.2.length < 64
def spOrdB : Sp := fun vs H Q _ => ∃ (b : Addr) (bk : Bk), vs = [.ref b] ∧ BookR H b bk ∧ BOk bk ∧ ∀ H' R, Same H H' → H R = none → BookAt (newH H H') R (ordB bk) → Q (.ref R) H'
section
variable {P : Program} {w : World} {K : PySem.W.Frag} {mg : Str → Option Value} {base : Heap}
theorem scOt : FnScope ["turns", "word"] ["turns"] (defScope sOrdT) := ⟨rfl, rfl, rfl, by decide +kernel, rfl, by decide +kernel, by decide +kernel⟩
theorem ok_ordT {f : Addr} {fd : FuncData} (F : Fun K "ordered_turns" "ordered_turns" sOrdT f fd) (T : Free3 mg) : FnOk P w K mg base CX0 1 f fd ["turns"] spOrdT := by
  refine F.ok scOt (fun vs H Q E h => ?_) (fun cdv A outer s H vs Q E hr h => ?_)
  · obtain ⟨a, ts, rfl, _⟩ := h; rfl
  · obtain ⟨a, ts, rfl, ha, nd, l64, k⟩ := h
    have hu := hu_of hr
    refine ⟨_, pss_one (ps_ret (pe_dc (own := [("word", 1)]) (g := gName 1) (tt := tYes) (tk := tVar 1) (tv := tDGet (tVar 0) (tVar 1)) rfl scOt.nd (pi_list (pe_callB (call_sortedD rfl) (by rfl) T.sorted (by decide +kernel) (pa_cons (pv 0) pa_nil)))
        (blkOk_by (N := ["turns", "word"]) (sc := defScope sOrdT) (by decide +kernel)) (fun _ _ _ _ _ => pg_name (i := 1) scOt.nd rfl (Or.inl rfl)) (fun _ _ _ _ _ => pts_nil) (fun _ _ _ _ _ => pv 1) (fun _ _ _ _ _ => pe_dget hu (pv 0) (pv 1) (fun _ _ => rfl)))), ?_⟩
    have ek : (kT ts).map (·.1) = (ts.map (·.1)).map Sum.inr := by rw [kT, List.map_map, List.map_map]; rfl
    refine ⟨_, rfl, a, kT ts, ts.map (·.1), rfl, .inl ha, ek, by rw [List.length_map]; exact l64, fun ys q pm so hq => ?_⟩
    have ey := srt_of pm so
    have lq : ys.length < 64 := by rw [pm.length_eq, List.length_map]; exact l64
    have am : ∀ y ∈ ys, y ∈ ts.map (·.1) := fun y hy => pm.mem_iff.mp hy
    have ndy : ys.Nodup := pm.nodup_iff.mpr nd
    refine ⟨q, rfl, ⟨_, SqL.of upd_same⟩, fun D hD => ?_⟩
    have nqD : q ≠ D := fun e => by rw [← e, upd_same] at hD; cases hD
    have hD0 := upd_none' hD
    refine dc_it (walk_list (K := K) (a := q) (xs := ys.map V.str)) (fun i H' => Same H H' ∧ SL H' q ys ∧ TurnsAt H' D ((ys.take i).map fun k => (k, goalT ts k)))
      ⟨fun b u e => by rw [upd_ne (ne_of_none e hD0), upd_ne (ne_of_none e hq)]; exact e, by rw [SL, upd_ne nqD, upd_same], by rw [TurnsAt, upd_same]; rfl⟩ (fun i H' _ z => z.2.1.sq) ?_ ?_
    · rintro i v H1 H2 hi ⟨sm, hl, hT⟩ ⟨rfl, hx⟩
      obtain ⟨z, hz, rfl⟩ := get_map hx
      have hzm := am z (List.mem_of_getElem? hz)
      refine ⟨rfl, ?_⟩
      dsimp only [tYes]
      rw [if_pos rfl]
      have hn : (Sum.inr z : Key) ∉ (kT ((ys.take i).map fun k => (k, goalT ts k))).map (·.1) := fun hm => by
        obtain ⟨p1, hp1, e1⟩ := List.mem_map.mp hm
        obtain ⟨p2, hp2, e2⟩ := List.mem_map.mp hp1
        obtain ⟨p3, hp3, e3⟩ := List.mem_map.mp hp2
        subst e3; subst e2
        have e1 : p3 = z := Sum.inr.inj e1
        rw [e1] at hp3
        obtain ⟨m, hm1, hm2⟩ := List.mem_take_iff_getElem.mp hp3
        have h1 : ys[m]? = some z := by rw [List.getElem?_eq_getElem (by omega), hm2]
        have := (List.getElem?_inj (by omega) ndy).mp (h1.trans hz.symm)
        omega
      refine ⟨_, rfl, _, rfl, _, rfl, a, _, rfl, .inl ⟨kT ts, .inr z, .inl (ha.same sm), rfl, (valV_goal hzm).symm⟩, _, .inr z, rfl, hT, ?_, ?_, ?_, ?_⟩
      · rw [kT, List.length_map, List.length_map, List.length_take, sizeLine_eq]; omega
      · intro b u e
        rw [upd_ne (ne_of_none e hD0)]; exact sm _ _ e
      · rw [SL, upd_ne nqD]; exact hl
      · rw [TurnsAt, upd_same, putK_new hn, take_succ_get hz, List.map_append, kT, kT, List.map_append]; rfl
    · rintro H1 ⟨sm, hl, hT⟩
      refine k H1 D sm hD0 ?_
      rw [List.length_map, List.take_length, ey] at hT
      exact hT
end
end D1
end L2
namespace L2
namespace D1
open PySem PySem.Spec PyProof.Rows
theorem lp_it {J : It} {n : Nat} {G : Hp → Prop} {Y : Nat → Hp → V → Hp → Prop} (w : Walk J n G Y) {body : V → Hp → (Hp → Prop) → Prop} {H0 : Hp} {Qd : Hp → Prop} (Pv : Nat → Hp → Prop) (h0 : Pv 0 H0) (hG : ∀ i H, i ≤ n → Pv i H → G H)
    (hs : ∀ i x H H', i < n → Pv i H → Y i H x H' → body x H' (Pv (i + 1))) (hd : ∀ H, Pv n H → Qd H) :
    ∃ W : Nat → Nat → Hp → Prop, (∃ m, W 0 m H0) ∧ ∀ i m H, W i m H → (J.stop i H ∧ Qd H) ∨ (J.go i H ∧ ∃ Nx : Hp → Prop, (∀ H', Nx H' → ∃ m', m' < m ∧ W (i + 1) m' H') ∧ ∀ x H', J.yld i H x H' → body x H' Nx) := by
  refine ⟨fun i m H => m = n - i ∧ i ≤ n ∧ Pv i H, ⟨n, by simp, Nat.zero_le _, h0⟩, ?_⟩
  rintro i m H ⟨rfl, hi, p⟩
  have q := hG i H hi p
  by_cases hlt : i < n
  · refine .inr ⟨w.goes i H hlt q, Pv (i + 1), fun H' p' => ⟨n - (i + 1), by omega, rfl, hlt, p'⟩, fun x H' y => hs i x H H' hlt p (w.yields i H x H' hlt q y)⟩
  · have e : i = n := by omega
    subst e
    exact .inl ⟨w.stops H q, hd H p⟩
def tLk : Nat → TE → TE
  | 0, t => t
  | n + 1, t => tLockE (tLk n t)
theorem pe_lkN {X : Cx} {e : Expr} {t : TE} (h : PE X e t) : ∀ n, PE X e (tLk n t)
  | 0 => h
  | n + 1 => pe_lock (pe_lkN h n)
theorem pe_lkAny {X : Cx} {e : Expr} {t : TE} (h : PE X e t) : PE X e (fun σ H Q => ∃ n, tLk n t σ H Q) := ⟨fun pins s σ H Q I ⟨n, q⟩ => (pe_lkN h n).run pins s σ H Q I q⟩
def Lk (ds : List Addr) (H H2 : Hp) : Prop := (∀ c, c ∉ ds → H2 c = H c) ∧ ∀ d ∈ ds, ∃ od u, H d = some u ∧ H2 d = some (.frz od u)
theorem lk_all (t : TE) (σ : L2.St) (Post : V → Hp → Prop) : ∀ (ds : List Addr) (H : Hp) (Q : VK), ds.Nodup → (∀ d ∈ ds, ∃ u, H d = some u ∧ Mut (some u)) →
    (∀ H2 Q2, Lk ds H H2 → (∀ v H3, Same H2 H3 → Post v H3 → Q2 v H3) → t σ H2 Q2) →
    (∀ v H3, Post v H3 → ∀ H4, Same H H4 → (∀ c, c ∉ ds → H4 c = H3 c) → Q v H4) → tLk ds.length t σ H Q
  | [], H, Q, _, _, h, k => h H Q ⟨fun _ _ => rfl, by simp⟩ fun v H3 s p => k v H3 p H3 s fun _ _ => rfl
  | d :: ds, H, Q, nd, hm, h, k => by
    obtain ⟨u, hu, mu⟩ := hm d List.mem_cons_self
    have nd' := List.nodup_cons.mp nd
    refine ⟨d, u, hu, mu, fun od => ?_⟩
    refine lk_all t σ Post ds _ _ nd'.2 (fun d' hd' => ?_) (fun H2 Q2 lk k2 => h H2 Q2 ⟨fun c hc => ?_, fun d' hd' => ?_⟩ k2) fun v H3 p H4 s4 e4 => ⟨s4 _ _ upd_same, k v H3 p _ (Same.unlock hu s4) fun c hc => ?_⟩
    · rw [upd_ne fun e => nd'.1 (by rw [← e]; exact hd')]; exact hm d' (List.mem_cons_of_mem _ hd')
    · rw [lk.1 c fun z => hc (List.mem_cons_of_mem _ z), upd_ne fun e => hc (by rw [e]; exact List.mem_cons_self)]
    · rcases List.mem_cons.mp hd' with e | e
      · rw [e]; exact ⟨od, u, hu, by rw [lk.1 d nd'.1]; exact upd_same⟩
      · obtain ⟨o2, u2, h1, h2⟩ := lk.2 d' e
        rw [upd_ne fun z => nd'.1 (by rw [← z]; exact e)] at h1
        exact ⟨o2, u2, h1, h2⟩
    · rw [upd_ne fun e => hc (by rw [e]; exact List.mem_cons_self)]
      exact e4 c fun z => hc (List.mem_cons_of_mem _ z)
theorem dedup (as : List Addr) : ∃ ds : List Addr, ds.Nodup ∧ ∀ a, a ∈ ds ↔ a ∈ as := by
  induction as with
  | nil => exact ⟨[], List.nodup_nil, fun _ => Iff.rfl⟩
  | cons x r ih =>
    obtain ⟨ds, nd, h⟩ := ih
    by_cases e : x ∈ ds
    · refine ⟨ds, nd, fun a => ⟨fun z => List.mem_cons_of_mem _ ((h a).mp z), fun z => ?_⟩⟩
      rcases List.mem_cons.mp z with q | q
      · rw [q]; exact e
      · exact (h a).mpr q
    · refine ⟨x :: ds, List.nodup_cons.mpr ⟨e, nd⟩, fun a => ?_⟩
      rw [List.mem_cons, List.mem_cons, h a]
/-- a row with its dict of turns told -/
def RowA (H : Hp) (v : V) (a : Addr) (k : Str) (ts : List (Str × Str)) : Prop := ∃ t, v = .ref t ∧ H t = some (.tup [.str k, .ref a]) ∧ TurnsAt H a ts
theorem rows_addrs {H : Hp} {kvs : List (Key × V)} {bk : Bk} (h : Rows H kvs bk) : ∀ l : List Str, (∀ s ∈ l, s ∈ bk.map (·.1)) → ∃ as : List Addr, (∀ a ∈ as, ∃ ts, TurnsAt H a ts) ∧ ∀ s ∈ l, ∃ v a, valV kvs (.inr s) = some v ∧ a ∈ as ∧ RowA H v a (rowOf bk s).1 (rowOf bk s).2
  | [], _ => ⟨[], by simp, by simp⟩
  | s :: l, hl => by
    obtain ⟨as, h1, h2⟩ := rows_addrs h l fun x hx => hl x (List.mem_cons_of_mem _ hx)
    obtain ⟨v, e, ⟨t, a, ev, ht, ha⟩, _⟩ := h.look (hl s List.mem_cons_self)
    refine ⟨a :: as, fun b hb => ?_, fun x hx => ?_⟩
    · rcases List.mem_cons.mp hb with z | z
      · rw [z]; exact ⟨_, ha⟩
      · exact h1 b z
    · rcases List.mem_cons.mp hx with z | z
      · rw [z]; exact ⟨v, a, e, List.mem_cons_self, t, ev, ht, ha⟩
      · obtain ⟨v', a', h3, h4, h5⟩ := h2 x z
        exact ⟨v', a', h3, List.mem_cons_of_mem _ h4, h5⟩
/-- a book's dict is no dict of turns -/
theorem book_ne {H : Hp} {b a : Addr} {kvs : List (Key × V)} {bk : Bk} {ts : List (Str × Str)} (hb : H b = some (.dK kvs)) (h : Rows H kvs bk) (ne : bk ≠ []) (ha : TurnsAt H a ts) : a ≠ b := fun e => by
  rw [TurnsAt, e, hb] at ha
  have ek : kvs = kT ts := by injection ha with z; injection z
  cases h with
  | nil => exact ne rfl
  | @cons x r kv2 bk2 h1 _ =>
    cases ts with
    | nil => cases ek
    | cons y ys =>
      have e1 : x = (Sum.inr y.1, V.str y.2) := (List.cons.inj ek).1
      obtain ⟨_, t, a', e2, _⟩ := h1
      rw [e1] at e2
      cases e2
theorem Rows.lock {H : Hp} {b : Addr} {kvs : List (Key × V)} {bk : Bk} {o : HO} (hb : H b = some (.dK kvs)) (h : Rows H kvs bk) (ne : bk ≠ []) : Rows (L2.upd H b o) kvs bk := by
  have key : ∀ (kv2 : List (Key × V)) (bk2 : Bk), Rows H kv2 bk2 → Rows (L2.upd H b o) kv2 bk2 := fun kv2 bk2 h2 => by
    unfold Rows at h2 ⊢
    induction h2 with
    | nil => exact .nil
    | cons h1 _ ih =>
      obtain ⟨e, t, a, ev, ht, ha⟩ := h1
      refine .cons ⟨e, t, a, ev, ?_, ?_⟩ ih
      · rw [upd_ne fun z => by rw [z, hb] at ht; cases ht]; exact ht
      · rw [TurnsAt, upd_ne (book_ne hb h ne ha)]; exact ha
  exact key kvs bk h
abbrev sIsBook : Stmt := top 13
structure BWf (bk : Bk) : Prop where
  ne : bk ≠ []
  nd : (bk.map (·.1)).Nodup
  len : bk.length ≤ 60
  rs : ∀ r ∈ bk, Wd r.1 ∧ RForm r.2.1 r.2.2 ∧ ∀ t ∈ r.2.2, t.2 ∈ bk.map (·.1)
  len2 : ∀ r ∈ bk, r.2.2.length ≤ 60
def spIsBook : Sp := fun vs H Q _ => ∃ (b : Addr) (bk : Bk), vs = [.ref b] ∧ BookAt H b bk ∧ BWf bk ∧ ∀ H', Same H H' → Q (.bl true) H'
theorem rowOf_self {bk : Bk} (nd : (bk.map (·.1)).Nodup) {r : RowD} (h : r ∈ bk) : rowOf bk r.1 = r.2 := by
  induction bk with
  | nil => cases h
  | cons x bk ih =>
    have nd' := List.nodup_cons.mp nd
    by_cases e : x.1 = r.1
    · rcases List.mem_cons.mp h with z | z
      · rw [rowOf, List.find?_cons, decide_eq_true e, z]; rfl
      · exact absurd (List.mem_map.mpr ⟨r, z, e.symm⟩) nd'.1
    · have hr : r ∈ bk := by
        rcases List.mem_cons.mp h with z | z
        · exact absurd (by rw [z]) e
        · exact z
      have er : rowOf (x :: bk) r.1 = rowOf bk r.1 := by rw [rowOf, List.find?_cons, decide_eq_false e]; rfl
      rw [er]; exact ih nd'.2 hr
section
variable {P : Program} {w : World} {K : PySem.W.Frag} {mg : Str → Option Value} {base : Heap}
theorem scIb : FnScope ["value", "state", "goal"] ["value"] (defScope sIsBook) := ⟨rfl, rfl, rfl, by decide +kernel, rfl, by decide +kernel, by decide +kernel⟩
theorem ok_isbook {f : Addr} {fd : FuncData} (F : Fun K "is_book" "is_book" sIsBook f fd) (T : Free3 mg) (CN : CIsName P w K mg base) (CR : CIsRow P w K mg base) : FnOk P w K mg base CX0 3 f fd ["value"] spIsBook := by
  refine F.ok scIb (fun vs H Q E h => ?_) (fun cdv A outer s H vs Q E hr h => ?_)
  · obtain ⟨a, bk, rfl, _⟩ := h; rfl
  · obtain ⟨b, bk, rfl, ⟨kvs, hb, hRw⟩, wf, k⟩ := h
    have hu := hu_of hr
    refine ⟨_, pss_cons (ps_if (PW.pt (pw_or (pt_not (pt_val (pe_callB call_isi (by rfl) T.isi (by decide +kernel) (pa_cons (pv 0) (pa_cons (pe_bltn (v := .ty "dict") rfl T.dict (by decide +kernel) rfl) pa_nil))))) (pw_or1 (pt_cmpR op_eq (pe_callB call_lenD (by rfl) T.len PySem.boot_len (pa_cons (pv 0) pa_nil)) pe_int (nomark _))))) (pss_one (ps_ret pe_bl)) pss_nil)
      (pss_cons (ps_if (pt_not (pt_val (pe_callB (cr_all rfl) (by rfl) T.all (by decide +kernel) (pa_cons (pe_lock (pe_lc (own := [("state", 1)]) (g := gName 1) (tt := tYes) (te := tAndV (tCall spIsName [] E0 (tCons (tVar 1) tNil)) (tCall spIsRow [] E0 (tCons (tDGet (tVar 0) (tVar 1)) tNil))) rfl scIb.nd (pi_keys (pv 0))
          (blkOk_by (N := ["value", "state", "goal"]) (sc := defScope sIsBook) (by decide +kernel)) (fun _ _ _ _ _ => pg_name (i := 1) scIb.nd rfl (Or.inl rfl)) (fun _ _ _ _ _ => pts_nil)
          (fun _ _ _ _ _ => pe_and (pe_cal CN (hr.mono (by decide)) rfl (pa_cons (pv 1) pa_nil)) (pe_one (pe_cal CR (hr.mono (by decide)) rfl (pa_cons (pe_dget hu (pv 0) (pv 1) (fun _ _ => rfl)) pa_nil)))))) pa_nil)))) (pss_one (ps_ret pe_bl)) pss_nil)
      (pss_one (ps_ret (pe_callB (cr_all rfl) (by rfl) T.all (by decide +kernel) (pa_cons (pe_lkAny (pe_lc2 (own := [("state", 1), ("goal", 2)]) (vs1 := [2]) (g := gName 1) (tt := tYes) (g1 := gName 2) (tt1 := tYes) (wi1 := iVals (tOp (rIxT K) (tDGet (tVar 0) (tVar 1)) (tC (.int 1)))) (te := tDIn (tVar 2) (tVar 0)) rfl scIb.nd (pi_keys (pv 0))
          (blkOk_by (N := ["value", "state", "goal"]) (sc := defScope sIsBook) (by decide +kernel)) (by decide) (fun _ _ _ _ _ => pg_name (i := 1) scIb.nd rfl (Or.inl rfl)) (fun _ _ _ _ _ => pts_nil)
          (fun _ _ _ _ _ => pi_values (pe_ix ix_tup (pe_dget hu (pv 0) (pv 1) (fun _ _ => rfl)) pe_int (fun _ _ => rfl))) (fun _ _ _ _ _ => pg_name (i := 2) scIb.nd rfl (Or.inl rfl)) (fun _ _ _ _ _ => pts_nil)
          (fun _ _ _ _ _ => pe_cmp (pc_din hu (pv 2) (pv 0)) rfl))) pa_nil))))), ?_⟩
    have lk0 : kvs.length = bk.length := hRw.len
    have lpos : 0 < bk.length := List.length_pos_iff.mpr wf.ne
    have at_row : ∀ {i : Nat} {kk : Key} {v : V}, kvs[i]? = some (kk, v) → ∃ s, kk = .inr s ∧ s ∈ bk.map (·.1) := fun {i kk v} e => by
      have e1 : (kvs.map (·.1))[i]? = some kk := by rw [List.getElem?_map, e]; rfl
      rw [hRw.keys] at e1
      obtain ⟨r, hr, e2⟩ := get_map e1
      exact ⟨r.1, e2, List.mem_map_of_mem (List.mem_of_getElem? hr)⟩
    refine ⟨_, rfl, _, .ty "dict", .type "dict", .type "dict", true, rfl, .ty _, .base (.dK hb), kit_ty (by decide +kernel), _, rfl, ?_⟩
    refine iteF ⟨_, rfl, b, kvs, rfl, hb, rfl, _, rfl, ?_⟩
    have nz : decide (V.int (kvs.length : Int) = V.int 0) = false := decide_eq_false fun e => by
      have : (kvs.length : Int) = 0 := by injection e
      omega
    rw [nz]
    refine iteF ⟨b, _, hb, trivial, fun od => ?_⟩
    have hR1 := hRw.lock (o := .frz od (.dK kvs)) hb wf.ne
    refine ⟨_, rfl, b, od, rfl, .inl ⟨kvs, upd_same, fun D hD => ?_⟩⟩
    have nD : b ≠ D := fun e => by rw [← e, upd_same] at hD; cases hD
    have hD0 := upd_none' hD
    refine lc_it (walk_keys (d := b) (o := od) (kvs := kvs)) (fun i H' => Same (L2.upd H b (.frz od (.dK kvs))) H' ∧ H' D = some (.lst ((List.replicate i true).map V.bl))) ⟨Same.new hD, upd_same⟩ (fun i H' _ z => z.1 _ _ upd_same) ?_ ?_
    · rintro i x H1 H2 hi ⟨sm, hl⟩ ⟨rfl, kk, v0, hkv, rfl⟩
      obtain ⟨s', rfl, hs⟩ := at_row hkv
      obtain ⟨v, e2, hrow, hm⟩ := (hR1.same sm).look hs
      have wr := wf.rs _ hm
      refine ⟨rfl, ?_⟩
      dsimp only [tYes]
      rw [if_pos rfl]
      refine ⟨_, rfl, s', rfl, wr.1, fun H3 s3 => ⟨true, rfl, iteT ⟨_, rfl, _, rfl, b, v, rfl, .inl ⟨kvs, .inr s', .inr ⟨od, s3 _ _ (sm _ _ upd_same)⟩, rfl, e2.symm⟩, v, _, _, rfl, hrow.same s3, wr.2.1, fun H4 s4 => ?_⟩⟩⟩
      refine ⟨_, s4 _ _ (s3 _ _ hl), by rw [List.length_map, List.length_replicate, sizeLine_eq]; have := wf.len; omega, ?_, ?_⟩
      · intro c u e
        rw [upd_ne (ne_of_none e hD)]; exact s4 _ _ (s3 _ _ (sm _ _ e))
      · rw [upd_same, repl_snoc]
    rintro H1 ⟨sm, hl⟩
    refine ⟨sm _ _ upd_same, D, _, rfl, SqL.of (by rw [upd_ne nD.symm]; exact hl), ?_⟩
    rw [all_true]
    refine ⟨_, rfl, ?_⟩
    have s5 : Same H (L2.upd H1 b (.dK kvs)) := Same.unlock hb sm
    have hb5 := s5 _ _ hb
    have hR5 := hRw.same s5
    generalize L2.upd H1 b (.dK kvs) = H5 at s5 hb5 hR5
    clear sm hl hD hD0 hR1
    refine iteF ?_
    obtain ⟨as, ha1, ha2⟩ := rows_addrs hR5 (bk.map (·.1)) fun s hs => hs
    obtain ⟨ds, nds, hds⟩ := dedup as
    have nb : b ∉ ds := fun z => by
      obtain ⟨ts, hts⟩ := ha1 b ((hds b).mp z)
      exact book_ne hb5 hR5 wf.ne hts rfl
    refine ⟨(b :: ds).length, lk_all _ _ (fun v H3 => ∃ D n, v = .ref D ∧ D ∉ b :: ds ∧ H3 D = some (.lst ((List.replicate n true).map V.bl))) (b :: ds) H5 _ (List.nodup_cons.mpr ⟨nb, nds⟩) (fun d hd => ?_) ?_ ?_⟩
    · rcases List.mem_cons.mp hd with e | e
      · rw [e]; exact ⟨_, hb5, trivial⟩
      · obtain ⟨ts, hts⟩ := ha1 d ((hds d).mp e)
        exact ⟨_, hts, trivial⟩
    · intro H2 Q2 lk k2
      obtain ⟨od, u, h1, hb2⟩ := lk.2 b List.mem_cons_self
      rw [hb5] at h1
      cases h1
      refine ⟨_, rfl, b, od, rfl, .inl ⟨kvs, hb2, fun D hD => ?_⟩⟩
      have nDd : D ∉ b :: ds := fun z => by
        obtain ⟨_, _, _, h3⟩ := lk.2 D z
        rw [h3] at hD; cases hD
      refine lp_it (walk_keys (d := b) (o := od) (kvs := kvs)) (fun i H' => Same H2 H' ∧ ∃ n, n ≤ 60 * i ∧ H' D = some (.lst ((List.replicate n true).map V.bl))) ⟨Same.new hD, 0, Nat.le_refl _, upd_same⟩ (fun i H' _ z => z.1 _ _ hb2) ?_ ?_
      · rintro i x H6 H7 hi ⟨sm, n, hn, hl⟩ ⟨rfl, kk, v0, hkv, rfl⟩
        obtain ⟨s', rfl, hs⟩ := at_row hkv
        obtain ⟨v, a, e2, haa, t, rfl, ht, hta⟩ := ha2 s' hs
        obtain ⟨_, _, _, hm⟩ := hR5.look hs
        have wr := wf.rs _ hm
        have l60 : (rowOf bk s').2.length ≤ 60 := wf.len2 _ hm
        have ht2 : H2 t = some (.tup [.str (rowOf bk s').1, .ref a]) := by
          rw [lk.1 t fun z => by
            rcases List.mem_cons.mp z with e | e
            · rw [e, hb5] at ht; cases ht
            · obtain ⟨ts, hts⟩ := ha1 t ((hds t).mp e)
              rw [hts] at ht; cases ht]
          exact ht
        obtain ⟨oa, ua, h3, ha3⟩ := lk.2 a (List.mem_cons_of_mem _ ((hds a).mpr haa))
        rw [hta] at h3
        cases h3
        refine ⟨rfl, ?_⟩
        dsimp only [tYes]
        rw [if_pos rfl]
        refine ⟨_, rfl, _, rfl, b, _, rfl, .inl ⟨kvs, .inr s', .inr ⟨od, sm _ _ hb2⟩, rfl, e2.symm⟩, t, _, _, _, rfl, rfl, SqT.of (sm _ _ ht2), atI_nat (j := 1) rfl, a, oa, kT (rowOf bk s').2, rfl, sm _ _ ha3, ?_⟩
        refine lp_it (walk_values (d := a) (o := oa) (kvs := kT (rowOf bk s').2)) (fun j H' => Same H2 H' ∧ ∃ n, n ≤ 60 * i + j ∧ H' D = some (.lst ((List.replicate n true).map V.bl))) ⟨sm, n, hn, hl⟩ (fun j H' _ z => z.1 _ _ ha3) ?_ ?_
        · rintro j x H8 H9 hj ⟨sm8, n8, hn8, hl8⟩ ⟨rfl, k9, hk9⟩
          rw [kT, List.getElem?_map] at hk9
          obtain ⟨tt, htt, e9⟩ := Option.map_eq_some_iff.mp hk9
          cases e9
          have hg := wr.2.2 tt (List.mem_of_getElem? htt)
          obtain ⟨vg, eg, _⟩ := hR5.look hg
          have lj : j < 60 := by rw [kT, List.length_map] at hj; omega
          have li : i < 60 := by have := wf.len; omega
          refine ⟨rfl, ?_⟩
          rw [if_pos rfl]
          refine ⟨_, rfl, _, rfl, b, _, rfl, .inl ⟨kvs, .inr tt.2, .inr ⟨od, sm8 _ _ hb2⟩, rfl, rfl⟩, _, hl8, by rw [List.length_map, List.length_replicate, sizeLine_eq]; omega, ?_, n8 + 1, by omega, ?_⟩
          · intro c u e
            rw [upd_ne (ne_of_none e hD)]; exact sm8 _ _ e
          · rw [upd_same, eg, ← repl_snoc]; rfl
        · rintro H8 ⟨sm8, n8, hn8, hl8⟩
          refine ⟨sm8, n8, ?_, hl8⟩
          rw [kT, List.length_map] at hn8
          have : (rowOf bk s').2.length ≤ 60 := l60
          omega
      · rintro H6 ⟨sm, n, hn, hl⟩
        exact k2 _ _ sm ⟨D, n, rfl, nDd, hl⟩
    · rintro v H3 ⟨D, n, rfl, nDd, hl⟩ H4 s4 e4
      refine ⟨D, _, rfl, SqL.of (by rw [e4 D nDd]; exact hl), ?_⟩
      rw [all_true]
      exact k H4 (Same.trans s5 s4)
end
end D1
end L2
namespace L2
namespace D1
open PySem PySem.Spec PyProof.Rows
section
variable {P : Program} {w : World} {K : PySem.W.Frag} {mg : Str → Option Value} {base : Heap}
abbrev COrdT (P : Program) (w : World) (K : PySem.W.Frag) (mg : Str → Option Value) (base : Heap) := Cal P w K mg base "ordered_turns" 1 ["turns"] spOrdT
theorem scOb : FnScope ["book", "state"] ["book"] (defScope sOrdB) := ⟨rfl, rfl, rfl, by decide +kernel, rfl, by decide +kernel, by decide +kernel⟩
theorem ok_ordB {f : Addr} {fd : FuncData} (F : Fun K "ordered_book" "ordered_book" sOrdB f fd) (T : Free3 mg) (CT : COrdT P w K mg base) : FnOk P w K mg base CX0 2 f fd ["book"] spOrdB := by
  refine F.ok scOb (fun vs H Q E h => ?_) (fun cdv A outer s H vs Q E hr h => ?_)
  · obtain ⟨a, bk, rfl, _⟩ := h; rfl
  · obtain ⟨b, bk, rfl, ⟨kvs0, hb, hRw⟩, ok, k⟩ := h
    have hu := hu_of hr
    refine ⟨_, pss_one (ps_ret (pe_dc (own := [("state", 1)]) (g := gName 1) (tt := tYes) (tk := tVar 1) (tv := tTup (tCons (tOp (rIxT K) (tDGet (tVar 0) (tVar 1)) (tC (.int 0))) (tCons (tCall spOrdT [] E0 (tCons (tOp (rIxT K) (tDGet (tVar 0) (tVar 1)) (tC (.int 1))) tNil)) tNil))) rfl scOb.nd (pi_list (pe_callB (call_sortedD rfl) (by rfl) T.sorted (by decide +kernel) (pa_cons (pv 0) pa_nil)))
        (blkOk_by (N := ["book", "state"]) (sc := defScope sOrdB) (by decide +kernel)) (fun _ _ _ _ _ => pg_name (i := 1) scOb.nd rfl (Or.inl rfl)) (fun _ _ _ _ _ => pts_nil) (fun _ _ _ _ _ => pv 1)
        (fun _ _ _ _ _ => pe_tup (pa_cons (pe_ix ix_tup (pe_dget hu (pv 0) (pv 1) (fun _ _ => rfl)) pe_int (fun _ _ => rfl)) (pa_cons (pe_cal CT (hr.mono (by decide)) rfl (pa_cons (pe_ix ix_tup (pe_dget hu (pv 0) (pv 1) (fun _ _ => rfl)) pe_int (fun _ _ => rfl)) pa_nil)) pa_nil))))), ?_⟩
    have ek : kvs0.map (·.1) = (bk.map (·.1)).map Sum.inr := by rw [hRw.keys, List.map_map]; rfl
    refine ⟨_, rfl, b, kvs0, bk.map (·.1), rfl, hb, ek, by rw [List.length_map]; exact ok.len, fun ys q pm so hq => ?_⟩
    have ey := srt_of pm so
    have lq : ys.length < 64 := by rw [pm.length_eq, List.length_map]; exact ok.len
    have am : ∀ y ∈ ys, y ∈ bk.map (·.1) := fun y hy => pm.mem_iff.mp hy
    have ndy : ys.Nodup := pm.nodup_iff.mpr ok.nd
    refine ⟨q, rfl, ⟨_, SqL.of upd_same⟩, fun D hD => ?_⟩
    have nqD : q ≠ D := fun e => by rw [← e, upd_same] at hD; cases hD
    have hD0 := upd_none' hD
    refine dc_it (walk_list (K := K) (a := q) (xs := ys.map V.str)) (fun i H' => Same H H' ∧ SL H' q ys ∧ ∃ kvs, H' D = some (.dK kvs) ∧ Rows (cut [D] (newH H H')) kvs ((ys.take i).map fun s => (s, (rowOf bk s).1, ordT (rowOf bk s).2)))
      ⟨fun b u e => by rw [upd_ne (ne_of_none e hD0), upd_ne (ne_of_none e hq)]; exact e, by rw [SL, upd_ne nqD, upd_same], [], upd_same, .nil⟩ (fun i H' _ z => z.2.1.sq) ?_ ?_
    · rintro i v H1 H2 hi ⟨sm, hl, kvs, hk, hR⟩ ⟨rfl, hx⟩
      obtain ⟨z, hz, rfl⟩ := get_map hx
      have hzm := am z (List.mem_of_getElem? hz)
      refine ⟨rfl, ?_⟩
      dsimp only [tYes]
      rw [if_pos rfl]
      have hn : z ∉ ((ys.take i).map fun s => (s, (rowOf bk s).1, ordT (rowOf bk s).2) : Bk).map (·.1) := fun hm => by
        obtain ⟨p1, hp1, e1⟩ := List.mem_map.mp hm
        obtain ⟨p3, hp3, e3⟩ := List.mem_map.mp hp1
        subst e3
        have e1 : p3 = z := e1
        rw [e1] at hp3
        obtain ⟨m, hm1, hm2⟩ := List.mem_take_iff_getElem.mp hp3
        have h1 : ys[m]? = some z := by rw [List.getElem?_eq_getElem (by omega), hm2]
        have := (List.getElem?_inj (by omega) ndy).mp (h1.trans hz.symm)
        omega
      obtain ⟨v, h2, ⟨t, a, rfl, ht, ha⟩, hm⟩ := (hRw.same sm).look hzm
      have rr := ok.rs _ hm
      have hbz : DGet H2 b (V.str z) (some (.ref t)) := .inl ⟨kvs0, .inr z, rd_same hb sm, rfl, h2.symm⟩
      refine ⟨_, rfl, _, rfl, _, rfl, b, _, rfl, hbz, t, _, _, _, rfl, rfl, SqT.of ht, atI_nat (j := 0) rfl, _, rfl, _, rfl, b, _, rfl, hbz, t, _, _, _, rfl, rfl, SqT.of ht, atI_nat (j := 1) rfl, a, _, rfl, ha, rr.1, rr.2, fun H3 R s3 hRn hT => ?_⟩
      refine ⟨by show 2 ≤ sizeLine; decide, fun T1 hT1 => ?_⟩
      have hk3 := Same.new (o := .tup [.str (rowOf bk z).1, .ref R]) hT1 _ _ (s3 _ _ hk)
      have nT1D : T1 ≠ D := fun e => by rw [e, s3 _ _ hk] at hT1; cases hT1
      have nRD : R ≠ D := fun e => by rw [e, hk] at hRn; cases hRn
      have nRT : R ≠ T1 := fun e => by rw [← e, hT] at hT1; cases hT1
      refine ⟨kvs, .inr z, rfl, hk3, ?_, ?_, ?_, _, upd_same, ?_⟩
      · rw [hR.len, List.length_map, List.length_take, sizeLine_eq]; omega
      · intro b u e
        rw [upd_ne (ne_of_none e hD0)]; exact Same.new hT1 _ _ (s3 _ _ (sm _ _ e))
      · rw [SL, upd_ne nqD]; exact Same.new hT1 _ _ (s3 _ _ hl)
      · rw [putK_new (hR.fresh hn), cut_new_upd, take_succ_get hz, List.map_append]
        have oT : H T1 = none := (Same.trans sm s3).free hT1
        have oR : H R = none := sm.free hRn
        refine (hR.same (cut_same (new_same (Same.trans s3 (Same.new hT1))))).app ⟨T1, R, rfl, ?_, ?_⟩
        · rw [cut_out (by simpa using nT1D), new_out oT]; exact upd_same
        · rw [TurnsAt, cut_out (by simpa using nRD), new_out oR, upd_ne nRT]; exact hT
    · rintro H1 ⟨sm, hl, kvs, hk, hR⟩
      refine k H1 D sm hD0 ⟨kvs, by rw [new_out hD0]; exact hk, ?_⟩
      rw [List.length_map, List.take_length, ey] at hR
      exact hR.same cut_le
end
end D1
end L2
namespace L2
namespace D1
open PySem PySem.Spec PyProof.Rows
abbrev sDInit : Stmt := inClass (top 16) 0
abbrev sDEq : Stmt := inClass (top 16) 1
abbrev sDBook : Stmt := inClass (top 16) 2
abbrev sDStart : Stmt := inClass (top 16) 3
abbrev sNeed : Stmt := top 17
theorem kbs : ¬ (("_book" : Str) = "_start") := by decide +kernel
def dflds (b : Addr) (st : Str) : List (Str × V) := putF "_start" (.str st) (putF "_book" (.ref b) [])
theorem dflds_book (b : Addr) (st : Str) : (dflds b st).lookup ("_book" : Str) = some (.ref b) := by
  unfold dflds
  rw [lookup_putF, if_neg kbs, lookup_putF, if_pos rfl]
theorem dflds_start (b : Addr) (st : Str) : (dflds b st).lookup ("_start" : Str) = some (.str st) := by
  unfold dflds
  rw [lookup_putF, if_pos rfl]
theorem dflds_no (b : Addr) (st : Str) {m : Str} (h1 : ¬ m = "_start") (h2 : ¬ m = "_book") : (dflds b st).lookup m = none := by
  unfold dflds
  rw [lookup_putF, if_neg h1, lookup_putF, if_neg h2]
  all_goals rfl
/-- a desk -/
def DeskAt (C : Addr) (H : Hp) (q : Addr) (bk : Bk) (st : Str) : Prop := ∃ dx b, H q = some (.ins C dx (dflds b st)) ∧ BookR H b (ordB bk)
theorem DeskAt.same {C : Addr} {H H' : Hp} {q : Addr} {bk : Bk} {st : Str} (h : DeskAt C H q bk st) (s : Same H H') : DeskAt C H' q bk st := by
  obtain ⟨dx, b, e, r⟩ := h; exact ⟨dx, b, s _ _ e, r.same s⟩
/-- a book and a start that make a desk -/
structure DOk (bk : Bk) (st : Str) : Prop extends BWf bk where
  tk : ∀ r ∈ bk, (r.2.2.map (·.1)).Nodup
  st : st ∈ bk.map (·.1)
theorem DOk.bok {bk : Bk} {st : Str} (h : DOk bk st) : BOk bk := ⟨h.nd, by have := h.len; omega, fun r hr => ⟨h.tk r hr, by have := h.len2 r hr; omega⟩⟩
theorem WF.dok {bk : Bk} {st : Str} {ws : List Str} (h : WF bk st ws) (w : WsOk ws) : DOk bk st := by
  have hw : ∀ x ∈ bk.map (·.1), Wd x := fun x hx => by
    obtain ⟨r, hr, rfl⟩ := List.mem_map.mp hx
    exact (h.rs r hr).1
  have wl := w.hi
  refine { ne := ?_, nd := h.nd, len := ?_, rs := fun r hr => ?_, len2 := fun r hr => ?_, tk := fun r hr => ?_, st := h.st }
  · intro e
    have := h.st
    rw [e] at this; cases this
  · have := h.len; omega
  · obtain ⟨h1, h2⟩ := h.rs r hr
    rcases h2 with ⟨e1, e2⟩ | ⟨e1, e2, e3⟩
    · exact ⟨h1, .inl ⟨e1, e2⟩, by rw [e2]; simp⟩
    · exact ⟨h1, .inr ⟨e1, e2, by have := e3.len; omega, fun t ht => ⟨w.wd _ (e3.ks t ht), hw _ (e3.gs t ht)⟩⟩, fun t ht => e3.gs t ht⟩
  · obtain ⟨h1, h2⟩ := h.rs r hr
    rcases h2 with ⟨e1, e2⟩ | ⟨e1, e2, e3⟩
    · rw [e2]; exact Nat.zero_le _
    · have := e3.len; omega
  · obtain ⟨h1, h2⟩ := h.rs r hr
    rcases h2 with ⟨e1, e2⟩ | ⟨e1, e2, e3⟩
    · rw [e2]; exact List.nodup_nil
    · exact e3.nd
/-- what is asked of the class -/
structure DTxt (K : PySem.W.Frag) (mg : Str → Option Value) (C : Addr) : Prop where
  cl : Cls K C
  nB : NoAttr K C "_book"
  nS : NoAttr K C "_start"
  mgC : mg "Desk" = some (.ref C)
/-- a desk whose book is new -/
def DeskN (C : Addr) (H H' : Hp) (q : Addr) (bk : Bk) (st : Str) : Prop := ∃ dx b, H' q = some (.ins C dx (dflds b st)) ∧ BookR (newH H H') b (ordB bk)
def spDInit (C : Addr) : Sp := fun vs H Q _ => ∃ (q dx b : Addr) (bk : Bk) (st : Str), vs = [.ref q, .ref b, .str st] ∧ H q = some (.ins C dx []) ∧ BookAt H b bk ∧ DOk bk st ∧
  ∀ H', But q H H' → DeskAt C H' q bk st → DeskN C H H' q bk st → Q .non H'
def spDBook (C : Addr) : Sp := fun vs H Q _ => ∃ (q : Addr) (bk : Bk) (st : Str), vs = [.ref q] ∧ DeskAt C H q bk st ∧ DOk bk st ∧ ∀ H' R, Same H H' → H R = none → BookAt H' R (ordB bk) → BookAt (newH H H') R (ordB bk) → Q (.ref R) H'
def spDStart (C : Addr) : Sp := fun vs H Q _ => ∃ (q : Addr) (bk : Bk) (st : Str), vs = [.ref q] ∧ DeskAt C H q bk st ∧ Q (.str st) H
theorem ordB_names (bk : Bk) : (ordB bk).map (·.1) = srt (bk.map (·.1)) := by
  rw [ordB, List.map_map]
  exact List.map_id'' (fun _ => rfl) _
theorem mem_ordB {bk : Bk} (nd : (bk.map (·.1)).Nodup) {r : RowD} : r ∈ ordB bk → ∃ r0 ∈ bk, r.1 = r0.1 ∧ r.2.1 = r0.2.1 ∧ r.2.2 = ordT r0.2.2 := fun h => by
  obtain ⟨s, hs, rfl⟩ := List.mem_map.mp h
  obtain ⟨r0, hr0, e⟩ := List.mem_map.mp ((srt_perm _).mem_iff.mp hs)
  refine ⟨r0, hr0, e.symm, ?_, ?_⟩
  · show (rowOf bk s).1 = _
    rw [← e, rowOf_self nd hr0]
  · show ordT (rowOf bk s).2 = _
    rw [← e, rowOf_self nd hr0]
theorem ordT_nd {ts : List (Str × Str)} (h : (ts.map (·.1)).Nodup) : ((ordT ts).map (·.1)).Nodup := by
  rw [ordT_keys]; exact (srt_perm _).nodup_iff.mpr h
theorem ordT_len (ts : List (Str × Str)) : (ordT ts).length = ts.length := by
  rw [← List.length_map (·.1), ordT_keys, (srt_perm _).length_eq, List.length_map]
theorem ordB_len (bk : Bk) : (ordB bk).length = bk.length := by
  rw [← List.length_map (·.1), ordB_names, (srt_perm _).length_eq, List.length_map]
theorem DOk.obok {bk : Bk} {st : Str} (h : DOk bk st) : BOk (ordB bk) := by
  refine ⟨by rw [ordB_names]; exact (srt_perm _).nodup_iff.mpr h.nd, by rw [ordB_len]; have := h.len; omega, fun r hr => ?_⟩
  obtain ⟨r0, h0, _, _, e⟩ := mem_ordB h.nd hr
  rw [e]
  exact ⟨ordT_nd (h.tk r0 h0), by rw [ordT_len]; have := h.len2 r0 h0; omega⟩
theorem srt_srt (l : List Str) : srt (srt l) = srt l := srt_congr (srt_perm l)
theorem goalT_ordT {ts : List (Str × Str)} {k : Str} (h : k ∈ ts.map (·.1)) : goalT (ordT ts) k = goalT ts k := by
  have hk : k ∈ (ordT ts).map (·.1) := by rw [ordT_keys]; exact (srt_perm _).mem_iff.mpr h
  obtain ⟨t, e, e1, ht⟩ := find_some hk
  obtain ⟨k2, _, rfl⟩ := List.mem_map.mp ht
  have : k2 = k := e1
  subst this
  rw [goalT, e]; rfl
theorem ordT_ordT (ts : List (Str × Str)) : ordT (ordT ts) = ordT ts := by
  show (srt ((ordT ts).map (·.1))).map (fun k => (k, goalT (ordT ts) k)) = _
  rw [ordT_keys, srt_srt]
  refine List.map_congr_left fun k hk => ?_
  rw [goalT_ordT ((srt_perm _).mem_iff.mp hk)]
theorem ordB_ordB {bk : Bk} (nd : (bk.map (·.1)).Nodup) : ordB (ordB bk) = ordB bk := by
  have nd2 : ((ordB bk).map (·.1)).Nodup := by rw [ordB_names]; exact (srt_perm _).nodup_iff.mpr nd
  show (srt ((ordB bk).map (·.1))).map (fun s => (s, (rowOf (ordB bk) s).1, ordT (rowOf (ordB bk) s).2)) = _
  rw [ordB_names, srt_srt]
  refine List.map_congr_left fun s hs => ?_
  have hm : (s, (rowOf bk s).1, ordT (rowOf bk s).2) ∈ ordB bk := List.mem_map.mpr ⟨s, hs, rfl⟩
  have := rowOf_self nd2 hm
  rw [show rowOf (ordB bk) s = ((rowOf bk s).1, ordT (rowOf bk s).2) from this]
  show (s, (rowOf bk s).1, ordT (ordT (rowOf bk s).2)) = _
  rw [ordT_ordT]
theorem updd2 {H : Hp} {a : Addr} {o o' : HO} : L2.upd (L2.upd H a o) a o' = L2.upd H a o' := by
  funext b
  by_cases h : b = a
  · rw [h, upd_same, upd_same]
  · rw [upd_ne h, upd_ne h, upd_ne h]
section
variable {P : Program} {w : World} {K : PySem.W.Frag} {mg : Str → Option Value} {base : Heap}
abbrev CIsBook (P : Program) (w : World) (K : PySem.W.Frag) (mg : Str → Option Value) (base : Heap) := Cal P w K mg base "is_book" 3 ["value"] spIsBook
abbrev CIsState (P : Program) (w : World) (K : PySem.W.Frag) (mg : Str → Option Value) (base : Heap) := Cal P w K mg base "is_state_of" 1 ["book", "value"] spIsState
abbrev COrdB (P : Program) (w : World) (K : PySem.W.Frag) (mg : Str → Option Value) (base : Heap) := Cal P w K mg base "ordered_book" 2 ["book"] spOrdB
theorem scDi : FnScope ["self", "book", "start"] ["self", "book", "start"] (defScope sDInit) := ⟨rfl, rfl, rfl, by decide +kernel, rfl, by decide +kernel, by decide +kernel⟩
theorem ok_dinit {f C : Addr} {fd : FuncData} (F : Fun K "__init__" "Desk.__init__" sDInit f fd) (D : DTxt K mg C) (CB : CIsBook P w K mg base) (CS : CIsState P w K mg base) (CO : COrdB P w K mg base) : FnOk P w K mg base CX0 4 f fd ["self", "book", "start"] (spDInit C) := by
  refine F.ok scDi (fun vs H Q E h => ?_) (fun cdv A outer s H vs Q E hr h => ?_)
  · obtain ⟨q, dx, b, bk, st, rfl, _⟩ := h; rfl
  · obtain ⟨q, dx, b, bk, st, rfl, hq, hb, ok, k⟩ := h
    refine ⟨_, pss_cons (ps_if (pt_not (pt_val (pe_cal CB (hr.mono (by decide)) rfl (pa_cons (pv 1) pa_nil)))) (pss_one ps_never) pss_nil)
      (pss_cons (ps_if (pt_not (pt_val (pe_cal CS (hr.mono (by decide)) rfl (pa_cons (pv 1) (pa_cons (pv 2) pa_nil))))) (pss_one ps_never) pss_nil)
      (pss_cons (ps_fld (pv 0) (pe_cal CO (hr.mono (by decide)) rfl (pa_cons (pv 1) pa_nil)) rfl)
      (pss_one (ps_fld (pv 0) (pv 2) rfl)))), ?_⟩
    refine ⟨_, rfl, b, bk, rfl, hb, ok.toBWf, fun H1 s1 => ⟨_, rfl, iteF ?_⟩⟩
    obtain ⟨kvs, hk1, hR1⟩ := hb.same s1
    obtain ⟨v, ev, _⟩ := hR1.look ok.st
    refine ⟨_, rfl, _, rfl, b, kvs, st, rfl, .inl hk1, by rw [ev]; rfl, ⟨_, rfl, iteF ?_⟩⟩
    refine ⟨_, rfl, b, bk, rfl, (hb.same s1).r, ok.bok, fun H2 R s2 hR hO => ?_⟩
    have s12 := Same.trans s1 s2
    have hq2 := s12 _ _ hq
    have nqR : q ≠ R := ne_of_none (s1 _ _ hq) hR
    refine ⟨_, rfl, q, C, dx, [], rfl, hq2, D.cl, D.nB, (by show 0 < 1000; decide), _, rfl, _, rfl, q, C, dx, _, rfl, upd_same, D.cl, D.nS, (by show 1 < 1000; decide), ?_⟩
    rw [updd2]
    have sN : ∀ o, Same (newH H1 H2) (newH H (L2.upd H2 q o)) := fun o c u e => by
      obtain ⟨n, e⟩ := new_some (new_mono s1 _ _ e)
      rw [new_out n, upd_ne fun z => by rw [z, hq] at n; cases n]; exact e
    refine k _ (fun c u nc e => ?_) ⟨dx, R, upd_same, (hO.same (sN _)).r.same new_le⟩ ⟨dx, R, upd_same, (hO.same (sN _)).r⟩
    rw [upd_ne nc]; exact s12 _ _ e
theorem scDb : FnScope ["self"] ["self"] (defScope sDBook) := ⟨rfl, rfl, rfl, by decide +kernel, rfl, by decide +kernel, by decide +kernel⟩
theorem ok_dbook {f C : Addr} {fd : FuncData} (F : Fun K "book" "Desk.book" sDBook f fd) (D : DTxt K mg C) (CO : COrdB P w K mg base) : FnOk P w K mg base CX0 3 f fd ["self"] (spDBook C) := by
  refine F.ok scDb (fun vs H Q E h => ?_) (fun cdv A outer s H vs Q E hr h => ?_)
  · obtain ⟨q, bk, st, rfl, _⟩ := h; rfl
  · obtain ⟨q, bk, st, rfl, ⟨dx, b, hq, hb⟩, ok, k⟩ := h
    refine ⟨_, pss_one (ps_ret (pe_cal CO (hr.mono (by decide)) rfl (pa_cons (pe_fld (pv 0) rfl) pa_nil))), ?_⟩
    refine ⟨_, rfl, q, C, dx, _, _, rfl, hq, D.cl, D.nB, dflds_book _ _, b, ordB bk, rfl, hb, ok.obok, fun H' R s' hR hO => ?_⟩
    rw [ordB_ordB ok.nd] at hO
    exact k H' R s' hR (hO.same new_le) hO
theorem scDs : FnScope ["self"] ["self"] (defScope sDStart) := ⟨rfl, rfl, rfl, by decide +kernel, rfl, by decide +kernel, by decide +kernel⟩
theorem ok_dstart {f C : Addr} {fd : FuncData} (F : Fun K "start" "Desk.start" sDStart f fd) (D : DTxt K mg C) : FnOk P w K mg base CX0 1 f fd ["self"] (spDStart C) := by
  refine F.ok scDs (fun vs H Q E h => ?_) (fun cdv A outer s H vs Q E hr h => ?_)
  · obtain ⟨q, bk, st, rfl, _⟩ := h; rfl
  · obtain ⟨q, bk, st, rfl, ⟨dx, b, hq, hb⟩, k⟩ := h
    refine ⟨_, pss_one (ps_ret (pe_fld (pv 0) rfl)), ?_⟩
    exact ⟨_, rfl, q, C, dx, _, _, rfl, hq, D.cl, D.nS, dflds_start _ _, k⟩
end
end D1
end L2
namespace L2
namespace D1
open PySem PySem.Spec PyProof.Rows
/-- a method that keeps a promise -/
structure CalM (P : Program) (w : World) (K : PySem.W.Frag) (mg : Str → Option Value) (base : Heap) (C : Addr) (m : Str) (k : Nat) (ps : List Str) (sp : Sp) : Prop where
  ex : ∃ f fd, Meth K C m f ∧ FnOk P w K mg base CX0 k f fd ps sp ∧ Binds K fd ps []
def spNeed (C : Addr) : Sp := fun vs H Q _ => ∃ (q dx : Addr) (fs : List (Str × V)), vs = [.ref q] ∧ H q = some (.ins C dx fs) ∧ Q .non H
/-- a graph's rows -/
def GRows (H : Hp) : List (Key × V) → Bk → Prop := Paired fun kv r => kv.1 = Sum.inr r.1 ∧ ∃ a, kv.2 = .ref a ∧ TurnsAt H a r.2.2
theorem GRows.same {H H' : Hp} {kvs : List (Key × V)} {bk : Bk} (h : GRows H kvs bk) (s : Same H H') : GRows H' kvs bk := by
  unfold GRows at h ⊢
  induction h with
  | nil => exact .nil
  | cons a b ih => obtain ⟨e, c, e2, h3⟩ := a; exact .cons ⟨e, c, e2, h3.same s⟩ ih
theorem GRows.app {H : Hp} {kvs : List (Key × V)} {bk : Bk} {s k : Str} {a : Addr} {ts : List (Str × Str)} (h : GRows H kvs bk) (r : TurnsAt H a ts) : GRows H (kvs ++ [(.inr s, .ref a)]) (bk ++ [(s, k, ts)]) := by
  unfold GRows at h ⊢
  induction h with
  | nil => exact .cons ⟨rfl, a, rfl, r⟩ .nil
  | cons a b ih => exact .cons a ih
theorem GRows.keys {H : Hp} {kvs : List (Key × V)} {bk : Bk} (h : GRows H kvs bk) : kvs.map (·.1) = bk.map fun r => Sum.inr r.1 := by
  unfold GRows at h
  induction h with
  | nil => rfl
  | cons a b ih => rw [List.map_cons, List.map_cons, ih, a.1]
theorem GRows.look {H : Hp} {kvs : List (Key × V)} {bk : Bk} {s : Str} (h : GRows H kvs bk) (m : s ∈ bk.map (·.1)) : ∃ a, valV kvs (.inr s) = some (.ref a) ∧ TurnsAt H a (rowOf bk s).2 := by
  unfold GRows at h
  induction h with
  | nil => cases m
  | @cons x r kvs bk h1 _ ih =>
    obtain ⟨e1, a, e2, h3⟩ := h1
    by_cases e : r.1 = s
    · refine ⟨a, (valV_pos (by rw [e1, e])).trans (congrArg some e2), ?_⟩
      rw [rowOf, List.find?_cons, decide_eq_true e]; exact h3
    · have m' : s ∈ bk.map (·.1) := by
        rcases List.mem_cons.mp m with z | z
        · exact absurd z.symm e
        · exact z
      obtain ⟨a', h4, h5⟩ := ih m'
      have er : rowOf (r :: bk) s = rowOf bk s := by rw [rowOf, List.find?_cons, decide_eq_false e]; rfl
      exact ⟨a', by rw [valV_neg (by rw [e1]; exact fun z => e (Sum.inr.inj z))]; exact h4, by rw [er]; exact h5⟩
def GraphAt (H : Hp) (g : Addr) (bk : Bk) : Prop := ∃ kvs, H g = some (.dK kvs) ∧ GRows H kvs bk
theorem GraphAt.same {H H' : Hp} {g : Addr} {bk : Bk} (h : GraphAt H g bk) (s : Same H H') : GraphAt H' g bk := by
  obtain ⟨kvs, e, r⟩ := h; exact ⟨kvs, s _ _ e, r.same s⟩
theorem rowOf_ord {bk : Bk} (nd : (bk.map (·.1)).Nodup) {s : Str} (h : s ∈ bk.map (·.1)) : rowOf (ordB bk) s = ((rowOf bk s).1, ordT (rowOf bk s).2) := by
  have nd2 : ((ordB bk).map (·.1)).Nodup := by rw [ordB_names]; exact (srt_perm _).nodup_iff.mpr nd
  have hm : (s, (rowOf bk s).1, ordT (rowOf bk s).2) ∈ ordB bk := List.mem_map.mpr ⟨s, (srt_perm _).mem_iff.mpr h, rfl⟩
  exact rowOf_self nd2 hm
theorem row_mem {bk : Bk} {s : Str} (h : s ∈ bk.map (·.1)) : (s, rowOf bk s) ∈ bk := by
  obtain ⟨r, hr, e⟩ := List.mem_map.mp h
  cases z : bk.find? fun r => decide (r.1 = s) with
  | none => exact absurd (decide_eq_true e) (List.find?_eq_none.mp z r hr)
  | some u =>
    have e1 : u.1 = s := of_decide_eq_true (by have := List.find?_some z; exact this)
    have : rowOf bk s = u.2 := by rw [rowOf, z]; rfl
    rw [this, ← e1]
    exact List.mem_of_find?_eq_some z
section
variable {P : Program} {w : World} {K : PySem.W.Frag} {mg : Str → Option Value} {base : Heap}
theorem scNd : FnScope ["desk"] ["desk"] (defScope sNeed) := ⟨rfl, rfl, rfl, by decide +kernel, rfl, by decide +kernel, by decide +kernel⟩
theorem ok_need {f C : Addr} {fd : FuncData} (F : Fun K "need_desk" "need_desk" sNeed f fd) (T : Free3 mg) (D : DTxt K mg C) (c : C8.InsC K C) : FnOk P w K mg base CX0 1 f fd ["desk"] (spNeed C) := by
  refine F.ok scNd (fun vs H Q E h => ?_) (fun cdv A outer s H vs Q E hr h => ?_)
  · obtain ⟨q, dx, fs, rfl, _⟩ := h; rfl
  · obtain ⟨q, dx, fs, rfl, hq, k⟩ := h
    refine ⟨_, pss_one (ps_if (pt_not (pt_val (pe_callB (C8.call_isC c) (by rfl) T.isi (by decide +kernel) (pa_cons (pv 0) (pa_cons (pe_glob (v := .ref C) rfl D.mgC rfl) pa_nil))))) (pss_one ps_never) pss_nil), ?_⟩
    exact ⟨_, rfl, q, dx, fs, rfl, hq, _, rfl, iteF k⟩
end
end D1
end L2
namespace L2
namespace D1
open PySem PySem.Spec PyProof.Rows
theorem Rows.at {H : Hp} {kvs : List (Key × V)} {bk : Bk} (h : Rows H kvs bk) : ∀ {i : Nat} {k : Key} {v : V}, kvs[i]? = some (k, v) → ∃ r, bk[i]? = some r ∧ k = Sum.inr r.1 ∧ RowAt H v r.2.1 r.2.2 := by
  unfold Rows at h
  induction h with
  | nil => intro i k v e; simp at e
  | @cons x r kvs bk h1 _ ih =>
    intro i k v e
    cases i with
    | zero => cases e; exact ⟨r, rfl, h1.1, h1.2⟩
    | succ i => exact ih e
theorem DOk.ond {bk : Bk} {st : Str} (h : DOk bk st) : ((ordB bk).map (·.1)).Nodup := by rw [ordB_names]; exact (srt_perm _).nodup_iff.mpr h.nd
theorem ordB_ne {bk : Bk} (h : bk ≠ []) : ordB bk ≠ [] := fun e => by
  have := ordB_len bk
  rw [e] at this
  exact h (List.length_eq_zero_iff.mp this.symm)
section
variable {P : Program} {w : World} {K : PySem.W.Frag} {mg : Str → Option Value} {base : Heap} {C : Addr}
abbrev CMBook (P : Program) (w : World) (K : PySem.W.Frag) (mg : Str → Option Value) (base : Heap) (C : Addr) := CalM P w K mg base C "book" 3 ["self"] (spDBook C)
abbrev CMStart (P : Program) (w : World) (K : PySem.W.Frag) (mg : Str → Option Value) (base : Heap) (C : Addr) := CalM P w K mg base C "start" 1 ["self"] (spDStart C)
abbrev CNeed (P : Program) (w : World) (K : PySem.W.Frag) (mg : Str → Option Value) (base : Heap) (C : Addr) := Cal P w K mg base "need_desk" 1 ["desk"] (spNeed C)
end
end D1
end L2
namespace L2
namespace D1
open PySem PySem.Spec PyProof.Rows
inductive Leaf : V → Prop
  | non : Leaf .non
  | bl (b : Bool) : Leaf (.bl b)
  | str (x : Str) : Leaf (.str x)
  | int (i : Int) : Leaf (.int i)
/-- alike data, at most n deep -/
def EqX : Nat → Hp → V → V → Prop
  | 0, _, x, y => Leaf x ∧ y = x
  | n + 1, H, x, y => EqX n H x y ∨ (∃ a b xs ys, x = .ref a ∧ y = .ref b ∧ H a = some (.lst xs) ∧ H b = some (.lst ys) ∧ xs.length ≤ 10000 ∧ Paired (EqX n H) xs ys) ∨
      (∃ a b xs ys, x = .ref a ∧ y = .ref b ∧ H a = some (.tup xs) ∧ H b = some (.tup ys) ∧ xs.length ≤ 10000 ∧ Paired (EqX n H) xs ys) ∨
      (1 ≤ n ∧ ∃ (a b : Addr) (ks ls : List (Key × V)) (ss : List Str), x = .ref a ∧ y = .ref b ∧ H a = some (.dK ks) ∧ H b = some (.dK ls) ∧ ks.map (·.1) = ss.map Sum.inr ∧ ls.map (·.1) = ss.map Sum.inr ∧ ss.Nodup ∧ ss.length ≤ 10000 ∧ Paired (fun p q => EqX n (cut [a] H) p.2 q.2) ks ls)
theorem paired_imp {α β : Type} {R R' : α → β → Prop} (h : ∀ a b, R a b → R' a b) : ∀ {xs : List α} {ys : List β}, Paired R xs ys → Paired R' xs ys
  | _, _, .nil => .nil
  | _, _, .cons a b => .cons (h _ _ a) (paired_imp h b)
theorem paired_at {α β : Type} {R : α → β → Prop} : ∀ {xs : List α} {ys : List β} {i : Nat} {x : α} {y : β}, Paired R xs ys → xs[i]? = some x → ys[i]? = some y → R x y
  | _, _, i, x, y, .nil, h, _ => by simp at h
  | _, _, 0, x, y, .cons a _, h1, h2 => by cases h1; cases h2; exact a
  | _, _, i + 1, x, y, .cons _ b, h1, h2 => paired_at (i := i) b h1 h2
theorem paired_len {α β : Type} {R : α → β → Prop} : ∀ {xs : List α} {ys : List β}, Paired R xs ys → xs.length = ys.length
  | _, _, .nil => rfl
  | _, _, .cons _ b => by rw [List.length_cons, List.length_cons, paired_len b]
theorem EqX.same : ∀ (n : Nat) {H H' : Hp} {x y : V}, Same H H' → EqX n H x y → EqX n H' x y
  | 0, _, _, _, _, _, h => h
  | n + 1, H, H', x, y, s, h => by
    rcases h with h | ⟨a, b, xs, ys, h1, h2, h3, h4, h5, h6⟩ | ⟨a, b, xs, ys, h1, h2, h3, h4, h5, h6⟩ | ⟨h0, a, b, ks, ls, ss, h1, h2, h3, h4, h5, h6, h7, h8, h9⟩
    · exact .inl (EqX.same n s h)
    · exact .inr (.inl ⟨a, b, xs, ys, h1, h2, s _ _ h3, s _ _ h4, h5, paired_imp (fun _ _ => EqX.same n s) h6⟩)
    · exact .inr (.inr (.inl ⟨a, b, xs, ys, h1, h2, s _ _ h3, s _ _ h4, h5, paired_imp (fun _ _ => EqX.same n s) h6⟩))
    · exact .inr (.inr (.inr ⟨h0, a, b, ks, ls, ss, h1, h2, s _ _ h3, s _ _ h4, h5, h6, h7, h8, paired_imp (fun _ _ => EqX.same n (cut_same s)) h9⟩))
theorem EqX.up {H : Hp} {m n : Nat} {x y : V} (h : EqX m H x y) (l : m ≤ n) : EqX n H x y := by
  induction l with
  | refl => exact h
  | step _ ih => exact .inl ih
theorem eqx_str {H : Hp} {n : Nat} (x : Str) : EqX n H (.str x) (.str x) := EqX.up (m := 0) ⟨.str x, rfl⟩ (Nat.zero_le _)
theorem eqx_strs {H : Hp} {n : Nat} : ∀ ss : List Str, Paired (EqX n H) (ss.map V.str) (ss.map V.str)
  | [] => .nil
  | x :: r => .cons (eqx_str x) (eqx_strs r)
abbrev sExact : Stmt := top 35
def spExact (n : Nat) : Sp := fun vs H Q _ => ∃ x y, vs = [x, y] ∧ EqX n H x y ∧ ∀ H', Same H H' → Q (.bl true) H'
def spDeep (n : Nat) : Sp := fun vs H Q _ => ∃ x y, vs = [x, y] ∧ ((∃ a b xs ys, x = .ref a ∧ y = .ref b ∧ H a = some (.lst xs) ∧ H b = some (.lst ys) ∧ xs.length ≤ 10000 ∧ Paired (EqX n H) xs ys) ∨
      (∃ a b xs ys, x = .ref a ∧ y = .ref b ∧ H a = some (.tup xs) ∧ H b = some (.tup ys) ∧ xs.length ≤ 10000 ∧ Paired (EqX n H) xs ys) ∨
      (1 ≤ n ∧ ∃ (a b : Addr) (ks ls : List (Key × V)) (ss : List Str), x = .ref a ∧ y = .ref b ∧ H a = some (.dK ks) ∧ H b = some (.dK ls) ∧ ks.map (·.1) = ss.map Sum.inr ∧ ls.map (·.1) = ss.map Sum.inr ∧ ss.Nodup ∧ ss.length ≤ 10000 ∧ Paired (fun p q => EqX n (cut [a] H) p.2 q.2) ks ls)) ∧ ∀ H', Same H H' → Q (.bl true) H'
theorem fnok_or {P : Program} {w : World} {K : PySem.W.Frag} {mg : Str → Option Value} {base : Heap} {k : Nat} {f : Addr} {fd : FuncData} {ps : List Str} {sp sp1 sp2 : Sp} (h1 : FnOk P w K mg base CX0 k f fd ps sp1) (h2 : FnOk P w K mg base CX0 k f fd ps sp2)
    (h : ∀ vs H Q E, sp vs H Q E → sp1 vs H Q E ∨ sp2 vs H Q E) : FnOk P w K mg base CX0 k f fd ps sp :=
  ⟨fun vs H Q E q => (h vs H Q E q).elim (h1.len vs H Q E) (h2.len vs H Q E), fun A outer s H args us vs Q E hr he hb hv hs => (h _ _ _ _ hs).elim (fun q => h1.run A outer s H args us vs Q E hr he hb hv q) fun q => h2.run A outer s H args us vs Q E hr he hb hv q⟩
theorem val_at {kvs : List (Key × V)} (nd : (kvs.map (·.1)).Nodup) : ∀ {i : Nat} {k : Key} {v : V}, kvs[i]? = some (k, v) → valV kvs k = some v := by
  induction kvs with
  | nil => intro i k v e; simp at e
  | cons p r ih =>
    intro i k v e
    have nd' := List.nodup_cons.mp nd
    cases i with
    | zero => cases e; exact valV_pos (p := (k, v)) rfl
    | succ i =>
      rw [valV_neg fun z => nd'.1 (List.mem_map.mpr ⟨(k, v), List.mem_of_getElem? e, z.symm⟩)]
      exact ih nd'.2 e
theorem inr_nd' {l : List Str} (h : l.Nodup) : (l.map (Sum.inr : Str → Key)).Nodup := by
  induction l with
  | nil => exact List.nodup_nil
  | cons a r ih =>
    have h' := List.nodup_cons.mp h
    refine List.nodup_cons.mpr ⟨fun z => ?_, ih h'.2⟩
    obtain ⟨b, hb, e⟩ := List.mem_map.mp z
    exact h'.1 (by rw [← Sum.inr.inj e]; exact hb)
theorem walk_zipT {K : PySem.W.Frag} {a b : Addr} {xs ys : List V} {n : Nat} (hn : n = min xs.length ys.length) : Walk (RZ.ItzT K a b) n (fun H => SqT K H a xs ∧ SqT K H b ys) (YPair (fun i => xs[i]?) (fun i => ys[i]?)) := by
  subst hn
  refine ⟨fun i H hi q => ?_, fun H q => ⟨xs, ys, q.1, q.2, by omega⟩, fun i H v H' hi q y => ?_⟩
  · have h1 : i < xs.length := by omega
    have h2 : i < ys.length := by omega
    exact ⟨xs, ys, xs[i], ys[i], q.1, q.2, by simp [h1], by simp [h2]⟩
  · obtain ⟨T, x, z, h1, h2, h3, h4, h5⟩ := y
    exact ⟨T, x, z, h1, h2, h3, h4 xs q.1, h5 ys q.2⟩
theorem kitTwo {K : PySem.W.Frag} {t : String} {b1 b2 : Bool} (h1 : kitB t "list" = some b1) (h2 : kitB t "tuple" = some b2) : PySem.W.kitAny K (.type t) [.type "list", .type "tuple"] = some (b1 || b2) := by
  refine kitAny_cons (kit_ty h1) (fun e => ?_) (fun e => by rw [e]; rfl)
  rw [e]
  exact kitAny_cons (kit_ty h2) (fun e2 => by rw [e2]; exact kitAny_nil) (fun e2 => by rw [e2]; rfl)
theorem leaf_ty {x : V} (lx : Leaf x) : ∃ (t : String) (b : Bool), (∀ (K : PySem.W.Frag) (H : Hp), TyX K H x (.type t)) ∧ kitB t "list" = some false ∧ kitB t "tuple" = some false ∧ kitB t "dict" = some false ∧ kitB t "bool" = some b := by
  cases lx with
  | non => exact ⟨"NoneType", _, fun _ _ => .base .non, by decide +kernel, by decide +kernel, by decide +kernel, (by decide +kernel : kitB "NoneType" "bool" = some false)⟩
  | bl v => exact ⟨"bool", _, fun _ _ => .base (.bl v), by decide +kernel, by decide +kernel, by decide +kernel, (by decide +kernel : kitB "bool" "bool" = some true)⟩
  | str v => exact ⟨"str", _, fun _ _ => .base (.str v), by decide +kernel, by decide +kernel, by decide +kernel, (by decide +kernel : kitB "str" "bool" = some false)⟩
  | int v => exact ⟨"int", _, fun _ _ => .base (.int v), by decide +kernel, by decide +kernel, by decide +kernel, (by decide +kernel : kitB "int" "bool" = some false)⟩
section
variable {P : Program} {w : World} {K : PySem.W.Frag} {mg : Str → Option Value} {base : Heap}
theorem scEx : FnScope ["_law_mine", "_law_theirs", "_law_alike", "_law_a", "_law_b", "_law_key"] ["_law_mine", "_law_theirs"] (defScope sExact) := ⟨rfl, rfl, rfl, by decide +kernel, rfl, by decide +kernel, by decide +kernel⟩
theorem ok_exact {f : Addr} {fd : FuncData} (F : Fun K "_law_exact" "_law_exact" sExact f fd) (T : Free3 mg) (gE : mg "_law_exact" = some (.ref f)) (bE : Binds K fd ["_law_mine", "_law_theirs"] []) : ∀ n : Nat, FnOk P w K mg base CX0 (n + 1) f fd ["_law_mine", "_law_theirs"] (spExact n) := by
  intro n
  induction n with
  | zero =>
    refine F.ok scEx (fun vs H Q E h => ?_) (fun cdv A outer s H vs Q E hr h => ?_)
    · obtain ⟨x, y, rfl, _⟩ := h; rfl
    · obtain ⟨x, y, rfl, ⟨lx, e⟩, k⟩ := h
      have e := e.symm
      subst e
      have hu := hu_of hr
      refine ⟨_, pss_cons (ps_if (pt_val (pe_callB call_isiT (by rfl) T.isi (by decide +kernel) (pa_cons (pv 0) (pa_cons (pe_tup (pa_cons (pe_bltn (v := .ty "list") rfl T.list (by decide +kernel) rfl) (pa_cons (pe_bltn (v := .ty "tuple") rfl T.tuple (by decide +kernel) rfl) pa_nil))) pa_nil)))) pss_never pss_nil)
        (pss_cons (ps_if (pt_val (pe_callB call_isi (by rfl) T.isi (by decide +kernel) (pa_cons (pv 0) (pa_cons (pe_bltn (v := .ty "dict") rfl T.dict (by decide +kernel) rfl) pa_nil)))) pss_never pss_nil)
        (pss_one (ps_ret (pe_and (pe_cmpR op_eq (pe_callB call_isi (by rfl) T.isi (by decide +kernel) (pa_cons (pv 0) (pa_cons (pe_bltn (v := .ty "bool") rfl T.bool (by decide +kernel) rfl) pa_nil))) (pe_callB call_isi (by rfl) T.isi (by decide +kernel) (pa_cons (pv 1) (pa_cons (pe_bltn (v := .ty "bool") rfl T.bool (by decide +kernel) rfl) pa_nil))) (nomark _)) (pe_one (pe_cmpR op_eq (pv 0) (pv 1) (nomark _))))))), ?_⟩
      obtain ⟨t, b, ty, e1, e2, e3, e4⟩ := leaf_ty lx
      refine ⟨_, rfl, by show 2 ≤ sizeLine; decide, fun T1 hT1 => ?_⟩
      refine ⟨x, T1, [.ty "list", .ty "tuple"], .type t, [.type "list", .type "tuple"], false, rfl, upd_same, .cons (.ty _) (.cons (.ty _) .nil), ty _ _, kitTwo e1 e2, _, rfl, iteF ?_⟩
      refine ⟨_, rfl, _, .ty "dict", .type t, .type "dict", false, rfl, .ty _, ty _ _, kit_ty e3, _, rfl, iteF ?_⟩
      refine ⟨_, rfl, _, .ty "bool", .type t, .type "bool", b, rfl, .ty _, ty _ _, kit_ty e4, _, rfl, _, .ty "bool", .type t, .type "bool", b, rfl, .ty _, ty _ _, kit_ty e4, rfl, _, rfl, ?_⟩
      rw [decide_eq_true rfl]
      refine iteT ⟨_, rfl, _, rfl, by cases lx <;> rfl, ?_⟩
      rw [decide_eq_true rfl]
      exact k _ (Same.new hT1)
  | succ n ih =>
    have CE : Cal P w K mg base "_law_exact" (n + 1) ["_law_mine", "_law_theirs"] (spExact n) := Cal.of gE F.kp ih bE
    have deep : FnOk P w K mg base CX0 (n + 2) f fd ["_law_mine", "_law_theirs"] (spDeep n) := by
     refine F.ok scEx (fun vs H Q E h => ?_) (fun cdv A outer s H vs Q E hr h => ?_)
     · obtain ⟨x, y, rfl, _⟩ := h; rfl
     · obtain ⟨x, y, rfl, hx, k⟩ := h
       have hu := hu_of hr
       refine ⟨_, pss_cons (ps_if (pt_val (pe_callB call_isiT (by rfl) T.isi (by decide +kernel) (pa_cons (pv 0) (pa_cons (pe_tup (pa_cons (pe_bltn (v := .ty "list") rfl T.list (by decide +kernel) rfl) (pa_cons (pe_bltn (v := .ty "tuple") rfl T.tuple (by decide +kernel) rfl) pa_nil))) pa_nil)))) (pss_cons (ps_set (i := 2) scEx.nd rfl (Or.inl rfl) (pe_and (pe_cmpR op_eq (pe_callB call_isi (by rfl) T.isi (by decide +kernel) (pa_cons (pv 1) (pa_cons (pe_bltn (v := .ty "list") rfl T.list (by decide +kernel) rfl) pa_nil))) (pe_callB call_isi (by rfl) T.isi (by decide +kernel) (pa_cons (pv 0) (pa_cons (pe_bltn (v := .ty "list") rfl T.list (by decide +kernel) rfl) pa_nil))) (nomark _)) (pe_one (pe_cmpR op_eq (pe_callB call_isi (by rfl) T.isi (by decide +kernel) (pa_cons (pv 1) (pa_cons (pe_bltn (v := .ty "tuple") rfl T.tuple (by decide +kernel) rfl) pa_nil))) (pe_callB call_isi (by rfl) T.isi (by decide +kernel) (pa_cons (pv 0) (pa_cons (pe_bltn (v := .ty "tuple") rfl T.tuple (by decide +kernel) rfl) pa_nil))) (nomark _)))))
           (pss_one (ps_ret (pe_and (pv 2) (pe_and (pe_cmpR op_eq (pe_callB call_len_seq (by rfl) T.len PySem.boot_len (pa_cons (pv 0) pa_nil)) (pe_callB call_len_seq (by rfl) T.len PySem.boot_len (pa_cons (pv 1) pa_nil)) (nomark _)) (pe_one (pe_callB (cr_all rfl) (by rfl) T.all (by decide +kernel) (pa_cons (pe_lc (own := [("_law_a", 3), ("_law_b", 4)]) (g := gTup K 2 (gCons (gName 3) (gCons (gName 4) gNil))) (tt := tYes) (te := tCall (spExact n) [] E0 (tCons (tVar 3) (tCons (tVar 4) tNil))) rfl scEx.nd (RZ.pi_zipA (by rfl) T.zip (pa_cons (pv 0) (pa_cons (pv 1) pa_nil)))
             (blkOk_by (N := ["_law_mine", "_law_theirs", "_law_alike", "_law_a", "_law_b", "_law_key"]) (sc := defScope sExact) (by decide +kernel)) (fun _ _ _ _ _ => pg_tup rfl (pgs_cons (pg_name (i := 3) scEx.nd rfl (Or.inl rfl)) (pgs_cons (pg_name (i := 4) scEx.nd rfl (Or.inl rfl)) pgs_nil))) (fun _ _ _ _ _ => pts_nil)
             (fun _ _ _ _ _ => pe_cal CE (hr.mono (by omega)) rfl (pa_cons (pv 3) (pa_cons (pv 4) pa_nil)))) pa_nil)))))))) pss_nil)
         (pss_cons (ps_if (pt_val (pe_callB call_isi (by rfl) T.isi (by decide +kernel) (pa_cons (pv 0) (pa_cons (pe_bltn (v := .ty "dict") rfl T.dict (by decide +kernel) rfl) pa_nil)))) (pss_cons (ps_set (i := 2) scEx.nd rfl (Or.inl rfl) (pe_and (pe_callB call_isi (by rfl) T.isi (by decide +kernel) (pa_cons (pv 1) (pa_cons (pe_bltn (v := .ty "dict") rfl T.dict (by decide +kernel) rfl) pa_nil))) (pe_one (pe_cal CE (hr.mono (by omega)) rfl (pa_cons (pe_callTy (call_listD rfl) (by rfl) T.list (by decide +kernel) (pa_cons (pv 0) pa_nil)) (pa_cons (pe_callTy (call_listD rfl) (by rfl) T.list (by decide +kernel) (pa_cons (pv 1) pa_nil)) pa_nil))))))
           (pss_one (ps_ret (pe_and (pv 2) (pe_one (pe_callB (cr_all rfl) (by rfl) T.all (by decide +kernel) (pa_cons (pe_lock (pe_lc (own := [("_law_key", 5)]) (g := gName 5) (tt := tYes) (te := tCall (spExact n) [] E0 (tCons (tDGet (tVar 0) (tVar 5)) (tCons (tDGet (tVar 1) (tVar 5)) tNil))) rfl scEx.nd (pi_keys (pv 0))
             (blkOk_by (N := ["_law_mine", "_law_theirs", "_law_alike", "_law_a", "_law_b", "_law_key"]) (sc := defScope sExact) (by decide +kernel)) (fun _ _ _ _ _ => pg_name (i := 5) scEx.nd rfl (Or.inl rfl)) (fun _ _ _ _ _ => pts_nil)
             (fun _ _ _ _ _ => pe_cal CE (hr.mono (by omega)) rfl (pa_cons (pe_dget hu (pv 0) (pv 5) (fun _ _ => rfl)) (pa_cons (pe_dget hu (pv 1) (pv 5) (fun _ _ => rfl)) pa_nil))))) pa_nil))))))) pss_nil)
         pss_never), ?_⟩
       rcases hx with ⟨a, b, xs, ys, rfl, rfl, ha, hb, l0, hp⟩ | ⟨a, b, xs, ys, rfl, rfl, ha, hb, l0, hp⟩ | ⟨h1n, a, b, ks, ls, ss, rfl, rfl, ha, hb, e1, e2, nd, l0, hp⟩
       · refine ⟨_, rfl, by show 2 ≤ sizeLine; decide, fun T1 hT1 => ?_⟩
         have ha1 := Same.new (o := .tup [.ty "list", .ty "tuple"]) hT1 _ _ ha
         have hb1 := Same.new (o := .tup [.ty "list", .ty "tuple"]) hT1 _ _ hb
         have hp1 := paired_imp (fun _ _ => EqX.same n (Same.new (o := .tup [.ty "list", .ty "tuple"]) hT1)) hp
         have s1 := Same.new (o := .tup [.ty "list", .ty "tuple"]) hT1
         refine ⟨.ref a, T1, [.ty "list", .ty "tuple"], .type "list", [.type "list", .type "tuple"], true, rfl, upd_same, .cons (.ty _) (.cons (.ty _) .nil), .base (.lst (by assumption)), kitTwo (b1 := true) (b2 := false) (by decide +kernel) (by decide +kernel), _, rfl, iteT ?_⟩
         generalize L2.upd H T1 (.tup [.ty "list", .ty "tuple"]) = H1 at ha1 hb1 hp1 s1
         refine ⟨_, rfl, _, .ty "list", .type "list", .type "list", true, rfl, .ty _, .base (.lst (by assumption)), kit_ty (by decide +kernel), _, rfl, _, .ty "list", .type "list", .type "list", true, rfl, .ty _, .base (.lst (by assumption)), kit_ty (by decide +kernel), rfl, _, rfl, ?_⟩
         refine iteT ⟨_, rfl, _, .ty "tuple", .type "list", .type "tuple", false, rfl, .ty _, .base (.lst (by assumption)), kit_ty (by decide +kernel), _, rfl, _, .ty "tuple", .type "list", .type "tuple", false, rfl, .ty _, .base (.lst (by assumption)), kit_ty (by decide +kernel), rfl, ?_⟩
         refine ⟨_, rfl, _, rfl, iteT ⟨_, rfl, a, xs, rfl, .inl (SqL.of ha1), _, rfl, b, ys, rfl, .inl (SqL.of hb1), rfl, _, rfl, ?_⟩⟩
         have le := paired_len hp
         rw [le, decide_eq_true rfl]
         refine iteT ⟨_, rfl, _, rfl, a, b, xs, ys, rfl, .inl ⟨SqL.of ha1, SqL.of hb1, fun D hD => ?_⟩⟩
         refine lc_it (walk_zip (K := K) (a := a) (b := b) (xs := xs) (ys := ys) (n := xs.length) (by omega)) (fun i H' => Same H1 H' ∧ H' D = some (.lst ((List.replicate i true).map V.bl))) ⟨Same.new hD, upd_same⟩ (fun i H' _ z => ⟨SqL.of (z.1 _ _ ha1), SqL.of (z.1 _ _ hb1)⟩) ?_ ?_
         · rintro i v H2 H3 hi ⟨sm, hl⟩ ⟨T2, x, y, rfl, hT2, rfl, ex, ey⟩
           have exy := paired_at hp1 ex ey
           have nDT : D ≠ T2 := ne_of_none hl hT2
           refine ⟨T2, _, rfl, SqT.of upd_same, rfl, _, _, rfl, _, _, rfl, rfl, rfl, ?_⟩
           dsimp only [tYes]
           rw [if_pos rfl]
           refine ⟨_, rfl, _, rfl, x, y, rfl, EqX.same n (fun c u e => Same.new hT2 _ _ (sm _ _ e)) exy, fun H4 s4 => ?_⟩
           refine ⟨_, s4 _ _ (by rw [upd_ne nDT]; exact hl), by rw [List.length_map, List.length_replicate, sizeLine_eq]; omega, fun c u e => ?_, by rw [upd_same, repl_snoc]⟩
           rw [upd_ne (ne_of_none e hD)]; exact s4 _ _ (Same.new hT2 _ _ (sm _ _ e))
         · rintro H2 ⟨sm, hl⟩
           refine ⟨D, _, rfl, SqL.of hl, ?_⟩
           rw [all_true]
           exact k H2 (Same.trans s1 sm)
       · refine ⟨_, rfl, by show 2 ≤ sizeLine; decide, fun T1 hT1 => ?_⟩
         have ha1 := Same.new (o := .tup [.ty "list", .ty "tuple"]) hT1 _ _ ha
         have hb1 := Same.new (o := .tup [.ty "list", .ty "tuple"]) hT1 _ _ hb
         have hp1 := paired_imp (fun _ _ => EqX.same n (Same.new (o := .tup [.ty "list", .ty "tuple"]) hT1)) hp
         have s1 := Same.new (o := .tup [.ty "list", .ty "tuple"]) hT1
         refine ⟨.ref a, T1, [.ty "list", .ty "tuple"], .type "tuple", [.type "list", .type "tuple"], true, rfl, upd_same, .cons (.ty _) (.cons (.ty _) .nil), .base (.tup (by assumption)), kitTwo (b1 := false) (b2 := true) (by decide +kernel) (by decide +kernel), _, rfl, iteT ?_⟩
         generalize L2.upd H T1 (.tup [.ty "list", .ty "tuple"]) = H1 at ha1 hb1 hp1 s1
         refine ⟨_, rfl, _, .ty "list", .type "tuple", .type "list", false, rfl, .ty _, .base (.tup (by assumption)), kit_ty (by decide +kernel), _, rfl, _, .ty "list", .type "tuple", .type "list", false, rfl, .ty _, .base (.tup (by assumption)), kit_ty (by decide +kernel), rfl, _, rfl, ?_⟩
         refine iteT ⟨_, rfl, _, .ty "tuple", .type "tuple", .type "tuple", true, rfl, .ty _, .base (.tup (by assumption)), kit_ty (by decide +kernel), _, rfl, _, .ty "tuple", .type "tuple", .type "tuple", true, rfl, .ty _, .base (.tup (by assumption)), kit_ty (by decide +kernel), rfl, ?_⟩
         refine ⟨_, rfl, _, rfl, iteT ⟨_, rfl, a, xs, rfl, .inr (SqT.of ha1), _, rfl, b, ys, rfl, .inr (SqT.of hb1), rfl, _, rfl, ?_⟩⟩
         have le := paired_len hp
         rw [le, decide_eq_true rfl]
         refine iteT ⟨_, rfl, _, rfl, a, b, xs, ys, rfl, .inr ⟨SqT.of ha1, SqT.of hb1, fun D hD => ?_⟩⟩
         refine lc_it (walk_zipT (K := K) (a := a) (b := b) (xs := xs) (ys := ys) (n := xs.length) (by omega)) (fun i H' => Same H1 H' ∧ H' D = some (.lst ((List.replicate i true).map V.bl))) ⟨Same.new hD, upd_same⟩ (fun i H' _ z => ⟨SqT.of (z.1 _ _ ha1), SqT.of (z.1 _ _ hb1)⟩) ?_ ?_
         · rintro i v H2 H3 hi ⟨sm, hl⟩ ⟨T2, x, y, rfl, hT2, rfl, ex, ey⟩
           have exy := paired_at hp1 ex ey
           have nDT : D ≠ T2 := ne_of_none hl hT2
           refine ⟨T2, _, rfl, SqT.of upd_same, rfl, _, _, rfl, _, _, rfl, rfl, rfl, ?_⟩
           dsimp only [tYes]
           rw [if_pos rfl]
           refine ⟨_, rfl, _, rfl, x, y, rfl, EqX.same n (fun c u e => Same.new hT2 _ _ (sm _ _ e)) exy, fun H4 s4 => ?_⟩
           refine ⟨_, s4 _ _ (by rw [upd_ne nDT]; exact hl), by rw [List.length_map, List.length_replicate, sizeLine_eq]; omega, fun c u e => ?_, by rw [upd_same, repl_snoc]⟩
           rw [upd_ne (ne_of_none e hD)]; exact s4 _ _ (Same.new hT2 _ _ (sm _ _ e))
         · rintro H2 ⟨sm, hl⟩
           refine ⟨D, _, rfl, SqL.of hl, ?_⟩
           rw [all_true]
           exact k H2 (Same.trans s1 sm)
       · refine ⟨_, rfl, by show 2 ≤ sizeLine; decide, fun T1 hT1 => ?_⟩
         have s1 := Same.new (o := .tup [.ty "list", .ty "tuple"]) hT1
         have ha1 := s1 _ _ ha
         have hb1 := s1 _ _ hb
         have hp1 := paired_imp (fun _ _ => EqX.same n (cut_same s1)) hp
         refine ⟨.ref a, T1, [.ty "list", .ty "tuple"], .type "dict", [.type "list", .type "tuple"], false, rfl, upd_same, .cons (.ty _) (.cons (.ty _) .nil), .base (.dK ha1), kitTwo (b1 := false) (b2 := false) (by decide +kernel) (by decide +kernel), _, rfl, iteF ?_⟩
         generalize L2.upd H T1 (.tup [.ty "list", .ty "tuple"]) = H1 at ha1 hb1 hp1 s1
         refine ⟨_, rfl, _, .ty "dict", .type "dict", .type "dict", true, rfl, .ty _, .base (.dK ha1), kit_ty (by decide +kernel), _, rfl, iteT ?_⟩
         refine ⟨_, rfl, _, .ty "dict", .type "dict", .type "dict", true, rfl, .ty _, .base (.dK hb1), kit_ty (by decide +kernel), _, rfl, iteT ?_⟩
         have eks : ks.map (fun kv => kV kv.1) = ss.map V.str := by
           have : ks.map (fun kv => kV kv.1) = (ks.map (·.1)).map kV := by rw [List.map_map]; rfl
           rw [this, e1, List.map_map]; rfl
         have els : ls.map (fun kv => kV kv.1) = ss.map V.str := by
           have : ls.map (fun kv => kV kv.1) = (ls.map (·.1)).map kV := by rw [List.map_map]; rfl
           rw [this, e2, List.map_map]; rfl
         refine ⟨_, rfl, a, ks, rfl, .inl ha1, fun M1 hM1 => ⟨_, rfl, b, ls, rfl, .inl (Same.new hM1 _ _ hb1), fun M2 hM2 => ?_⟩⟩
         rw [eks, els] at *
         have nM : M1 ≠ M2 := fun e => by rw [← e, upd_same] at hM2; cases hM2
         refine ⟨_, _, rfl, ?_, fun H2 s2 => ?_⟩
         · refine EqX.up (m := 1) (.inr (.inl ⟨M1, M2, ss.map V.str, ss.map V.str, rfl, rfl, by rw [upd_ne nM, upd_same], by rw [upd_same], by rw [List.length_map]; exact l0, ?_⟩)) h1n
           exact paired_imp (fun _ _ z => z) (eqx_strs (n := 0) ss)
         have s12 : Same H1 H2 := fun c u e => s2 _ _ (Same.new hM2 _ _ (Same.new hM1 _ _ e))
         have ha2 := s12 _ _ ha1
         have hb2 := s12 _ _ hb1
         have hp2 := paired_imp (fun _ _ => EqX.same n (cut_same s12)) hp1
         refine ⟨_, rfl, _, rfl, iteT ⟨a, _, ha2, trivial, fun od => ?_⟩⟩
         refine ⟨_, rfl, a, od, rfl, .inl ⟨ks, upd_same, fun D hD => ?_⟩⟩
         have nD : a ≠ D := fun e => by rw [← e, upd_same] at hD; cases hD
         have sL : Same (cut [a] H2) (L2.upd H2 a (.frz od (.dK ks))) := fun c u e => by
           obtain ⟨nc, e⟩ := cut_some e
           rw [upd_ne (by simpa using nc)]; exact e
         have le := paired_len hp
         have lks : ks.length = ss.length := by rw [← List.length_map (·.1), e1, List.length_map]
         refine lc_it (walk_keys (d := a) (o := od) (kvs := ks)) (fun i H' => Same (L2.upd H2 a (.frz od (.dK ks))) H' ∧ H' D = some (.lst ((List.replicate i true).map V.bl))) ⟨Same.new hD, upd_same⟩ (fun i H' _ z => z.1 _ _ upd_same) ?_ ?_
         · rintro i v H3 H4 hi ⟨sm, hl⟩ ⟨rfl, kk, v0, hkv, rfl⟩
           have hli : i < ls.length := by omega
           have hlv := List.getElem?_eq_getElem hli
           have exy := paired_at hp2 hkv hlv
           have ek : (ks.map (·.1))[i]? = some kk := by rw [List.getElem?_map, hkv]; rfl
           have el : (ls.map (·.1))[i]? = some (ls[i].1) := by rw [List.getElem?_map, hlv]; rfl
           rw [e1] at ek
           rw [e2, ek] at el
           have el : kk = ls[i].1 := Option.some.inj el
           have v1 : valV ks kk = some v0 := val_at (by rw [e1]; exact inr_nd' nd) hkv
           have v2 : valV ls kk = some ls[i].2 := val_at (by rw [e2]; exact inr_nd' nd) (by rw [hlv, el])
           have rb : Rd H4 b (.dK ls) := by
             by_cases c : b = a
             · subst c
               rw [ha2] at hb2
               have : ks = ls := by injection hb2 with z; injection z
               rw [← this]
               exact .inr ⟨od, sm _ _ upd_same⟩
             · exact .inl (sm _ _ (by rw [upd_ne c]; exact hb2))
           refine ⟨rfl, ?_⟩
           dsimp only [tYes]
           rw [if_pos rfl]
           refine ⟨_, rfl, _, rfl, a, v0, rfl, .inl ⟨ks, kk, .inr ⟨od, sm _ _ upd_same⟩, rfl, v1.symm⟩, _, rfl, _, rfl, b, _, rfl, .inl ⟨ls, kk, rb, rfl, v2.symm⟩, _, _, rfl, EqX.same n (fun c u e => sm _ _ (sL _ _ e)) exy, fun H5 s5 => ?_⟩
           refine ⟨_, s5 _ _ hl, by rw [List.length_map, List.length_replicate, sizeLine_eq]; omega, fun c u e => ?_, by rw [upd_same, repl_snoc]⟩
           rw [upd_ne (ne_of_none e hD)]; exact s5 _ _ (sm _ _ e)
         · rintro H3 ⟨sm, hl⟩
           refine ⟨sm _ _ upd_same, D, _, rfl, SqL.of (by rw [upd_ne nD.symm]; exact hl), ?_⟩
           rw [all_true]
           exact k _ (Same.trans (Same.trans s1 s12) (Same.unlock ha2 sm))
    exact fnok_or (ih.mono (by omega)) deep fun vs H Q E ⟨x, y, e, h, k⟩ => by
      rcases h with h | h
      · exact .inl ⟨x, y, e, h, k⟩
      · exact .inr ⟨x, y, e, h, k⟩
end
end D1
end L2
namespace L2
namespace D1
open PySem PySem.Spec PyProof.Rows
theorem tree_up {prog : Program} {w : World} {s : Shared} {n : Nat} {v y : Value} {b : Bool} (t : PySem.W.EqTree prog w s n v y b) : PySem.W.EqTree prog w s (n + 1) v y b := by
  induction t with
  | leaf h => exact .leaf fun A hu => h A (by omega)
  | same => exact .same
  | lists h1 h2 h3 h4 _ ih => exact .lists h1 h2 h3 h4 ih
  | listsLen h1 h2 h3 h4 => exact .listsLen h1 h2 h3 h4
  | tuples h1 h2 h3 _ ih => exact .tuples h1 h2 h3 ih
  | dicts h1 h2 h3 h4 h5 _ ih => exact .dicts h1 h2 h3 h4 h5 ih
/-- the values of two dicts with the same keys, by their keys -/
theorem kv_tree {X : Cx} {s : Shared} {n : Nat} {R : V → V → Prop} {ks ls : List (Key × V)} {va vb : List (Key × Value)} (ra : KV ks va) (rb : KV ls vb) (nd : (ls.map (·.1)).Nodup) (e : ks.map (·.1) = ls.map (·.1))
    (h : Paired (fun p q => R p.2 q.2) ks ls) (f : ∀ x y u v, R x y → RelV x u → RelV y v → PySem.W.EqTree X.prog X.w s n u v true) : ∀ k v y, (k, v) ∈ va → valueAt vb k = some y → PySem.W.EqTree X.prog X.w s n v y true := by
  intro k v y hm hv
  obtain ⟨i, hi, e1⟩ := List.getElem_of_mem hm
  have hva : va[i]? = some (k, v) := by rw [List.getElem?_eq_getElem hi, e1]
  have lk : ks.length = va.length := paired_len ra
  have ll : ks.length = ls.length := paired_len h
  have h1 := List.getElem?_eq_getElem (l := ks) (i := i) (by omega)
  have h2 := List.getElem?_eq_getElem (l := ls) (i := i) (by omega)
  have a1 := paired_at (show Paired _ ks va from ra) h1 hva
  have a2 := paired_at h h1 h2
  have ek : (ks.map (·.1))[i]? = some ks[i].1 := by rw [List.getElem?_map, h1]; rfl
  rw [e, List.getElem?_map, h2] at ek
  have ek : ls[i].1 = ks[i].1 := Option.some.inj ek
  have ek2 : ls[i].1 = k := by rw [ek]; exact a1.1
  have v2 : valV ls k = some ls[i].2 := val_at nd (by rw [h2, ← ek2])
  have r := rb.val k
  rw [v2] at r
  obtain ⟨w', ew, rw'⟩ := RelO.some_of r
  rw [hv] at ew
  cases ew
  exact f _ _ _ _ a2 a1.2 rw'
theorem all_some {ls : List (Key × V)} {va vb : List (Key × Value)} (rb : KV ls vb) (h : ∀ p ∈ va, p.1 ∈ ls.map (·.1)) : (va.all fun p => (valueAt vb p.1).isSome && true) = true := by
  refine List.all_eq_true.mpr fun p hp => ?_
  rw [Bool.and_true, ← RelO.isSome_eq (rb.val p.1), ← valV_any]
  obtain ⟨q, hq, e⟩ := List.mem_map.mp (h p hp)
  exact List.any_eq_true.mpr ⟨q, hq, decide_eq_true e⟩
theorem eqx_tree {X : Cx} {pins : List (Addr × Obj)} {σ : L2.St} {s : Shared} : ∀ (n : Nat) {H : Hp} {x y : V} {u v : Value}, Inv X pins σ H s → EqX n H x y → RelV x u → RelV y v → PySem.W.EqTree X.prog X.w s n u v true
  | 0, H, x, y, u, v, I, h, ru, rv => by
    obtain ⟨lx, e⟩ := h
    subst e
    exact .leaf fun A _ => eqAt_same ru rv (by cases lx <;> rfl)
  | n + 1, H, x, y, u, v, I, h, ru, rv => by
    rcases h with h | ⟨a, b, xs, ys, rfl, rfl, h3, h4, h5, h6⟩ | ⟨a, b, xs, ys, rfl, rfl, h3, h4, h5, h6⟩ | ⟨h0, a, b, ks, ls, ss, rfl, rfl, h3, h4, h5, h6, h7, h8, h9⟩
    · exact tree_up (eqx_tree n I h ru rv)
    · cases ru; cases rv
      by_cases hab : a = b
      · subst hab; exact .same
      obtain ⟨its, r, pl, _⟩ := I.list (SqL.of h3)
      obtain ⟨its2, r2, pl2, _⟩ := I.list (SqL.of h4)
      have l1 := r.length
      have l2 := r2.length
      have l3 := paired_len h6
      have t := PySem.W.EqTree.lists (prog := X.prog) (w := X.w) (n := n) (e := fun _ => true) hab pl.isList pl2.isList (by simp only [List.size_toArray]; omega) fun j h1 h2 => by
        simp only [List.size_toArray] at h1 h2
        have e1 : xs[j]? = some xs[j] := List.getElem?_eq_getElem (by omega)
        have e2 : ys[j]? = some ys[j] := List.getElem?_eq_getElem (by omega)
        obtain ⟨u1, q1, p1⟩ := r.get e1
        obtain ⟨u2, q2, p2⟩ := r2.get e2
        have q1 : its.toArray[j] = u1 := by
          have : its[j]? = some its[j] := List.getElem?_eq_getElem h1
          rw [this] at q1; simpa using Option.some.inj q1
        have q2 : its2.toArray[j] = u2 := by
          have : its2[j]? = some its2[j] := List.getElem?_eq_getElem h2
          rw [this] at q2; simpa using Option.some.inj q2
        rw [q1, q2]
        exact eqx_tree n I (paired_at h6 e1 e2) p1 p2
      have e : (List.range its.toArray.size).all (fun _ => true) = true := by simp
      rwa [e] at t
    · cases ru; cases rv
      by_cases hab : a = b
      · subst hab; exact .same
      obtain ⟨its, r, pl, _⟩ := I.tuple (SqT.of h3)
      obtain ⟨its2, r2, pl2, _⟩ := I.tuple (SqT.of h4)
      have l1 := r.length
      have l2 := r2.length
      have l3 := paired_len h6
      have t := PySem.W.EqTree.tuples (prog := X.prog) (w := X.w) (n := n) (e := fun _ => true) hab pl pl2 fun j h1 h2 => by
        simp only [List.size_toArray] at h1 h2
        have e1 : xs[j]? = some xs[j] := List.getElem?_eq_getElem (by omega)
        have e2 : ys[j]? = some ys[j] := List.getElem?_eq_getElem (by omega)
        obtain ⟨u1, q1, p1⟩ := r.get e1
        obtain ⟨u2, q2, p2⟩ := r2.get e2
        have q1 : its.toArray[j] = u1 := by
          have : its[j]? = some its[j] := List.getElem?_eq_getElem h1
          rw [this] at q1; simpa using Option.some.inj q1
        have q2 : its2.toArray[j] = u2 := by
          have : its2[j]? = some its2[j] := List.getElem?_eq_getElem h2
          rw [this] at q2; simpa using Option.some.inj q2
        rw [q1, q2]
        exact eqx_tree n I (paired_at h6 e1 e2) p1 p2
      have e : ((List.range (min its.toArray.size its2.toArray.size)).all (fun _ => true) && its.toArray.size == its2.toArray.size) = true := by
        simp only [List.size_toArray]
        simp; omega
      rwa [e] at t
    · cases ru; cases rv
      by_cases hab : a = b
      · subst hab; exact .same
      obtain ⟨_, ya, va, ra, da⟩ := (show ObjOk X.prog X.w H s.heap a (.dK ks) from I.hok a _ h3)
      obtain ⟨_, yb, vb, rb, db⟩ := (show ObjOk X.prog X.w H s.heap b (.dK ls) from I.hok b _ h4)
      have ndl : (ls.map (·.1)).Nodup := by rw [h6]; exact inr_nd' h7
      have ekl : ks.map (·.1) = ls.map (·.1) := h5.trans h6.symm
      have t := PySem.W.EqTree.dicts (knd := mixKind X.prog X.w) (n := n) (e := fun _ => true) hab ya yb da db (kv_tree ra rb ndl ekl h9 fun x y u v z r1 r2 => eqx_tree n I (EqX.same n cut_le z) r1 r2)
      have l1 : va.length = vb.length := by rw [← paired_len ra, ← paired_len rb]; exact paired_len h9
      have e : (va.length == vb.length && va.all fun p => (valueAt vb p.1).isSome && true) = true := by
        rw [all_some rb, l1]
        · simp
        · intro p hp
          rw [← ekl, KV.keys ra]
          exact List.mem_map_of_mem hp
      rwa [e] at t
/-- == of two alike dicts -/
theorem op_eqDX {X : Cx} (n : Nat) (hu : X.A.units + (n + 1) < cLine) : OpR X (compareOp .Eq) (fun x y H Q => ∃ (a b : Addr) (ks ls : List (Key × V)) (ss : List Str), x = .ref a ∧ y = .ref b ∧ Rd H a (.dK ks) ∧ Rd H b (.dK ls) ∧ ks.map (·.1) = ss.map Sum.inr ∧ ls.map (·.1) = ss.map Sum.inr ∧ ss.Nodup ∧ Paired (fun p q => EqX n H p.2 q.2) ks ls ∧ Q (.bl true) H) := by
  intro pins s σ H x y v u Q I rx ry h
  obtain ⟨a, b, ks, ls, ss, rfl, rfl, h3, h4, h5, h6, h7, h9, q⟩ := h
  obtain rfl : v = Value.ref a := rx
  obtain rfl : u = Value.ref b := ry
  obtain ⟨_, ya, va, ra, da⟩ := dk_rd I.hok h3
  obtain ⟨_, yb, vb, rb, db⟩ := dk_rd I.hok h4
  have ndl : (ls.map (·.1)).Nodup := by rw [h6]; exact inr_nd' h7
  have ekl : ks.map (·.1) = ls.map (·.1) := h5.trans h6.symm
  have l1 : va.length = vb.length := by rw [← paired_len ra, ← paired_len rb]; exact paired_len h9
  have e : (va.length == vb.length && va.all fun p => (valueAt vb p.1).isSome && true) = true := by
    rw [all_some rb, l1]
    · simp
    · intro p hp
      rw [← ekl, KV.keys ra]
      exact List.mem_map_of_mem hp
  exact PySem.W.eq_dictsT (knd := mixKind X.prog X.w) (n := n) (e := fun _ => true) ya yb da db (kv_tree ra rb ndl ekl h9 fun x y u v z r1 r2 => eqx_tree n I z r1 r2) hu (fin_bl I q e.symm)
abbrev CExact (P : Program) (w : World) (K : PySem.W.Frag) (mg : Str → Option Value) (base : Heap) (n : Nat) := Cal P w K mg base "_law_exact" (n + 1) ["_law_mine", "_law_theirs"] (spExact n)
theorem eqx_rows {H : Hp} : ∀ {ks ls : List (Key × V)} {bk : Bk}, Rows H ks bk → Rows H ls bk → (∀ r ∈ bk, (r.2.2.map (·.1)).Nodup ∧ r.2.2.length ≤ 10000) → Paired (fun p q => EqX 3 H p.2 q.2) ks ls
  | _, _, _, .nil, .nil, _ => .nil
  | _, _, _, .cons (b := r) h1 t1, .cons h2 t2, hb => by
    refine .cons ?_ (eqx_rows t1 t2 fun r hr => hb r (List.mem_cons_of_mem _ hr))
    obtain ⟨_, t, a, e1, g1, g2⟩ := h1
    obtain ⟨_, t', a', e1', g1', g2'⟩ := h2
    rw [e1, e1']
    obtain ⟨nd, ll⟩ := hb r List.mem_cons_self
    refine .inr (.inr (.inl ⟨t, t', _, _, rfl, rfl, g1, g1', by show 2 ≤ 10000; decide, .cons (eqx_str _) (.cons ?_ .nil)⟩))
    have ek : (kT r.2.2).map (·.1) = (r.2.2.map (·.1)).map Sum.inr := by rw [kT, List.map_map, List.map_map]; rfl
    refine .inr (.inr (.inr ⟨Nat.le_refl _, a, a', kT r.2.2, kT r.2.2, r.2.2.map (·.1), rfl, rfl, g2, g2', ek, ek, nd, by rw [List.length_map]; exact ll, ?_⟩))
    have : ∀ l : List (Str × Str), Paired (fun (p q : Key × V) => EqX 1 (cut [a] H) p.2 q.2) (kT l) (kT l) := fun l => by
      induction l with
      | nil => exact .nil
      | cons p l ih => exact .cons (eqx_str p.2) ih
    exact this _
section
variable {P : Program} {w : World} {K : PySem.W.Frag} {mg : Str → Option Value} {base : Heap} {C : Addr}
theorem scDe : FnScope ["self", "other"] ["self", "other"] (defScope sDEq) := ⟨rfl, rfl, rfl, by decide +kernel, rfl, by decide +kernel, by decide +kernel⟩
theorem pair_app {α β : Type} {R : α → β → Prop} {xs : List α} {ys : List β} {x : α} {y : β} (h : Paired R xs ys) (e : R x y) : Paired R (xs ++ [x]) (ys ++ [y]) := by
  induction h with
  | nil => exact .cons e .nil
  | cons a _ ih => exact .cons a ih
theorem unl_at {H : Hp} {b p : Addr} {u o : HO} {od : Obj} {xs : List V} (h : H b = some (.frz od u)) (e : H p = some (.tup xs)) : (L2.upd H b o) p = some (.tup xs) := by
  rw [upd_ne fun z => by rw [z, h] at e; cases e]; exact e
theorem merge_id2 {kvs : List (Key × V)} (nd : (kvs.map (·.1)).Nodup) : mergeK [] kvs = kvs := by
  have h : ∀ (more acc : List (Key × V)), (∀ p ∈ more, p.1 ∉ acc.map (·.1)) → (more.map (·.1)).Nodup → mergeK acc more = acc ++ more := by
    intro more
    induction more with
    | nil => intro acc _ _; exact (List.append_nil _).symm
    | cons p r ih =>
      intro acc h nd
      have nd' := List.nodup_cons.mp nd
      show mergeK (putK acc p.1 p.2) r = _
      rw [D1.putK_new (h p List.mem_cons_self), ih _ ?_ nd'.2, List.append_assoc]
      · rfl
      · intro q hq z
        rw [List.map_append] at z
        rcases List.mem_append.mp z with z | z
        · exact h q (List.mem_cons_of_mem _ hq) z
        · have : q.1 = p.1 := List.mem_singleton.mp z
          exact nd'.1 (by show p.1 ∈ _; rw [← this]; exact List.mem_map_of_mem hq)
  rw [h kvs [] (by simp) nd]; rfl
theorem rows_unl {H : Hp} {b : Addr} {u o : HO} {od : Obj} {kvs : List (Key × V)} {bk : Bk} (hb : H b = some (.frz od u)) (h : Rows H kvs bk) : Rows (L2.upd H b o) kvs bk := by
  unfold Rows at h ⊢
  induction h with
  | nil => exact .nil
  | cons h1 _ ih =>
    obtain ⟨e, t, a, ev, ht, ha⟩ := h1
    refine .cons ⟨e, t, a, ev, ?_, ?_⟩ ih
    · rw [upd_ne fun z => by rw [z, hb] at ht; cases ht]; exact ht
    · rw [TurnsAt, upd_ne fun z => by rw [TurnsAt, z, hb] at ha; cases ha]; exact ha
/-- the law's desk of a world -/
abbrev sLDesk : Stmt := top 42
def spLDesk (C : Addr) : Sp := fun vs H Q _ => ∃ (W : Addr) (bk : Bk) (st : Str), vs = [.ref W] ∧ WorldAt H W bk st ∧ DOk bk st ∧ ∀ H' q, Same H H' → H q = none → DeskAt C H' q bk st → Q (.ref q) H'
abbrev CMInit (P : Program) (w : World) (K : PySem.W.Frag) (mg : Str → Option Value) (base : Heap) (C : Addr) : Prop := ∃ f fd, Mk K C f ∧ FnOk P w K mg base CX0 4 f fd ["self", "book", "start"] (spDInit C) ∧ Binds K fd ["self", "book", "start"] []
theorem scLd : FnScope ["_law_world_here", "_law_state"] ["_law_world_here"] (defScope sLDesk) := ⟨rfl, rfl, rfl, by decide +kernel, rfl, by decide +kernel, by decide +kernel⟩
theorem ok_ldesk {f : Addr} {fd : FuncData} (F : Fun K "_law_desk" "_law_desk" sLDesk f fd) (T : Free3 mg) (D : DTxt K mg C) (MI : CMInit P w K mg base C) : FnOk P w K mg base CX0 6 f fd ["_law_world_here"] (spLDesk C) := by
  obtain ⟨fI, fdI, mI, FI, bI⟩ := MI
  refine F.ok scLd (fun vs H Q E h => ?_) (fun cdv A outer s H vs Q E hr h => ?_)
  · obtain ⟨W, bk, st, rfl, _⟩ := h; rfl
  · obtain ⟨W, bk, st, rfl, ⟨b, hW, ⟨kvs, hb, hR⟩⟩, ok, k⟩ := h
    have hu := hu_of hr
    refine ⟨_, pss_one (ps_ret (pe_make mI FI (hr.mono (by decide)) rfl D.mgC bI .nil pass0 (pa_cons (pe_callTy (call_dictP rfl) (by rfl) T.dict (by decide +kernel) (pa_cons (pe_lock (pe_lc (own := [("_law_state", 1)]) (g := gName 1) (tt := tYes)
        (te := tTup (tCons (tVar 1) (tCons (tTup (tCons (tOp (rIxT K) (tDGet (tOp (rIxL K) (tVar 0) (tC (.int 0))) (tVar 1)) (tC (.int 0))) (tCons (tCB (fun xs H Q => ∃ (a : Addr) (kvs : List (Key × V)), xs = [.ref a] ∧ Rd H a (.dK kvs) ∧ ∀ p, H p = none → Q (.ref p) (L2.upd H p (.dK kvs))) (tCons (tOp (rIxT K) (tDGet (tOp (rIxL K) (tVar 0) (tC (.int 0))) (tVar 1)) (tC (.int 1))) tNil)) tNil))) tNil)))
        rfl scLd.nd (pi_keys (pe_ix ix_list (pv 0) pe_int (fun _ _ => rfl)))
        (blkOk_by (N := ["_law_world_here", "_law_state"]) (sc := defScope sLDesk) (by decide +kernel)) (fun _ _ _ _ _ => pg_name (i := 1) scLd.nd rfl (Or.inl rfl)) (fun _ _ _ _ _ => pts_nil)
        (fun _ _ _ _ _ => pe_tup (pa_cons (pv 1) (pa_cons (pe_tup (pa_cons (pe_ix ix_tup (pe_dget hu (pe_ix ix_list (pv 0) pe_int (fun _ _ => rfl)) (pv 1) (fun _ _ => rfl)) pe_int (fun _ _ => rfl)) (pa_cons (pe_callTy call_dictD (by rfl) T.dict (by decide +kernel) (pa_cons (pe_ix ix_tup (pe_dget hu (pe_ix ix_list (pv 0) pe_int (fun _ _ => rfl)) (pv 1) (fun _ _ => rfl)) pe_int (fun _ _ => rfl)) pa_nil)) pa_nil))) pa_nil))))) pa_nil))
        (pa_cons (pe_ix ix_list (pv 0) pe_int (fun _ _ => rfl)) pa_nil)))), ?_⟩
    have a0 : ∀ {H' : Hp}, Same H H' → ∃ xs, xs = ([.ref b, .str st] : List V) ∧ H' W = some (.lst xs) := fun s => ⟨_, rfl, s _ _ hW⟩
    refine ⟨b, _, hb, trivial, fun od => ?_⟩
    have nWb : W ≠ b := fun e => by rw [e, hb] at hW; cases hW
    have hWL : (L2.upd H b (.frz od (.dK kvs))) W = some (.lst [.ref b, .str st]) := by rw [upd_ne nWb]; exact hW
    have hRL := hR.lock (o := .frz od (.dK kvs)) hb ok.ne
    refine ⟨_, rfl, W, _, _, _, rfl, rfl, SqL.of hWL, atI_nat (j := 0) rfl, b, od, rfl, .inl ⟨kvs, upd_same, fun M hM => ?_⟩⟩
    have nM : b ≠ M := fun e => by rw [← e, upd_same] at hM; cases hM
    have lb := ok.len
    refine lc_it (walk_keys (d := b) (o := od) (kvs := kvs)) (fun i H' => Same (L2.upd H b (.frz od (.dK kvs))) H' ∧ ∃ (ps : List Addr) (kv2 : List (Key × V)), H' M = some (.lst (ps.map V.ref)) ∧ Paired (fun p (kv : Key × V) => (cut [M] H') p = some (.tup [kV kv.1, kv.2])) ps kv2 ∧ Rows (cut [M] H') kv2 (bk.take i)) ⟨Same.new hM, [], [], upd_same, .nil, .nil⟩ (fun i H' _ z => z.1 _ _ upd_same) ?_ ?_
    · rintro i x H2 H3 hi ⟨sm, ps, kv2, hM2, hp, hR2⟩ ⟨rfl, kk, v0, hkv, rfl⟩
      obtain ⟨r, hr', rfl, _⟩ := hR.at hkv
      have hrm : r ∈ bk := List.mem_of_getElem? hr'
      have hs : r.1 ∈ bk.map (·.1) := List.mem_map_of_mem hrm
      obtain ⟨v, ev, ⟨t, a, rfl, ht, ha⟩, _⟩ := (hRL.same sm).look hs
      rw [rowOf_self ok.nd hrm] at ht ha
      have hW3 := SqL.of (K := K) (sm _ _ hWL)
      have hil : i < bk.length := (List.getElem?_eq_some_iff.mp hr').1
      have dg : ∀ {H4 : Hp}, Same H3 H4 → DGet H4 b (V.str r.1) (some (.ref t)) := fun s => .inl ⟨kvs, .inr r.1, .inr ⟨od, s _ _ (sm _ _ upd_same)⟩, rfl, ev.symm⟩
      refine ⟨rfl, ?_⟩
      dsimp only [tYes]
      rw [if_pos rfl]
      refine ⟨_, rfl, _, rfl, W, _, _, _, rfl, rfl, hW3, atI_nat (j := 0) rfl, _, rfl, b, _, rfl, dg (Same.refl _), t, _, _, _, rfl, rfl, SqT.of ht, atI_nat (j := 0) rfl, ?_⟩
      refine ⟨_, rfl, W, _, _, _, rfl, rfl, hW3, atI_nat (j := 0) rfl, _, rfl, b, _, rfl, dg (Same.refl _), t, _, _, _, rfl, rfl, SqT.of ht, atI_nat (j := 1) rfl, a, kT r.2.2, rfl, .inl ha, fun E1 hE1 => ?_⟩
      refine ⟨by show 2 ≤ sizeLine; decide, fun T1 hT1 => ⟨by show 2 ≤ sizeLine; decide, fun T2 hT2 => ?_⟩⟩
      have g1 := Same.new (o := .dK (kT r.2.2)) hE1
      have g2 := Same.new (o := .tup [.str r.2.1, .ref E1]) hT1
      have g3 := Same.new (o := .tup [.str r.1, .ref T1]) hT2
      have g := Same.trans (Same.trans g1 g2) g3
      have nE : E1 ≠ M := fun e => by rw [e, hM2] at hE1; cases hE1
      have nT : T1 ≠ M := fun e => by rw [e, g1 _ _ hM2] at hT1; cases hT1
      have nT2 : T2 ≠ M := fun e => by rw [e, g2 _ _ (g1 _ _ hM2)] at hT2; cases hT2
      have lps : ps.length = kv2.length := paired_len hp
      have lkv : kv2.length = i := by rw [hR2.len, List.length_take]; omega
      refine ⟨_, g _ _ hM2, by rw [List.length_map, lps, lkv, sizeLine_eq]; omega, fun c u e => ?_, ps ++ [T2], kv2 ++ [(.inr r.1, .ref T1)], by rw [upd_same, List.map_append]; rfl, ?_, ?_⟩
      · rw [upd_ne (ne_of_none e hM)]; exact g _ _ (sm _ _ e)
      · rw [cut_upd (by simp)]
        have hp' := paired_imp (R' := fun p (kv : Key × V) => (cut [M] (L2.upd (L2.upd (L2.upd H3 E1 (.dK (kT r.2.2))) T1 (.tup [.str r.2.1, .ref E1])) T2 (.tup [.str r.1, .ref T1]))) p = some (.tup [kV kv.1, kv.2])) (fun p kv e => cut_same g _ _ e) hp
        exact pair_app hp' (by rw [cut_out (by simpa using nT2)]; exact upd_same)
      · rw [cut_upd (by simp), take_succ_get hr']
        refine (hR2.same (cut_same g)).app ⟨T1, E1, rfl, ?_, ?_⟩
        · rw [cut_out (by simpa using nT)]; exact g3 _ _ upd_same
        · rw [TurnsAt, cut_out (by simpa using nE)]; exact g3 _ _ (g2 _ _ upd_same)
    · rintro H2 ⟨sm, ps, kv2, hM2, hp, hR2⟩
      have hl : kvs.length = bk.length := hR.len
      rw [hl, List.take_length] at hR2
      have su := Same.unlock hb sm
      have hp3 : Paired (fun p (kv : Key × V) => SqT K (L2.upd H2 b (.dK kvs)) p [kV kv.1, kv.2]) ps kv2 := paired_imp (fun p kv e => SqT.of (unl_at (sm _ _ upd_same) (cut_le _ _ e))) hp
      refine ⟨sm _ _ upd_same, M, ps, kv2, rfl, SqL.of (by rw [upd_ne nM.symm]; exact hM2), hp3, fun B hB => ?_⟩
      have e1 : kv2.map (·.1) = (bk.map (·.1)).map Sum.inr := by rw [hR2.keys, List.map_map]; rfl
      rw [merge_id2 (by rw [e1]; exact inr_nd' ok.nd)]
      have hR3 : Rows (L2.upd H2 b (.dK kvs)) kv2 bk := rows_unl (sm _ _ upd_same) (hR2.same cut_le)
      have s3 := Same.new (o := .dK kv2) hB
      refine ⟨_, rfl, W, _, _, _, rfl, rfl, SqL.of (s3 _ _ (su _ _ hW)), atI_nat (j := 1) rfl, fun q dx hq hdx ndx => ?_⟩
      have s4 : Same H (L2.upd (L2.upd (L2.upd (L2.upd H2 b (.dK kvs)) B (.dK kv2)) dx (.own q)) q (.ins C dx [])) := fun c u e => by
        have e3 := s3 _ _ (su _ _ e)
        rw [upd_ne (ne_of_none e3 hq), upd_ne (ne_of_none e3 hdx)]; exact e3
      have hq0 : H q = none := (Same.trans su s3).free hq
      refine ⟨q, dx, B, bk, st, rfl, upd_same, ⟨kv2, ?_, ?_⟩, ok, fun H5 b5 hd _ => ⟨rfl, k H5 q (fun c u e => ?_) hq0 hd⟩⟩
      · have z := upd_same (H := L2.upd H2 b (.dK kvs)) (a := B) (o := .dK kv2)
        rw [upd_ne (ne_of_none z hq), upd_ne (ne_of_none z hdx)]; exact z
      · refine (hR3.same s3).same fun c u e => ?_
        rw [upd_ne (ne_of_none e hq), upd_ne (ne_of_none e hdx)]; exact e
      · exact b5 _ _ (ne_of_none e hq0) (s4 _ _ e)
end
end D1
end L2
namespace L2
namespace D2
open PySem PySem.Spec PyProof.Rows D1
/-- an own == that tells r -/
def spEqB (R : Addr → Addr → Bool → Hp → Prop) : Sp := fun vs H Q _ => ∃ a b r, vs = [.ref a, .ref b] ∧ R a b r H ∧ Q (.bl r) H
/-- every object of the class has this ==, and no own != -/
structure NeF (K : PySem.W.Frag) (C f : Addr) : Prop where
  ne : ∀ (h : Heap) (x : Addr) (o : Obj), K.In h → h.get? x = some o → o.cls = .ref C → h.OwnEqNoNe x C f "object" [.type "object"]
def rEqB (C : Addr) (R : Addr → Addr → Bool → Hp → Prop) (w : Bool → Bool) : R2 := fun x y H Q => ∃ a b dx dy fs gs r, x = .ref a ∧ y = .ref b ∧ H a = some (.ins C dx fs) ∧ H b = some (.ins C dy gs) ∧ R a b r H ∧ Q (.bl (w r)) H
section
variable {X : Cx} {n : Nat}
theorem call_eqB {CX : CXT} {f : Addr} {fd : FuncData} {ps : List PySem.Str} {R : Addr → Addr → Bool → Hp → Prop} {E : XK} (F : FnOk X.prog X.w X.K X.mg X.base CX n f fd ps (spEqB R)) (hb : Binds X.K fd ps []) (hx : Passes CX X E)
    {A : Around} (rm : Room n A) (fr : A.frames = X.A.frames) {pins : List (Addr × Obj)} {σ : L2.St} {H : Hp} {s : Shared} (I : Inv X pins σ H s) {a b : Addr} {r : Bool} (hr : R a b r H) :
    wpAny (model X.prog X.w) A (call (.ref f) [.ref a, .ref b]) (fun v s' => v = .bool r ∧ Inv X pins σ H s') X.xe s := by
  have hsp : spEqB R [.ref a, .ref b] H (fun v H' => v = .bl r ∧ H' = H) E := ⟨a, b, r, rfl, hr, rfl, rfl⟩
  have e0 : Env0 X.prog X.w X.K X.mg X.base A X.stack s H := by
    have e := I.env0
    exact ⟨by rw [fr]; exact e.frames, e.mod, e.bs, e.bsz, e.funs, e.frf, e.hok, e.bare⟩
  have hl := F.len _ _ _ _ hsp
  have bn := hb s [.ref a, .ref b] I.kIn (by simpa using hl)
  refine wpAny_call (codeAny_mono (F.run A X.stack s H ⟨[.ref a, .ref b], []⟩ [.ref a, .ref b] [.ref a, .ref b] _ E rm e0 (by simpa using bn) (.cons rfl (.cons rfl .nil)) hsp) fun r' s' hq => ?_)
  match r' with
  | .error e => exact hx pins σ H s e s' I hq
  | .ok (.ret w) =>
    obtain ⟨z, H', I', rz, ez, ex⟩ := I.after hq
    subst ez ex
    cases rz
    exact ⟨rfl, I'⟩
  | .ok .next => exact False.elim hq
  | .ok .brk => exact False.elim hq
  | .ok .cont => exact False.elim hq
theorem op_eqB {CX : CXT} {C f : Addr} {fd : FuncData} {ps : List PySem.Str} {R : Addr → Addr → Bool → Hp → Prop} {E : XK} (F : FnOk X.prog X.w X.K X.mg X.base CX n f fd ps (spEqB R)) (hb : Binds X.K fd ps []) (hx : Passes CX X E)
    (hs : PySem.W.findIn X.K (.ref C) "__eq__" = some (some (.ref f))) (hf : PySem.W.isFn X.K (.ref f) = true) (rm : Room n X.A) : OpR X (compareOp .Eq) (rEqB C R id) := by
  intro pins s σ H x y v u Q I rx ry hq
  obtain ⟨a, b, dx, dy, fs, gs, r, rfl, rfl, ha, hb', hr, q⟩ := hq
  obtain rfl : v = Value.ref a := rx
  obtain rfl : u = Value.ref b := ry
  obtain ⟨mA, J, _⟩ := ins_get I.hok ha
  obtain ⟨mB, J', _⟩ := ins_get I.hok hb'
  obtain ⟨od, J, _⟩ := J.look
  obtain ⟨od', J', _⟩ := J'.look
  obtain ⟨m, hF⟩ := I.fr
  show wpAny (model X.prog X.w) X.A (richCompare .Eq (.ref a) (.ref b)) (EP X pins σ Q) X.xe s
  refine PySem.W.cmp_K (op := .Eq) (tb := .ref C) rm.units0 hF I.ok.mod.kin J J'.type (by simp [PySem.W.notFirst]) hs hf (wpAny_mono (call_eqB F hb hx rm rfl I hr) (fun v' s' hv => ?_) fun _ _ z => z)
  obtain ⟨rfl, I'⟩ := hv
  exact ⟨.bl r, H, I', rfl, q⟩
end
end D2
end L2
namespace L2
namespace D2
open PySem PySem.Spec PyProof.Rows D1
/-- two desks of one book; r: whether they start alike -/
def RD (C : Addr) : Addr → Addr → Bool → Hp → Prop := fun q p r H => ∃ bk bk' st st', DeskAt C H q bk st ∧ DeskAt C H p bk' st' ∧ ordB bk = ordB bk' ∧ DOk bk st ∧ r = decide (st = st')
theorem RD.same {C q p : Addr} {r : Bool} {H H' : Hp} (h : RD C q p r H) (s : Same H H') : RD C q p r H' := by
  obtain ⟨bk, bk', st, st', h1, h2, h3, h4, h5⟩ := h
  exact ⟨bk, bk', st, st', h1.same s, h2.same s, h3, h4, h5⟩
section
variable {P : Program} {w : World} {K : PySem.W.Frag} {mg : Str → Option Value} {base : Heap} {C : Addr}
theorem ok_deqB {f : Addr} {fd : FuncData} (F : Fun K "__eq__" "Desk.__eq__" sDEq f fd) (T : Free3 mg) (D : DTxt K mg C) (c : C8.InsC K C) : FnOk P w K mg base CX0 1 f fd ["self", "other"] (spEqB (RD C)) := by
  refine F.ok scDe (fun vs H Q E h => ?_) (fun cdv A outer s H vs Q E hr h => ?_)
  · obtain ⟨a, b, r, rfl, _⟩ := h; rfl
  · obtain ⟨q, p, r0, rfl, ⟨bk, bk', st, st', ⟨dx, b, hq, hb⟩, ⟨dy, b', hr2, hb'⟩, eo, ok, rfl⟩, k⟩ := h
    rw [← eo] at hb'
    refine ⟨_, pss_one (ps_ret (pe_and (pe_callB (C8.call_isC c) (by rfl) T.isi (by decide +kernel) (pa_cons (pv 1) (pa_cons (pe_glob (v := .ref C) rfl D.mgC rfl) pa_nil))) (pe_and (pe_cmpR (op_eqDX 3 (Nat.lt_of_le_of_lt (Nat.add_le_add_left (by decide : 4 ≤ 64) _) hr.units)) (pe_fld (pv 0) rfl) (pe_fld (pv 1) rfl) (nomark _)) (pe_one (pe_cmpR op_eq (pe_fld (pv 0) rfl) (pe_fld (pv 1) rfl) (nomark _)))))), ?_⟩
    have ob := ok.obok
    obtain ⟨ks, h1, r1⟩ := hb
    obtain ⟨ls, h2, r2⟩ := hb'
    have e1 : ks.map (·.1) = ((ordB bk).map (·.1)).map Sum.inr := by rw [r1.keys, List.map_map]; rfl
    have e2 : ls.map (·.1) = ((ordB bk).map (·.1)).map Sum.inr := by rw [r2.keys, List.map_map]; rfl
    have hrs : ∀ r ∈ ordB bk, (r.2.2.map (·.1)).Nodup ∧ r.2.2.length ≤ 10000 := fun r hr => ⟨(ob.rs r hr).1, by have := (ob.rs r hr).2; omega⟩
    refine ⟨_, rfl, p, dy, _, rfl, hr2, true, rfl, iteT ?_⟩
    refine ⟨_, rfl, q, C, dx, _, _, rfl, hq, D.cl, D.nB, dflds_book _ _, _, rfl, p, C, dy, _, _, rfl, hr2, D.cl, D.nB, dflds_book _ _, ?_⟩
    refine ⟨b, b', ks, ls, _, rfl, rfl, h1, h2, e1, e2, ob.nd, eqx_rows r1 r2 hrs, true, rfl, iteT ?_⟩
    refine ⟨_, rfl, q, C, dx, _, _, rfl, hq, D.cl, D.nS, dflds_start _ _, _, rfl, p, C, dy, _, _, rfl, hr2, D.cl, D.nS, dflds_start _ _, rfl, ?_⟩
    have ed : decide (V.str st = V.str st') = decide (st = st') := by
      by_cases h : st = st'
      · rw [h, decide_eq_true rfl, decide_eq_true rfl]
      · rw [decide_eq_false h, decide_eq_false fun z => h (V.str.inj z)]
    rw [ed]
    exact k
/-- the desk's ==, wherever it is used -/
structure EqD (P : Program) (w : World) (K : PySem.W.Frag) (mg : Str → Option Value) (base : Heap) (C : Addr) : Prop where
  ex : ∃ f fd ps, FnOk P w K mg base CX0 1 f fd ps (spEqB (RD C)) ∧ Binds K fd ps [] ∧ PySem.W.findIn K (.ref C) "__eq__" = some (some (.ref f)) ∧ PySem.W.isFn K (.ref f) = true ∧ NeF K C f
end
section
variable {X : Cx} {C : Addr}
theorem eqD (e : EqD X.prog X.w X.K X.mg X.base C) (rm : Room 1 X.A) : OpR X (compareOp .Eq) (rEqB C (RD C) id) := by
  obtain ⟨f, fd, ps, F, b, hs, hf, _⟩ := e.ex
  exact op_eqB F b pass0 hs hf rm
/-- the fields of two desks -/
theorem rEqB_of {C q p : Addr} {r : Bool} {H : Hp} {w : Bool → Bool} {Q : VK} (h : RD C q p r H) (k : Q (.bl (w r)) H) : rEqB C (RD C) w (.ref q) (.ref p) H Q := by
  obtain ⟨bk, bk', st, st', ⟨dx, b, h1, _⟩, ⟨dy, b', h2, _⟩, _⟩ := id h
  exact ⟨q, p, dx, dy, _, _, r, rfl, rfl, h1, h2, h, k⟩
end
end D2
end L2
namespace L2
namespace D1
open PySem PySem.Spec PyProof.Rows D2
theorem goalT_at {ts : List (Str × Str)} (nd : (ts.map (·.1)).Nodup) {t : Str × Str} (h : t ∈ ts) : goalT ts t.1 = t.2 := by
  obtain ⟨u, e, e1, hu⟩ := find_some (List.mem_map_of_mem (f := (·.1)) h)
  rw [goalT, e]
  show u.2 = t.2
  obtain ⟨i, hi, ei⟩ := List.getElem_of_mem hu
  obtain ⟨j, hj, ej⟩ := List.getElem_of_mem h
  have a1 : (ts.map (·.1))[i]? = some t.1 := by rw [List.getElem?_map, List.getElem?_eq_getElem hi, ei, ← e1]; rfl
  have a2 : (ts.map (·.1))[j]? = some t.1 := by rw [List.getElem?_map, List.getElem?_eq_getElem hj, ej]; rfl
  have := (List.getElem?_inj (by rw [List.length_map]; omega) nd).mp (a1.trans a2.symm)
  subst this
  rw [← ei, ej]
theorem mem_ordT {ts : List (Str × Str)} (nd : (ts.map (·.1)).Nodup) {t : Str × Str} : t ∈ ordT ts ↔ t ∈ ts := by
  constructor
  · intro h
    obtain ⟨k, hk, rfl⟩ := List.mem_map.mp h
    obtain ⟨u, hu, e⟩ := List.mem_map.mp ((srt_perm _).mem_iff.mp hk)
    rw [← e, goalT_at nd hu]; exact hu
  · intro h
    refine List.mem_map.mpr ⟨t.1, (srt_perm _).mem_iff.mpr (List.mem_map_of_mem h), ?_⟩
    rw [goalT_at nd h]
theorem nd_take {ys : List Str} (nd : ys.Nodup) {i : Nat} {z : Str} (h : ys[i]? = some z) : z ∉ ys.take i := fun hm => by
  obtain ⟨m, hm1, hm2⟩ := List.mem_take_iff_getElem.mp hm
  have h1 : ys[m]? = some z := by rw [List.getElem?_eq_getElem (by omega), hm2]
  have := (List.getElem?_inj (by omega) nd).mp (h1.trans h.symm)
  omega
theorem kT_app (a b : List (Str × Str)) : kT (a ++ b) = kT a ++ kT b := List.map_append
/-- Desk(book, start) -/
theorem make_ok {C : Addr} {H2 : Hp} {B : Addr} {bk : Bk} {st : Str} {Q : VK} {E : XK} (hB : BookAt H2 B bk) (ok : DOk bk st) (k : ∀ H' q, Same H2 H' → H2 q = none → DeskAt C H' q bk st → DeskN C H2 H' q bk st → Q (.ref q) H') (q dx : Addr) (hq : H2 q = none) (hdx : H2 dx = none) :
    spDInit C [.ref q, .ref B, .str st] (L2.upd (L2.upd H2 dx (.own q)) q (.ins C dx [])) (fun v H' => v = .non ∧ Q (.ref q) H') E := by
  have s4 : Same H2 (L2.upd (L2.upd H2 dx (.own q)) q (.ins C dx [])) := fun c u e => by
    rw [upd_ne (ne_of_none e hq), upd_ne (ne_of_none e hdx)]; exact e
  refine ⟨q, dx, B, bk, st, rfl, upd_same, hB.same s4, ok, fun H5 b5 hd ⟨dy, c, e1, h1⟩ => ⟨rfl, k H5 q (fun c u e => ?_) hq hd ⟨dy, c, e1, h1.same (new_mono s4)⟩⟩⟩
  exact b5 _ _ (ne_of_none e hq) (s4 _ _ e)
end D1
end L2
namespace L2
namespace D1
open PySem PySem.Spec PyProof.Rows D2
theorem kT_keys (ts : List (Str × Str)) : (kT ts).map (·.1) = (ts.map (·.1)).map Sum.inr := by rw [kT, List.map_map, List.map_map]; rfl
theorem kT_keys2 (ts : List (Str × Str)) : (kT ts).map (·.1) = (ts.map (·.1)).map Sum.inr := kT_keys ts
end D1
end L2
namespace L2
namespace X5
open PySem PySem.Spec PyProof.Rows
section
variable {X : Cx}
/-- d[(..)] = v within a display or a comprehension -/
theorem put_tup {pins : List (Addr × Obj)} {σ : L2.St} {H : Hp} {s : Shared} {E : Value → Shared → Prop} {D b : Addr} {kvs : List (List Key × V)} {k : List Key} {v : V} {r : Value} {Q : Unit → Shared → Prop} (hu : X.A.units < cLine) (I : Inv X pins σ H s) (hD : H D = some (.dT kvs)) (hz : kvs.length < sizeLine)
    (hb : H b = some (.tup (k.map kV))) (rv : RelV v r) (h : ∀ s', Inv X pins σ (upd H D (.dT (putK kvs k v))) s' → Q () s') : wpAny (model X.prog X.w) X.A (dictSet D (.ref b) r) Q E s := by
  obtain ⟨z, lo, xs, rel, dd⟩ := dt_of I.hok hD
  have l1 : (putK kvs k v).length ≤ sizeLine := Nat.le_trans (length_putK kvs k v) hz
  refine wpAny_dictSet_heap (hsz := by rw [← Paired.length rel]; exact z) (knd := tupleKind (mixKind X.prog X.w)) hu (key_of I.hok hb) dd fun h' dd' sb => h _ ?_
  obtain ⟨q, es, ep, e1, e2, e3, e4, _, e5⟩ := dd'
  refine d_write I (by rw [hD]; exact True.intro) sb ⟨q, e1⟩ ⟨l1, lo, _, (rel.put k hb rv).keeps fun c ys ec => ?_, q, es, ep, e1, e2, e3, e4, e5⟩
  rw [upd_ne (ne_of ec hD fun z => nomatch z)]; exact ec
/-- {(..): v for target in iter if ..}: D the new dict -/
def tDcT (wi : TI) (g : TG) (tt : TT) (tk tv : TE) (vs : List Nat) : TE := fun σ H Q => wi σ H fun J H1 => ∀ D, H1 D = none → ∃ W : Nat → Nat → Hp → Prop, (∃ m, W 0 m (upd H1 D (.dT []))) ∧ ∀ i m H, W i m H →
  (J.stop i H ∧ Q (.ref D) H) ∨ (J.go i H ∧ ∃ Nx : Hp → Prop, (∀ H', Nx H' → ∃ m', m' < m ∧ W (i + 1) m' H') ∧ ∀ x H', J.yld i H x H' → g x (wipe σ vs) H' fun σ2 H2 => wipe σ2 vs = wipe σ vs ∧ tt σ2 H2 fun b H3 =>
    if b = true then tk σ2 H3 fun y H4 => tv σ2 H4 fun z H5 => ∃ kvs k b, y = .ref b ∧ H5 b = some (.tup (k.map kV)) ∧ H5 D = some (.dT kvs) ∧ kvs.length < sizeLine ∧ Nx (upd H5 D (.dT (putK kvs k z))) else Nx H3)
abbrev BlkT (X : Cx) (sc : Scope) (q : Cx → Prop) : Prop := ∀ (s : Shared) (H : Hp) (C : Addr) (cl : List (PySem.Str × Addr)) (fp : List Addr), q (X.blk s H sc (compEnvC sc cl C X.env) fp)
theorem coreT {pins : List (Addr × Obj)} {s : Shared} {σ : L2.St} {H : Hp} {Q : VK} {kx vx tg iter : Expr} {ifs : List Expr} {sc : Scope} {own : List (PySem.Str × Nat)} {ps ps' : Pos} {wi : TI} {g : TG} {tt : TT} {tk tv : TE} {use : Option (Value → Sem Unit)} {Qf : Value → Shared → Prop}
    (hu : X.A.units < cLine) (hc : X.calm = true) (hN : X.N.Nodup) (I : Inv X pins σ H s) (hA : PI X tg iter wi) (ok : BlkOk X.N X.env.scope sc own)
    (hg : BlkT X sc fun X => PG X tg g) (ht : BlkT X sc fun X => PTs X ifs tt) (hk : BlkT X sc fun X => PE X kx tk) (he : BlkT X sc fun X => PE X vx tv)
    (hsA : ∀ x, foldedSetIterable iter X.env x = pure x) (h : tDcT wi g tt tk tv (own.map (·.2)) σ H Q)
    (out : ∀ D C s' m H', Inv X pins σ H' s' → Q (.ref D) H' → s'.heap.Ns C m → FpOk X pins H' C → compPost (model X.prog X.w) X.A X.xe use Qf (.ref D) C (.ok .next) s') :
    wpAny (model X.prog X.w) X.A (comprehension (.DictComp kx vx [⟨tg, iter, ifs, 0⟩] sc ps) sc X.env ps' newDict false (eval iter X.env) use) Qf X.xe s := by
  have fr : ∀ y ∈ sc.names, y.2 = .free → ∃ c, X.env.cells.lookup y.1 = some c := fun y hy e => (ok.free y hy e).elim (fun k => I.ok.has _ (.inl k)) (fun k => I.ok.has _ (.inr k))
  refine wpAny_comprehension_free (use := use) rfl hsA (closure_ok fr) ok.kind (fun y hy e => by rw [ok.uniq y hy, e]) (thn (hA.run pins s σ H _ I h) fun xv s1 hx => thn hx fun itv s2 h2 => ?_)
  obtain ⟨it, fp, tn, J, H2, ev, I2, T, st2, f2, q⟩ := h2
  subst ev
  refine wpAny_newObj_type (newEnv_comp ?_)
  generalize hD : s2.heap.objs.size = D
  obtain ⟨W, ⟨m0, w0⟩, turn⟩ := q D (I2.hok.fresh (Nat.le_of_eq hD))
  generalize hs3 : ({ s2 with heap := s2.heap.push { cls := .type "dict", data := .dict #[] } } : Shared) = s3
  have I3 : Inv X pins σ (upd H2 D (.dT [])) s3 := by
    rw [← hs3]; refine I2.laid (t' := s2.toks) (fun b o e => Heap.get?_push_of_some _ e) (Nat.le_of_eq hD) ?_
    rw [← hD]; exact dt_empty s2.heap I2.big
  have h3 : s3.heap = s2.heap.push { cls := .type "dict", data := .dict #[] } := by rw [← hs3]
  have sz : ∀ b ∈ fp, b < s2.heap.objs.size := fun b hb => let ⟨_, e, _⟩ := T.obj _ _ st2 b hb; Heap.lt_size e
  have f3 : ∀ b ∈ fp, FpOk X pins (upd H2 D (.dT [])) b ∧ b < s3.heap.objs.size := fun b hb =>
    ⟨⟨by rw [upd_ne (by rw [← hD]; exact Nat.ne_of_lt (sz b hb))]; exact (f2 b hb).1, (f2 b hb).2⟩, by rw [h3, Heap.size_push]; exact Nat.lt_succ_of_lt (sz b hb)⟩
  have st3 : tn 0 s3.heap := T.keep _ _ _ st2 fun b _ o e => by rw [h3]; exact Heap.get?_push_of_some _ e
  have I4 := block_start I3 ok hN f3
  generalize hH3 : upd H2 D (.dT []) = H3 at I3 I4 w0 f3
  have pg := hg s3 H3 s3.heap.objs.size (cellsFrom (s3.heap.objs.size + 1) sc.names (cloFrom X.env.cells sc.names [])) fp
  have pt := ht s3 H3 s3.heap.objs.size (cellsFrom (s3.heap.objs.size + 1) sc.names (cloFrom X.env.cells sc.names [])) fp
  have pk := hk s3 H3 s3.heap.objs.size (cellsFrom (s3.heap.objs.size + 1) sc.names (cloFrom X.env.cells sc.names [])) fp
  have pe := he s3 H3 s3.heap.objs.size (cellsFrom (s3.heap.objs.size + 1) sc.names (cloFrom X.env.cells sc.names [])) fp
  show codeAny _ _ (.compStart (.DictComp kx vx [⟨tg, iter, ifs, 0⟩] sc ps) 0 (.ref it) (.ref D) (compEnvC sc (cellsFrom (s3.heap.objs.size + 1) sc.names (cloFrom X.env.cells sc.names [])) s3.heap.objs.size X.env)) (compPost (model X.prog X.w) X.A X.xe use Qf (.ref D) s3.heap.objs.size) { s3 with heap := pushCells (s3.heap.push { cls := .type "dict", data := .dict #[] }) sc.names }
  generalize hce : compEnvC sc (cellsFrom (s3.heap.objs.size + 1) sc.names (cloFrom X.env.cells sc.names [])) s3.heap.objs.size X.env = ce at I4 pg pt pk pe ⊢
  have cL : ce.locals = s3.heap.objs.size := by rw [← hce]; rfl
  generalize hs4 : ({ s3 with heap := pushCells (s3.heap.push { cls := .type "dict", data := .dict #[] }) sc.names } : Shared) = s4 at I4 ⊢
  have st4 : tn 0 s4.heap := T.keep _ _ _ st3 fun b _ o e => by rw [← hs4]; exact pushCells_keeps _ _ _ _ (Heap.get?_push_of_some _ e)
  have stat : ∀ {σ' : L2.St} {H' : Hp} {s' : Shared}, Inv (X.blk s3 H3 sc ce fp) [] σ' H' s' → (∀ b ∈ fp, H' b = none) → ∀ b ∈ fp, FpOk (X.blk s3 H3 sc ce fp) [] H' b := fun I' hn b hb =>
    ⟨hn b hb, (I'.ok.exf b hb).1, I'.ok.exfs b hb, .inl hb, fun x c e => (I'.ok.exf b hb).2 x c e, fun p hp => absurd (show p ∈ ([] : List (Addr × Obj)) ++ [] from hp) (by simp)⟩
  have loop : codeAny (model X.prog X.w) X.A (.compLoop (.DictComp kx vx [⟨tg, iter, ifs, 0⟩] sc ps) 0 (.ref it) (.ref D) ce) (compPost (model X.prog X.w) X.A X.xe use Qf (.ref D) s3.heap.objs.size) s4 := by
    refine compLoop_anyD (fun n s' => ∃ i H', Inv (X.blk s3 H3 sc ce fp) [] (wipe σ (own.map (·.2))) H' s' ∧ tn i s'.heap ∧ (∀ b ∈ fp, H' b = none) ∧ W i n H') ?_ m0 ⟨0, H3, I4, st4, fun b hb => (f3 b hb).1.1, w0⟩
    rintro n s5 ⟨i, H5, I5, st5, n5, w5⟩
    rcases turn i n H5 w5 with ⟨stop, qq⟩ | ⟨go, Nx, hNx, step⟩
    · refine thnF (T.done (X.blk s3 H3 sc ce fp) rfl rfl rfl hc i [] s5 _ H5 (fun _ _ => False) I5 (stat I5 n5) st5 stop) fun r s6 ⟨hr, I6⟩ => ?_
      subst hr
      have I7 : Inv X pins σ H5 s6 := I3.call' (ch := fp) I6.os I6.base I6.hok I6.bare fun b hb => ⟨(f3 b hb).1.2.2.2.1, (f3 b hb).1.2.1, (f3 b hb).1.2.2.2.2.1, (f3 b hb).1.2.2.2.2.2⟩
      have nC : H5 s3.heap.objs.size = none := by have z : H5 ce.locals = none := I6.free; rw [cL] at z; exact z
      obtain ⟨m, hn, _⟩ := I6.loc
      have hn : s6.heap.Ns ce.locals m := hn
      rw [cL] at hn
      exact out D s3.heap.objs.size s6 m H5 I7 qq hn (I3.fpOk (Nat.le_refl _) nC)
    · refine thnF (T.item (X.blk s3 H3 sc ce fp) rfl rfl rfl hc i [] s5 _ H5 (fun _ _ => False) I5 (stat I5 n5) st5 go) fun r s6 ⟨u, hr, h6⟩ => ?_
      subst hr
      refine thnF h6 fun _ s7 ⟨x, H7, I7, r7, y7, st7, n7⟩ => ?_
      refine thnF (pg.run _ s7 _ H7 x u _ (I7.pinned (stat I7 n7) (T.obj _ _ st7)) r7 (step x H7 y7)) fun _ s8 ⟨σ8, H8, I8, hw8, q8⟩ => ?_
      have l8 : (wipe σ (own.map (·.2))).length = σ8.length := by rw [← hw8, wipe_length]
      have fin : ∀ {s' : Shared} {H' : Hp}, Inv (X.blk s3 H3 sc ce fp) ([] ++ pinsAt fp s7.heap) σ8 H' s' → Nx H' → ∃ m, m < n ∧ ∃ i H', Inv (X.blk s3 H3 sc ce fp) [] (wipe σ (own.map (·.2))) H' s' ∧ tn i s'.heap ∧ (∀ b ∈ fp, H' b = none) ∧ W i m H' := fun {s' H'} I' nx => by
        obtain ⟨m', hm, w'⟩ := hNx H' nx
        have pin : ∀ b ∈ fp, ∀ o, s7.heap.get? b = some o → s'.heap.get? b = some o ∧ H' b = none := fun b hb o e => let z := I'.pin (b, o) (List.mem_append_right _ (List.mem_append_right _ (mem_pinsAt hb e))); ⟨z.1, z.2.1⟩
        exact ⟨m', hm, i + 1, H', (I'.unpinned (pins := [])).weak l8 (fun j v e => by rw [← hw8] at e; exact (wipe_some e).1), T.keep _ _ _ st7 fun b hb o e => (pin b hb o e).1, fun b hb => let ⟨o, e, _⟩ := T.obj _ _ st7 b hb; (pin b hb o e).2, w'⟩
      refine thnF (pt.run _ s8 σ8 H8 _ I8 q8) fun b s9 ⟨H9, I9, q9⟩ => ?_
      cases b with
      | false =>
        simp only [Bool.false_eq_true, if_false] at q9 ⊢
        exact fin I9 q9
      | true =>
        simp only [if_true] at q9 ⊢
        refine thnF (pk.run _ s9 σ8 H9 _ I9 q9) fun z s10 ⟨yk, H10, I10, r10, q10⟩ => ?_
        refine thnF (pe.run _ s10 σ8 H10 _ I10 q10) fun z2 s11 ⟨yv, H11, I11, r11, kvs, k, c, ek, hc11, hD11, hz11, nx⟩ => ?_
        subst ek
        cases r10
        exact put_tup (X := X.blk s3 H3 sc ce fp) hu I11 hD11 hz11 hc11 r11 fun s12 I12 => fin I12 nx
  exact codeAny_compStart_dict loop (T.self X.A 0 _ _ _ st4 loop)
theorem pe_dcT {kx vx tg iter : Expr} {ifs : List Expr} {sc : Scope} {own : List (PySem.Str × Nat)} {ps : Pos} {wi : TI} {g : TG} {tt : TT} {tk tv : TE} (hu : X.A.units < cLine) (hc : X.calm = true) (hN : X.N.Nodup) (hA : PI X tg iter wi) (ok : BlkOk X.N X.env.scope sc own)
    (hg : BlkT X sc fun X => PG X tg g) (ht : BlkT X sc fun X => PTs X ifs tt) (hk : BlkT X sc fun X => PE X kx tk) (he : BlkT X sc fun X => PE X vx tv) (hsA : ∀ x, foldedSetIterable iter X.env x = pure x := by intro _; rfl) :
    PE X (.DictComp kx vx [⟨tg, iter, ifs, 0⟩] sc ps) (tDcT wi g tt tk tv (own.map (·.2))) := by
  refine ⟨fun pins s σ H Q I h => ?_⟩
  rw [arm_eval_DictComp]
  refine coreT hu hc hN I hA ok hg ht hk he hsA h fun D C s' m H' I' q hn f => ⟨m, hn, fun h'' sb => ?_⟩
  obtain ⟨f0, f1, f2, f3, f4, f5⟩ := f
  exact ⟨.ref D, H', I'.turned (t' := s'.toks) (fun b o hb e => (sb.2 b hb).trans e) f0 f1 f3 f4 f5, rfl, q⟩
theorem dct_it {J : It} {n : Nat} {G : Hp → Prop} {Y : Nat → Hp → V → Hp → Prop} (w : Walk J n G Y) {g : TG} {tt : TT} {tk tv : TE} {vs : List Nat} {σ : L2.St} {H1 : Hp} {D : Addr} {Qd : Hp → Prop} (Pv : Nat → Hp → Prop) (h0 : Pv 0 (L2.upd H1 D (.dT []))) (hG : ∀ i H, i ≤ n → Pv i H → G H)
    (hs : ∀ i x H H', i < n → Pv i H → Y i H x H' → g x (wipe σ vs) H' fun σ2 H2 => wipe σ2 vs = wipe σ vs ∧ tt σ2 H2 fun b H3 =>
      if b = true then tk σ2 H3 fun y H4 => tv σ2 H4 fun z H5 => ∃ kvs k b, y = .ref b ∧ H5 b = some (.tup (k.map kV)) ∧ H5 D = some (.dT kvs) ∧ kvs.length < sizeLine ∧ Pv (i + 1) (L2.upd H5 D (.dT (putK kvs k z))) else Pv (i + 1) H3) (hd : ∀ H, Pv n H → Qd H) :
    ∃ W : Nat → Nat → Hp → Prop, (∃ m, W 0 m (L2.upd H1 D (.dT []))) ∧ ∀ i m H, W i m H →
      (J.stop i H ∧ Qd H) ∨ (J.go i H ∧ ∃ Nx : Hp → Prop, (∀ H', Nx H' → ∃ m', m' < m ∧ W (i + 1) m' H') ∧ ∀ x H', J.yld i H x H' → g x (wipe σ vs) H' fun σ2 H2 => wipe σ2 vs = wipe σ vs ∧ tt σ2 H2 fun b H3 =>
        if b = true then tk σ2 H3 fun y H4 => tv σ2 H4 fun z H5 => ∃ kvs k b, y = .ref b ∧ H5 b = some (.tup (k.map kV)) ∧ H5 D = some (.dT kvs) ∧ kvs.length < sizeLine ∧ Nx (L2.upd H5 D (.dT (putK kvs k z))) else Nx H3) := by
  refine ⟨fun i m H => m = n - i ∧ i ≤ n ∧ Pv i H, ⟨n, by simp, Nat.zero_le _, h0⟩, ?_⟩
  rintro i m H ⟨rfl, hi, p⟩
  have q := hG i H hi p
  by_cases hlt : i < n
  · exact .inr ⟨w.goes i H hlt q, Pv (i + 1), fun H' p' => ⟨n - (i + 1), by omega, rfl, hlt, p'⟩, fun x H' y => hs i x H H' hlt p (w.yields i H x H' hlt q y)⟩
  · obtain rfl : i = n := by omega
    exact .inl ⟨w.stops H q, hd H p⟩
end
end X5
end L2
namespace L2
namespace X5
open PySem PySem.Spec PyProof.Rows
end X5
end L2
namespace L2
namespace X6
open PySem PySem.Spec PyProof.Rows D1
/-- two texts in a tuple -/
def TwoT (h : Heap) (v : Value) (y : Str × Str) : Prop := ∃ (a : Addr) (o : Obj) (t u : Tok) (n : Nat), v = .ref a ∧ h.get? a = some o ∧ o.cls = .type "tuple" ∧ o.data = .seq #[.str y.1 t, .str y.2 u] n
theorem TwoT.uniq {h : Heap} {v : Value} {y z : Str × Str} (p : TwoT h v y) (q : TwoT h v z) : y = z := by
  obtain ⟨a, o, t, u, n, e, ho, hc, hd⟩ := p
  obtain ⟨b, o', t', u', n', e', ho', hc', hd'⟩ := q
  rw [e] at e'
  cases e'
  rw [ho] at ho'
  cases ho'
  rw [hd] at hd'
  cases y; cases z
  simp at hd'
  obtain ⟨⟨⟨e1, _⟩, e2, _⟩, _⟩ := hd'
  rw [e1, e2]
theorem TwoT.keeps {h h' : Heap} {v : Value} {y : Str × Str} (p : TwoT h v y) (k : ∀ b o, v = .ref b → h.get? b = some o → o.cls = .type "tuple" → h'.get? b = some o) : TwoT h' v y := by
  obtain ⟨a, o, t, u, n, e, ho, hc, hd⟩ := p
  exact ⟨a, o, t, u, n, e, k a o e ho hc, hc, hd⟩
instance : Nonempty (Str × Str) := ⟨⟨"", ""⟩⟩
def ltPS (p q : Str × Str) : Bool := if p.1 = q.1 then ltCps p.2.cps.toList q.2.cps.toList else ltCps p.1.cps.toList q.1.cps.toList
/-- in order, alike pairs beside one another -/
def lePS (p q : Str × Str) : Prop := ltPS q p = false
theorem lePS_iff {p q : Str × Str} : lePS p q ↔ (p.1 = q.1 ∧ leS p.2 q.2) ∨ (p.1 ≠ q.1 ∧ leS p.1 q.1) := by
  unfold lePS ltPS
  by_cases h : q.1 = p.1
  · rw [if_pos h]
    exact ⟨fun z => .inl ⟨h.symm, z⟩, fun z => z.elim (fun z => z.2) fun z => absurd h.symm z.1⟩
  · rw [if_neg h]
    exact ⟨fun z => .inr ⟨fun e => h e.symm, z⟩, fun z => z.elim (fun z => absurd z.1.symm h) fun z => z.2⟩
theorem leS_anti {a b : Str} (h : leS a b) (g : leS b a) : a = b := tl_ext (leC_anti h g)
theorem lePS_anti {p q : Str × Str} (h : lePS p q) (g : lePS q p) : p = q := by
  rw [lePS_iff] at h g
  rcases h with ⟨h1, h2⟩ | ⟨h1, h2⟩
  · rcases g with ⟨g1, g2⟩ | ⟨g1, g2⟩
    · exact Prod.ext h1 (leS_anti h2 g2)
    · exact absurd h1.symm g1
  · rcases g with ⟨g1, g2⟩ | ⟨g1, g2⟩
    · exact absurd g1.symm h1
    · exact absurd (leS_anti h2 g2) h1
/-- a list of pairs of texts, each a tuple -/
def Prs (H : Hp) (zs : List (Addr × Str × Str)) : Prop := ∀ z ∈ zs, H z.1 = some (.tup [.str z.2.1, .str z.2.2])
theorem Prs.same {H H' : Hp} {zs : List (Addr × Str × Str)} (h : Prs H zs) (s : Same H H') : Prs H' zs := fun z hz => s _ _ (h z hz)
end X6
end L2
namespace L2
namespace X6
open PySem PySem.Spec PyProof.Rows D1
/-- what a dict with tuples as keys is walked through -/
theorem src_tup {prog : Program} {w : World} {d : Addr} {K0 : Type} {xs : List (K0 × Addr × Value)} {es : Array DictEntry} {ep : Nat} (lo : (d == sysModules) = false) (hx : ∀ i (hi : i < es.size), ∃ y, xs[i]? = some y ∧ es[i].key = .ref y.2.1 ∧ es[i].val = y.2.2) :
    PySem.W.KdlSrc prog w "dict" d d es.size (fun i v => ∃ y, xs[i]? = some y ∧ v = .ref y.2.1) (fun h => h.DictRaw d es ep) where
  type := fun _ m => m.typeIs
  there := fun _ ⟨_, e, _⟩ => ⟨Heap.lt_size e, Heap.lt_size e⟩
  keep := fun _ _ m k => m.at fun o e => k d (.inl rfl) o e
  notList := by decide
  notTuple := by decide
  hint := fun _ _ _ _ m q => PySem.W.kdl_hint_dict m.typeIs q
  iter := fun _ s hh m => by
    have hlt : d < s.heap.objs.size := let ⟨_, e, _⟩ := m; Heap.lt_size e
    exact ⟨_, _, fun _ _ q => wpAny_pyIter_dict_raw lo m q, Walks.keysH hh _ d (Nat.ne_of_lt hlt) es ep hx, ⟨⟨_, Heap.get?_push_size _ rfl, rfl, rfl⟩, m.at fun o e => Heap.get?_push_of_some _ e⟩⟩
/-- the tuples that are the keys -/
def KAt (H : Hp) (zs : List Addr) (kvs : List (List Key × V)) : Prop := Paired (fun z (kv : List Key × V) => H z = some (.tup (kv.1.map kV))) zs kvs
theorem kat_of {H : Hp} : ∀ {kvs : List (List Key × V)} {xs : List (List Key × Addr × Value)}, KT H kvs xs → KAt H (xs.map fun x => x.2.1) kvs
  | _, _, .nil => .nil
  | _, _, .cons h t => .cons h.2.1 (kat_of t)
section
variable {X : Cx}
theorem keys_out {zs : List Addr} : ∀ {us : List Value}, us.length = zs.length → (∀ (j : Nat) v, us[j]? = some v → ∃ z, zs[j]? = some z ∧ v = .ref z) → us = zs.map Value.ref := by
  induction zs with
  | nil => intro us hl _; exact List.length_eq_zero_iff.mp hl
  | cons z r ih =>
    intro us hl h
    match us, hl, h with
    | u :: us, hl, h =>
      obtain ⟨y, e1, e2⟩ := h 0 u rfl
      have e1 : z = y := Option.some.inj e1
      rw [e2, ← e1, ih (by simpa using hl) fun j v e => h (j + 1) v e]; rfl
theorem refs_are : ∀ zs : List Addr, Vals (zs.map V.ref) (zs.map Value.ref)
  | [] => .nil
  | _ :: r => .cons rfl (refs_are r)
/-- list(d) -/
theorem call_listT (hc : X.calm = true) : CallR X (.type "list") (fun xs H Q => ∃ (a : Addr) (kvs : List (List Key × V)), xs = [.ref a] ∧ Rd H a (.dT kvs) ∧ ∀ zs p, KAt H zs kvs → H p = none → Q (.ref p) (L2.upd H p (.lst (zs.map V.ref)))) := by
  intro pins s σ H xs us Q I r q
  obtain ⟨a, kvs, rfl, hd, q⟩ := q
  obtain rfl := Vals.ref1 r
  obtain ⟨z, lo, ys, rel, dd⟩ := dt_rd I.hok hd
  obtain ⟨es, ep, raw, len, hx⟩ := dd.raw
  have ly : ys.length = kvs.length := (Paired.length rel).symm
  refine PySem.W.kdl_call (src_tup (xs := ys) (ep := ep) lo fun i hi => let ⟨y, h1, h2, h3, _⟩ := hx i hi; ⟨y, h1, h2, h3⟩) (I.ok.hd hc) raw (by omega) fun h' tk acc c' hk hD hacc => ?_
  have ea : acc.toList = (ys.map fun x => x.2.1).map Value.ref := keys_out (by rw [Array.length_toList, hacc.1, List.length_map, len]) fun j v e => by
    obtain ⟨y, e1, e2⟩ := hacc.2 j v (by rw [← Array.getElem?_toList]; exact e)
    exact ⟨y.2.1, by rw [List.getElem?_map, e1]; rfl, e2⟩
  refine ⟨.ref s.heap.objs.size, L2.upd H s.heap.objs.size (.lst ((ys.map fun x => x.2.1).map V.ref)), I.laid (t' := tk) hk (Nat.le_refl _)
    (show ObjOk X.prog X.w _ _ _ (.lst ((ys.map fun x => x.2.1).map V.ref)) from ⟨by rw [List.length_map, List.length_map, ly]; exact z, acc.toList, c', by rw [ea]; exact refs_are _, by rw [Array.toArray_toList]; exact hD⟩), rfl, q _ _ (kat_of rel) (I.hok.fresh (Nat.le_refl _))⟩
/-- two texts as a key -/
def kP (p : Str × Str) : List Key := [.inr p.1, .inr p.2]
end
end X6
end L2
namespace L2
namespace D1
open PySem PySem.Spec PyProof.Rows D2
theorem RForm.ord {k : Str} {ts : List (Str × Str)} (nd : (ts.map (·.1)).Nodup) (h : RForm k ts) : RForm k (ordT ts) := by
  rcases h with ⟨a, b⟩ | ⟨a, b, c, d⟩
  · exact .inl ⟨a, by rw [b]; rfl⟩
  · refine .inr ⟨a, fun e => b ?_, by rw [ordT_len]; exact c, fun t ht => d t ((mem_ordT nd).mp ht)⟩
    have := ordT_len ts
    rw [e] at this
    exact List.length_eq_zero_iff.mp this.symm
theorem DOk.ord {bk : Bk} {st : Str} (h : DOk bk st) : DOk (ordB bk) st := by
  refine ⟨⟨ordB_ne h.ne, h.ond, by rw [ordB_len]; exact h.len, fun r hr => ?_, fun r hr => ?_⟩, fun r hr => ?_, by rw [ordB_names]; exact (srt_perm _).mem_iff.mpr h.st⟩
  · obtain ⟨r0, h0, e1, e2, e3⟩ := mem_ordB h.nd hr
    obtain ⟨a, b, c⟩ := h.rs r0 h0
    rw [e1, e2, e3]
    refine ⟨a, b.ord (h.tk r0 h0), fun t ht => ?_⟩
    rw [ordB_names]
    exact (srt_perm _).mem_iff.mpr (c t ((mem_ordT (h.tk r0 h0)).mp ht))
  · obtain ⟨r0, h0, _, _, e3⟩ := mem_ordB h.nd hr
    rw [e3, ordT_len]; exact h.len2 r0 h0
  · obtain ⟨r0, h0, _, _, e3⟩ := mem_ordB h.nd hr
    rw [e3]; exact ordT_nd (h.tk r0 h0)
end D1
end L2
namespace L2
namespace D1
open PySem PySem.Spec PyProof.Rows D2
theorem rd_lock {H : Hp} {a N : Addr} {o u : HO} {od : Obj} (h : Rd H N o) (ha : H a = some u) (hm : ∀ x y, u ≠ .frz x y) : Rd (L2.upd H a (.frz od u)) N o := by
  by_cases e : N = a
  · subst e
    rcases h with h | ⟨od', h⟩
    · rw [ha] at h; cases h
      exact .inr ⟨od, upd_same⟩
    · rw [ha] at h; exact absurd (Option.some.inj h) (hm _ _)
  · rcases h with h | ⟨od', h⟩
    · exact .inl (by rw [upd_ne e]; exact h)
    · exact .inr ⟨od', by rw [upd_ne e]; exact h⟩
theorem DeskAt.lock {C : Addr} {H : Hp} {q b : Addr} {bk bk' : Bk} {st : Str} {kvs : List (Key × V)} {od : Obj} (h : DeskAt C H q bk st) (hb : H b = some (.dK kvs)) (hR : Rows H kvs bk') (ne : bk' ≠ []) : DeskAt C (L2.upd H b (.frz od (.dK kvs))) q bk st := by
  obtain ⟨dx, c, e, ⟨kv2, e2, r2⟩⟩ := h
  refine ⟨dx, c, by rw [upd_ne fun z => by rw [z, hb] at e; cases e]; exact e, kv2, rd_lock e2 hb (fun _ _ e => by cases e), ?_⟩
  unfold Rows at r2 ⊢
  clear e2 e
  generalize ordB bk = bb at r2
  induction r2 with
  | nil => exact .nil
  | cons h1 _ ih =>
    obtain ⟨e1, t, a, ev, ht, ha⟩ := h1
    refine .cons ⟨e1, t, a, ev, by rw [upd_ne fun z => by rw [z, hb] at ht; cases ht]; exact ht, ?_⟩ ih
    rw [TurnsAt, upd_ne (book_ne hb hR ne ha)]; exact ha
end D1
end L2
namespace L2
namespace D1
open PySem PySem.Spec PyProof.Rows D2
def flipK (k : Str) : Str := if k = "says" then "hears" else if k = "hears" then "says" else "done"
def turnB (bk : Bk) : Bk := bk.map fun r => (r.1, flipK r.2.1, r.2.2)
theorem turnB_names (bk : Bk) : (turnB bk).map (·.1) = bk.map (·.1) := by rw [turnB, List.map_map]; rfl
theorem flip_kind {k : Str} {ts : List (Str × Str)} (h : RForm k ts) : k = "says" ∨ k = "hears" ∨ k = "done" := by
  rcases h with ⟨a, _⟩ | ⟨a, _⟩
  · exact .inr (.inr a)
  · exact a.elim .inl fun z => .inr (.inl z)
theorem flip_form {k : Str} {ts : List (Str × Str)} (h : RForm k ts) : RForm (flipK k) ts := by
  rcases h with ⟨a, b⟩ | ⟨a, b⟩
  · subst a; exact .inl ⟨by decide +kernel, b⟩
  · rcases a with a | a
    · subst a; exact .inr ⟨.inr (by decide +kernel), b⟩
    · subst a; exact .inr ⟨.inl (by decide +kernel), b⟩
theorem DOk.turn {bk : Bk} {st : Str} (ok : DOk bk st) : DOk (turnB bk) st := by
  have hr : ∀ r ∈ turnB bk, ∃ r0 ∈ bk, r = (r0.1, flipK r0.2.1, r0.2.2) := fun r h => let ⟨r0, a, b⟩ := List.mem_map.mp h; ⟨r0, a, b.symm⟩
  refine ⟨⟨fun e => ok.ne (List.map_eq_nil_iff.mp e), by rw [turnB_names]; exact ok.nd, by rw [turnB, List.length_map]; exact ok.len, fun r h => ?_, fun r h => ?_⟩, fun r h => ?_, by rw [turnB_names]; exact ok.st⟩
  · obtain ⟨r0, h0, rfl⟩ := hr r h
    obtain ⟨a, b, c⟩ := ok.rs r0 h0
    exact ⟨a, flip_form b, by rw [turnB_names]; exact c⟩
  · obtain ⟨r0, h0, rfl⟩ := hr r h; exact ok.len2 r0 h0
  · obtain ⟨r0, h0, rfl⟩ := hr r h; exact ok.tk r0 h0
end D1
end L2
namespace L2
namespace D1
open PySem PySem.Spec PyProof.Rows D2
abbrev sLTurned : Stmt := top 43
def spLTurned : Sp := fun vs H Q _ => ∃ (W : Addr) (bk : Bk) (st : Str), vs = [.ref W] ∧ WorldAt H W bk st ∧ DOk bk st ∧ ∀ H' R, Same H H' → H R = none → WorldAt H' R (turnB bk) st → Q (.ref R) H'
def thT : List (Str × Str) := [("says", "hears"), ("hears", "says"), ("done", "done")]
theorem thT_nd : (thT.map (·.1)).Nodup := by decide +kernel
theorem thT_goal {k : Str} {ts : List (Str × Str)} (h : RForm k ts) : valV (kT thT) (.inr k) = some (.str (flipK k)) := by
  rcases flip_kind h with rfl | rfl | rfl
  · rw [valV_goal (by decide +kernel)]; decide +kernel
  · rw [valV_goal (by decide +kernel)]; decide +kernel
  · rw [valV_goal (by decide +kernel)]; decide +kernel
section
variable {P : Program} {w : World} {K : PySem.W.Frag} {mg : Str → Option Value} {base : Heap}
abbrev ltN : List Str := ["_law_world_here", "_law_theirs", "_law_state"]
theorem scLt : FnScope ltN ["_law_world_here"] (defScope sLTurned) := ⟨rfl, rfl, rfl, by decide +kernel, rfl, by decide +kernel, by decide +kernel⟩
theorem ok_lturned {f : Addr} {fd : FuncData} (F : Fun K "_law_turned" "_law_turned" sLTurned f fd) (T : Free3 mg) : FnOk P w K mg base CX0 1 f fd ["_law_world_here"] spLTurned := by
  refine F.ok scLt (fun vs H Q E h => ?_) (fun cdv A outer s H vs Q E hr h => ?_)
  · obtain ⟨W, bk, st, rfl, _⟩ := h; rfl
  · obtain ⟨W, bk, st, rfl, ⟨b, hW, ⟨kvs, hb, hR⟩⟩, ok, k⟩ := h
    have hu := hu_of hr
    refine ⟨_, pss_cons (ps_set (i := 1) scLt.nd rfl (Or.inr rfl) (pe_disp (pps_cons pe_str pe_str (pps_cons pe_str pe_str (pps_cons pe_str pe_str pps_nil))) (by rfl) (by rfl) (fun z => by cases z) (by show 3 ≤ 15; decide)))
      (pss_one (ps_ret (pe_lst (pa_cons (pe_callTy (call_dictP rfl) (by rfl) T.dict (by decide +kernel) (pa_cons (pe_lock (pe_lc (own := [("_law_state", 2)]) (g := gName 2) (tt := tYes)
        (te := tTup (tCons (tVar 2) (tCons (tTup (tCons (tDGet (tVar 1) (tOp (rIxT K) (tDGet (tOp (rIxL K) (tVar 0) (tC (.int 0))) (tVar 2)) (tC (.int 0)))) (tCons (tOp (rIxT K) (tDGet (tOp (rIxL K) (tVar 0) (tC (.int 0))) (tVar 2)) (tC (.int 1))) tNil))) tNil)))
        rfl scLt.nd (pi_keys (pe_ix ix_list (pv 0) pe_int (fun _ _ => rfl)))
        (blkOk_by (N := ltN) (sc := defScope sLTurned) (by decide +kernel)) (fun _ _ _ _ _ => pg_name (i := 2) scLt.nd rfl (Or.inl rfl)) (fun _ _ _ _ _ => pts_nil)
        (fun _ _ _ _ _ => pe_tup (pa_cons (pv 2) (pa_cons (pe_tup (pa_cons (pe_dget hu (pv 1) (pe_ix ix_tup (pe_dget hu (pe_ix ix_list (pv 0) pe_int (fun _ _ => rfl)) (pv 2) (fun _ _ => rfl)) pe_int (fun _ _ => rfl)) (fun _ _ => rfl)) (pa_cons (pe_ix ix_tup (pe_dget hu (pe_ix ix_list (pv 0) pe_int (fun _ _ => rfl)) (pv 2) (fun _ _ => rfl)) pe_int (fun _ _ => rfl)) pa_nil))) pa_nil))))) pa_nil))
        (pa_cons (pe_ix ix_list (pv 0) pe_int (fun _ _ => rfl)) pa_nil))))), ?_⟩
    intro Td hTd
    refine ⟨upd_same, kT thT, rfl, by show 3 ≤ 15; decide, ?_⟩
    rw [merge_id2 (by rw [kT_keys]; exact inr_nd' thT_nd), updd2]
    have g0 := Same.new (o := .dK (kT thT)) hTd
    have eT0 : TurnsAt (L2.upd H Td (.dK (kT thT))) Td thT := upd_same
    have nTb : Td ≠ b := (ne_of_none hb hTd).symm
    generalize L2.upd H Td (.dK (kT thT)) = H0 at g0 eT0
    have hW0 := g0 _ _ hW
    have hb0 := g0 _ _ hb
    have hR0 := hR.same g0
    refine ⟨b, _, hb0, trivial, fun od => ?_⟩
    have nWb : W ≠ b := fun e => by rw [e, hb] at hW; cases hW
    have hWL : (L2.upd H0 b (.frz od (.dK kvs))) W = some (.lst [.ref b, .str st]) := by rw [upd_ne nWb]; exact hW0
    have hTL : TurnsAt (L2.upd H0 b (.frz od (.dK kvs))) Td thT := by rw [TurnsAt, upd_ne nTb]; exact eT0
    have hRL := hR0.lock (o := .frz od (.dK kvs)) hb0 ok.ne
    refine ⟨_, rfl, W, _, _, _, rfl, rfl, SqL.of hWL, atI_nat (j := 0) rfl, b, od, rfl, .inl ⟨kvs, upd_same, fun M hM => ?_⟩⟩
    have nM : b ≠ M := fun e => by rw [← e, upd_same] at hM; cases hM
    have lb := ok.len
    refine lc_it (walk_keys (d := b) (o := od) (kvs := kvs)) (fun i H' => Same (L2.upd H0 b (.frz od (.dK kvs))) H' ∧ ∃ (ps : List Addr) (kv2 : List (Key × V)), H' M = some (.lst (ps.map V.ref)) ∧ Paired (fun p (kv : Key × V) => (cut [M] H') p = some (.tup [kV kv.1, kv.2])) ps kv2 ∧ Rows (cut [M] H') kv2 (turnB (bk.take i))) ⟨Same.new hM, [], [], upd_same, .nil, .nil⟩ (fun i H' _ z => z.1 _ _ upd_same) ?_ ?_
    · rintro i x H2 H3 hi ⟨sm, ps, kv2, hM2, hp, hR2⟩ ⟨rfl, kk, v0, hkv, rfl⟩
      obtain ⟨r, hr', rfl, _⟩ := hR.at hkv
      have hrm : r ∈ bk := List.mem_of_getElem? hr'
      have hs : r.1 ∈ bk.map (·.1) := List.mem_map_of_mem hrm
      obtain ⟨v, ev, ⟨t, a, rfl, ht, ha⟩, _⟩ := (hRL.same sm).look hs
      rw [rowOf_self ok.nd hrm] at ht ha
      have hW3 := SqL.of (K := K) (sm _ _ hWL)
      have hil : i < bk.length := (List.getElem?_eq_some_iff.mp hr').1
      have dg : DGet H3 b (V.str r.1) (some (.ref t)) := .inl ⟨kvs, .inr r.1, .inr ⟨od, sm _ _ upd_same⟩, rfl, ev.symm⟩
      refine ⟨rfl, ?_⟩
      dsimp only [tYes]
      rw [if_pos rfl]
      refine ⟨_, rfl, _, rfl, _, rfl, W, _, _, _, rfl, rfl, hW3, atI_nat (j := 0) rfl, _, rfl, b, _, rfl, dg, t, _, _, _, rfl, rfl, SqT.of ht, atI_nat (j := 0) rfl, Td, _, rfl, .inl ⟨kT thT, .inr r.2.1, .inl (sm _ _ hTL), rfl, (thT_goal (ok.rs r hrm).2.1).symm⟩, ?_⟩
      refine ⟨_, rfl, W, _, _, _, rfl, rfl, hW3, atI_nat (j := 0) rfl, _, rfl, b, _, rfl, dg, t, _, _, _, rfl, rfl, SqT.of ht, atI_nat (j := 1) rfl, ?_⟩
      refine ⟨by show 2 ≤ sizeLine; decide, fun T1 hT1 => ⟨by show 2 ≤ sizeLine; decide, fun T2 hT2 => ?_⟩⟩
      have g2 := Same.new (o := .tup [.str (flipK r.2.1), .ref a]) hT1
      have g3 := Same.new (o := .tup [.str r.1, .ref T1]) hT2
      have g := Same.trans g2 g3
      have nT : T1 ≠ M := fun e => by rw [e, hM2] at hT1; cases hT1
      have nT2 : T2 ≠ M := fun e => by rw [e, g2 _ _ hM2] at hT2; cases hT2
      have naM : a ≠ M := fun e => by rw [TurnsAt, e, hM2] at ha; cases ha
      have lps : ps.length = kv2.length := paired_len hp
      have lkv : kv2.length = i := by rw [hR2.len, turnB, List.length_map, List.length_take]; omega
      refine ⟨_, g _ _ hM2, by rw [List.length_map, lps, lkv, sizeLine_eq]; omega, fun c u e => ?_, ps ++ [T2], kv2 ++ [(.inr r.1, .ref T1)], by rw [upd_same, List.map_append]; rfl, ?_, ?_⟩
      · rw [upd_ne (ne_of_none e hM)]; exact g _ _ (sm _ _ e)
      · rw [cut_upd (by simp)]
        have hp' := paired_imp (fun p (kv : Key × V) (e : (cut [M] H3) p = some (.tup [kV kv.1, kv.2])) => cut_same g _ _ e) hp
        exact pair_app hp' (by rw [cut_out (by simpa using nT2)]; exact upd_same)
      · rw [cut_upd (by simp), take_succ_get hr']
        unfold turnB
        rw [List.map_append]
        refine (hR2.same (cut_same g)).app ⟨T1, a, rfl, ?_, ?_⟩
        · rw [cut_out (by simpa using nT)]; exact g3 _ _ upd_same
        · rw [TurnsAt, cut_out (by simpa using naM)]; exact g _ _ ha
    · rintro H2 ⟨sm, ps, kv2, hM2, hp, hR2⟩
      have hl : kvs.length = bk.length := hR.len
      rw [hl, List.take_length] at hR2
      have su := Same.unlock hb0 sm
      have hp3 : Paired (fun p (kv : Key × V) => SqT K (L2.upd H2 b (.dK kvs)) p [kV kv.1, kv.2]) ps kv2 := paired_imp (fun p kv e => SqT.of (unl_at (sm _ _ upd_same) (cut_le _ _ e))) hp
      refine ⟨sm _ _ upd_same, M, ps, kv2, rfl, SqL.of (by rw [upd_ne nM.symm]; exact hM2), hp3, fun B hB => ?_⟩
      have e1 : kv2.map (·.1) = ((turnB bk).map (·.1)).map Sum.inr := by rw [hR2.keys, List.map_map]; rfl
      rw [merge_id2 (by rw [e1, turnB_names]; exact inr_nd' ok.nd)]
      have hR3 : Rows (L2.upd H2 b (.dK kvs)) kv2 (turnB bk) := rows_unl (sm _ _ upd_same) (hR2.same cut_le)
      have s3 := Same.new (o := .dK kv2) hB
      have eB : (L2.upd (L2.upd H2 b (.dK kvs)) B (.dK kv2)) B = some (.dK kv2) := upd_same
      have hR4 := hR3.same s3
      have s03 := Same.trans (Same.trans g0 su) s3
      generalize L2.upd (L2.upd H2 b (.dK kvs)) B (.dK kv2) = H4 at s03 eB hR4
      refine ⟨_, rfl, W, _, _, _, rfl, rfl, SqL.of (s03 _ _ hW), atI_nat (j := 1) rfl, by show 2 ≤ sizeLine; decide, fun R hRn => ?_⟩
      have s5 := Same.new (o := .lst [.ref B, .str st]) hRn
      exact k _ R (Same.trans s03 s5) (s03.free hRn) ⟨B, upd_same, kv2, s5 _ _ eB, hR4.same s5⟩
end
end D1
end L2
namespace L2
namespace D1
open PySem PySem.Spec PyProof.Rows D2
abbrev sChRow : Stmt := top 44
def dropT (ts : List (Str × Str)) (k : Str) : List (Str × Str) := ts.filter fun t => decide (t.1 ≠ k)
theorem dropK_kT (ts : List (Str × Str)) (k : Str) : dropK (kT ts) (.inr k) = kT (dropT ts k) := by
  unfold dropK dropT kT
  rw [List.filter_map]
  congr 1
  refine List.filter_congr fun t _ => ?_
  show decide ((Sum.inr t.1 : Key) ≠ Sum.inr k) = decide (t.1 ≠ k)
  by_cases h : t.1 = k
  · rw [h]; simp
  · have : ¬ (Sum.inr t.1 : Key) = Sum.inr k := fun e => h (Sum.inr.inj e)
    simp [h, this]
theorem TOk.drop {ts : List (Str × Str)} {ss ws : List Str} {k : Str} (h : TOk ts ss ws) : TOk (dropT ts k) ss ws :=
  ⟨List.Nodup.sublist (List.filter_sublist.map _) h.nd, fun t ht => h.ks t (List.mem_filter.mp ht).1, fun t ht => h.gs t (List.mem_filter.mp ht).1⟩
theorem dropT_ne {ts : List (Str × Str)} {k : Str} (nd : (ts.map (·.1)).Nodup) (l : 1 < ts.length) : dropT ts k ≠ [] := fun e => by
  have h : ∀ t ∈ ts, t.1 = k := fun t ht => by
    by_cases c : t.1 = k
    · exact c
    · have : t ∈ dropT ts k := List.mem_filter.mpr ⟨ht, decide_eq_true c⟩
      rw [e] at this; cases this
  match ts, l with
  | a :: b :: r, _ =>
    have n := (List.nodup_cons.mp nd).1
    exact n (by show a.1 ∈ _; rw [h a (by simp), ← h b (by simp)]; simp)
def spChRow : Sp := fun vs H Q _ => ∃ (p W S : Addr) (v : V) (k : Str) (ts : List (Str × Str)) (ss ws : List Str) (t : Int), vs = [.ref p, v, .ref W, .ref S] ∧ Purse H p t ∧ RowAt (cut [p] H) v k ts ∧ (k = "says" ∨ k = "hears") ∧ ts ≠ [] ∧ TOk ts ss ws ∧ SL H W ws ∧ SL H S ss ∧ W ≠ p ∧ S ≠ p ∧ WsOk ws ∧ 1 ≤ ss.length ∧ ss.length ≤ 60 ∧ t < 2 ^ 26 ∧
  ∀ (H' : Hp) (R : Addr) (k' : Str) (ts' : List (Str × Str)) (t' : Int), But p H H' → Purse H' p t' → t' ≤ t + 10 → RowAt (newH H H') (.ref R) k' ts' → (k' = "says" ∨ k' = "hears") → ts' ≠ [] → TOk ts' ss ws → Q (.ref R) H'
section
variable {P : Program} {w : World} {K : PySem.W.Frag} {mg : Str → Option Value} {base : Heap}
abbrev crN : List Str := ["_law_purse_here", "_law_row", "_law_words_here", "_law_states", "_law_kind", "_law_turns_here", "_law_way", "_law_word_here"]
theorem scCr : FnScope crN ["_law_purse_here", "_law_row", "_law_words_here", "_law_states"] (defScope sChRow) := ⟨rfl, rfl, rfl, by decide +kernel, rfl, by decide +kernel, by decide +kernel⟩
theorem ok_chrow {f : Addr} {fd : FuncData} (F : Fun K "_law_changed_row" "_law_changed_row" sChRow f fd) (T : Free3 mg) (CD : CDraw P w K mg base) (CO : COne P w K mg base) : FnOk P w K mg base CX0 4 f fd ["_law_purse_here", "_law_row", "_law_words_here", "_law_states"] spChRow := by
  refine F.ok scCr (fun vs H Q E h => ?_) (fun cdv A outer s H vs Q E hr h => ?_)
  · obtain ⟨p, W, S, v, k, ts, ss, ws, t, rfl, _⟩ := h; rfl
  · obtain ⟨p, W, S, v, kd, ts, ss, ws, t, rfl, hp, ⟨tu, a, rfl, htu, ha⟩, kk, tne, tok, hW, hS, nW, nS, wok, s1, s2, t1, k⟩ := h
    have hu := hu_of hr
    refine ⟨_, pss_cons (ps_par (i := 4) (j := 5) rfl scCr.nd rfl rfl (by decide) rfl rfl (pa_cons (pe_ix ix_tup (pv 1) pe_int (fun _ _ => rfl)) (pa_cons (pe_callTy call_dictD (by rfl) T.dict (by decide +kernel) (pa_cons (pe_ix ix_tup (pv 1) pe_int (fun _ _ => rfl)) pa_nil)) pa_nil)) (by rfl))
      (pss_cons (ps_par (i := 6) (j := 7) rfl scCr.nd rfl rfl (by decide) rfl rfl (pa_cons (pe_cal CD (hr.mono (by decide)) rfl (pa_cons (pv 0) (pa_cons pe_int pa_nil))) (pa_cons (pe_cal CO (hr.mono (by decide)) rfl (pa_cons (pv 0) (pa_cons (pv 2) pa_nil))) pa_nil)) (by rfl))
      (pss_cons (ps_if (PW.pt (pw_and (pt_cmpR op_lt (pv 6) pe_int (nomark _)) (pw_and1 (pt_cmpR op_gt (pe_callB call_lenD (by rfl) T.len PySem.boot_len (pa_cons (pv 5) pa_nil)) pe_int (nomark _)))))
          (pss_one (ps_expr (pe_dpop1 (pv 5) (pe_cal CO (hr.mono (by decide)) rfl (pa_cons (pv 0) (pa_cons (pe_callTy (call_listD rfl) (by rfl) T.list (by decide +kernel) (pa_cons (pv 5) pa_nil)) pa_nil))) ⟨rfl, rfl, rfl, rfl⟩)))
          (pss_one (ps_if (PW.pt (pw_and (pt_cmpR op_eq (pv 6) pe_int (nomark _)) (pw_and1 (pt_cmpR op_lt (pe_callB call_lenD (by rfl) T.len PySem.boot_len (pa_cons (pv 5) pa_nil)) pe_int (nomark _)))))
            (pss_one (ps_dput hu (pv 5) (pv 7) (pe_cal CO (hr.mono (by decide)) rfl (pa_cons (pv 0) (pa_cons (pv 3) pa_nil))) rfl))
            (pss_one (ps_if (pt_cmpR op_eq (pv 6) pe_int (nomark _))
              (pss_one (ps_set (i := 4) scCr.nd rfl (Or.inl rfl) (pe_ifExp (pt_cmpR op_eq (pv 4) pe_str (nomark _)) pe_str pe_str)))
              (pss_one (ps_dput hu (pv 5) (pe_cal CO (hr.mono (by decide)) rfl (pa_cons (pv 0) (pa_cons (pe_callTy (call_listD rfl) (by rfl) T.list (by decide +kernel) (pa_cons (pv 5) pa_nil)) pa_nil))) (pe_cal CO (hr.mono (by decide)) rfl (pa_cons (pv 0) (pa_cons (pv 3) pa_nil))) rfl)))))))
      (pss_one (ps_ret (pe_tup (pa_cons (pv 4) (pa_cons (pv 5) pa_nil))))))), ?_⟩
    have htu := cut_le _ _ htu
    have ha : TurnsAt H a ts := cut_le _ _ ha
    have lts := tok.len
    have wl := wok.hi
    have wlo := wok.lo
    refine ⟨_, rfl, tu, _, _, _, rfl, rfl, SqT.of htu, atI_nat (j := 0) rfl, _, rfl, tu, _, _, _, rfl, rfl, SqT.of htu, atI_nat (j := 1) rfl, a, kT ts, rfl, .inl ha, fun D hD => ⟨_, _, rfl, ?_⟩⟩
    have nDp := hp.ne hD
    have b1 : But p H (L2.upd H D (.dK (kT ts))) := But.new hD
    have hD1 : TurnsAt (L2.upd H D (.dK (kT ts))) D ts := upd_same
    have hp1 := hp.new (o := .dK (kT ts)) hD
    generalize L2.upd H D (.dK (kT ts)) = H1 at b1 hD1 hp1
    refine ⟨_, rfl, p, 6, t, rfl, hp1, by decide, by decide, by omega, fun way t2 o2 r0 r1 tt2 hp2 => ?_⟩
    have b2 := b1.trans (But.upd p H1 o2)
    have hD2 : TurnsAt (L2.upd H1 p o2) D ts := by rw [TurnsAt, upd_ne nDp]; exact hD1
    generalize L2.upd H1 p o2 = H2 at b2 hD2 hp2
    have hW2 : SL H2 W ws := b2 _ _ nW hW
    refine ⟨_, rfl, _, rfl, p, W, _, t2, rfl, hp2, hW2, nW, by rw [List.length_map]; omega, by rw [List.length_map]; omega, by omega, fun j3 v3 t3 o3 hj3 tt3 hp3 => ⟨_, _, rfl, ?_⟩⟩
    obtain ⟨w3, hw3, rfl⟩ := get_map hj3
    have hwm := List.mem_of_getElem? hw3
    have b3 := b2.trans (But.upd p H2 o3)
    have hD3 : TurnsAt (L2.upd H2 p o3) D ts := by rw [TurnsAt, upd_ne nDp]; exact hD2
    generalize L2.upd H2 p o3 = H3 at b3 hD3 hp3
    have hS3 : SL H3 S ss := b3 _ _ nS hS
    have kl : (kT ts).length = ts.length := by rw [kT, List.length_map]
    have ek : (kT ts).map (fun kv => kV kv.1) = (ts.map (·.1)).map V.str := by rw [kT, List.map_map, List.map_map]; rfl
    have tpos : 0 < ts.length := List.length_pos_iff.mpr tne
    have fin : ∀ (H5 : Hp) (k' : Str) (ts' : List (Str × Str)) (t5 : Int), But p H H5 → Purse H5 p t5 → t5 ≤ t + 10 → TurnsAt H5 D ts' → (k' = "says" ∨ k' = "hears") → ts' ≠ [] → TOk ts' ss ws → ∀ R, H5 R = none → Q (.ref R) (L2.upd H5 R (.tup [.str k', .ref D])) := fun H5 k' ts' t5 b5 hp5 tt5 hD5 kk' ne' tok' R hR => by
      have nDR : D ≠ R := ne_of_none hD5 hR
      have nRp := hp5.ne hR
      have gR := Same.new (o := .tup [.str k', .ref D]) hR
      refine k _ R k' ts' t5 (b5.newt hR) (hp5.new hR) tt5 ⟨R, D, rfl, ?_, ?_⟩ kk' ne' tok'
      · rw [new_out (b5.fr hR nRp)]; exact upd_same
      · rw [TurnsAt, new_out hD]; exact gR _ _ hD5
    have pick : ∀ (H4 : Hp), TurnsAt H4 D ts → ∀ q, H4 q = none → (L2.upd H4 q (.lst ((ts.map (·.1)).map V.str))) q = some (.lst ((ts.map (·.1)).map V.str)) := fun H4 _ q _ => upd_same
    refine ⟨_, rfl, _, _, rfl, rfl, _, rfl, ite2 (fun c1 => ?_) (fun c1 => ?_)⟩
    · refine ⟨_, rfl, D, kT ts, rfl, hD3, _, _, rfl, rfl, _, rfl, ite2 (fun c2 => ?_) (fun c2 => ?_)⟩
      · refine ⟨_, rfl, D, rfl, .inl ⟨_, .inl hD3⟩, _, rfl, _, rfl, D, _, rfl, .inl hD3, fun q7 hq7 => ?_⟩
        rw [ek]
        refine ⟨p, q7, _, t3, rfl, hp3.new hq7, upd_same, hp3.ne hq7, by rw [List.length_map, List.length_map]; omega, by rw [List.length_map, List.length_map]; omega, by omega, fun j v t8 o8 hj8 tt8 hp8 => ?_⟩
        obtain ⟨k8, hk8, rfl⟩ := get_map hj8
        have hkt : k8 ∈ ts.map (·.1) := List.mem_of_getElem? hk8
        have hkm : k8 ∈ ws := by
          obtain ⟨u, hu, e⟩ := List.mem_map.mp hkt
          rw [← e]; exact tok.ks u hu
        refine ⟨kT ts, Sum.inr k8, _, by rw [upd_ne nDp]; exact hD3.same (Same.new hq7), rfl, valV_goal hkt, ?_⟩
        rw [dropK_kT]
        exact ⟨_, rfl, _, rfl, by show 2 ≤ sizeLine; decide, fin _ kd _ t8 (But.ofL hD ((b3.newt hq7).trans (But.upd p _ o8))) (hp8.upd nDp.symm) (by omega) upd_same kk (dropT_ne tok.nd (by have := of_decide_eq_true c2; rw [kl] at this; omega)) tok.drop⟩
      · refine ⟨_, rfl, rfl, _, rfl, ite2 (fun c3 => ?_) (fun c3 => ?_)⟩
        · refine ⟨_, rfl, D, kT ts, rfl, hD3, _, _, rfl, rfl, _, rfl, ite2 (fun c4 => ?_) (fun c4 => ?_)⟩
          · refine ⟨_, rfl, _, rfl, p, S, _, t3, rfl, hp3, hS3, nS, by rw [List.length_map]; omega, by rw [List.length_map]; omega, by omega, fun j v t4 o4 hj4 tt4 hp4 => ?_⟩
            obtain ⟨g, hg, rfl⟩ := get_map hj4
            have hgm := List.mem_of_getElem? hg
            have b4 := b3.trans (But.upd p H3 o4)
            have hD4 : TurnsAt (L2.upd H3 p o4) D ts := by rw [TurnsAt, upd_ne nDp]; exact hD3
            generalize L2.upd H3 p o4 = H4 at b4 hD4 hp4
            refine ⟨_, rfl, _, rfl, D, _, rfl, DPut.k (kvs := kT ts) (k := Sum.inr w3) hD4 (by rw [kl, sizeLine_eq]; omega), ?_⟩
            rw [putK_kT]
            exact ⟨_, rfl, _, rfl, by show 2 ≤ sizeLine; decide, fin _ kd _ t4 (But.ofL hD b4) (hp4.upd nDp.symm) (by omega) upd_same kk putT_ne (tok.put hwm hgm)⟩
          · refine ⟨_, rfl, rfl, _, rfl, ite2 (fun c5 => ?_) (fun c5 => ?_)⟩
            · refine ⟨_, rfl, rfl, _, rfl, ite2 (fun c6 => ?_) (fun c6 => ?_)⟩
              · exact ⟨_, rfl, _, rfl, by show 2 ≤ sizeLine; decide, fin H3 "says" ts t3 b3 hp3 (by omega) hD3 (.inl rfl) tne tok⟩
              · exact ⟨_, rfl, _, rfl, by show 2 ≤ sizeLine; decide, fin H3 "hears" ts t3 b3 hp3 (by omega) hD3 (.inr rfl) tne tok⟩
            · refine ⟨_, rfl, _, rfl, p, S, _, t3, rfl, hp3, hS3, nS, by rw [List.length_map]; omega, by rw [List.length_map]; omega, by omega, fun j v t4 o4 hj4 tt4 hp4 => ?_⟩
              obtain ⟨g, hg, rfl⟩ := get_map hj4
              have hgm := List.mem_of_getElem? hg
              have b4 := b3.trans (But.upd p H3 o4)
              have hD4 : TurnsAt (L2.upd H3 p o4) D ts := by rw [TurnsAt, upd_ne nDp]; exact hD3
              generalize L2.upd H3 p o4 = H4 at b4 hD4 hp4
              refine ⟨_, rfl, _, rfl, _, rfl, D, _, rfl, .inl hD4, fun q7 hq7 => ?_⟩
              rw [ek]
              refine ⟨p, q7, _, t4, rfl, hp4.new hq7, upd_same, hp4.ne hq7, by rw [List.length_map, List.length_map]; omega, by rw [List.length_map, List.length_map]; omega, by omega, fun j v t8 o8 hj8 tt8 hp8 => ?_⟩
              obtain ⟨k8, hk8, rfl⟩ := get_map hj8
              have hkt : k8 ∈ ts.map (·.1) := List.mem_of_getElem? hk8
              have hkm : k8 ∈ ws := by
                obtain ⟨u, hu, e⟩ := List.mem_map.mp hkt
                rw [← e]; exact tok.ks u hu
              refine ⟨D, _, rfl, DPut.k (kvs := kT ts) (k := Sum.inr k8) (by rw [upd_ne nDp]; exact hD4.same (Same.new hq7)) (by rw [kl, sizeLine_eq]; omega), ?_⟩
              rw [putK_kT]
              exact ⟨_, rfl, _, rfl, by show 2 ≤ sizeLine; decide, fin _ kd _ t8 (But.ofL hD ((b4.newt hq7).trans (But.upd p _ o8))) (hp8.upd nDp.symm) (by omega) upd_same kk putT_ne (tok.put hkm hgm)⟩
        · refine iteF ?_
          refine ⟨_, rfl, rfl, _, rfl, ite2 (fun c5 => ?_) (fun c5 => ?_)⟩
          · refine ⟨_, rfl, rfl, _, rfl, ite2 (fun c6 => ?_) (fun c6 => ?_)⟩
            · exact ⟨_, rfl, _, rfl, by show 2 ≤ sizeLine; decide, fin H3 "says" ts t3 b3 hp3 (by omega) hD3 (.inl rfl) tne tok⟩
            · exact ⟨_, rfl, _, rfl, by show 2 ≤ sizeLine; decide, fin H3 "hears" ts t3 b3 hp3 (by omega) hD3 (.inr rfl) tne tok⟩
          · refine ⟨_, rfl, _, rfl, p, S, _, t3, rfl, hp3, hS3, nS, by rw [List.length_map]; omega, by rw [List.length_map]; omega, by omega, fun j v t4 o4 hj4 tt4 hp4 => ?_⟩
            obtain ⟨g, hg, rfl⟩ := get_map hj4
            have hgm := List.mem_of_getElem? hg
            have b4 := b3.trans (But.upd p H3 o4)
            have hD4 : TurnsAt (L2.upd H3 p o4) D ts := by rw [TurnsAt, upd_ne nDp]; exact hD3
            generalize L2.upd H3 p o4 = H4 at b4 hD4 hp4
            refine ⟨_, rfl, _, rfl, _, rfl, D, _, rfl, .inl hD4, fun q7 hq7 => ?_⟩
            rw [ek]
            refine ⟨p, q7, _, t4, rfl, hp4.new hq7, upd_same, hp4.ne hq7, by rw [List.length_map, List.length_map]; omega, by rw [List.length_map, List.length_map]; omega, by omega, fun j v t8 o8 hj8 tt8 hp8 => ?_⟩
            obtain ⟨k8, hk8, rfl⟩ := get_map hj8
            have hkt : k8 ∈ ts.map (·.1) := List.mem_of_getElem? hk8
            have hkm : k8 ∈ ws := by
              obtain ⟨u, hu, e⟩ := List.mem_map.mp hkt
              rw [← e]; exact tok.ks u hu
            refine ⟨D, _, rfl, DPut.k (kvs := kT ts) (k := Sum.inr k8) (by rw [upd_ne nDp]; exact hD4.same (Same.new hq7)) (by rw [kl, sizeLine_eq]; omega), ?_⟩
            rw [putK_kT]
            exact ⟨_, rfl, _, rfl, by show 2 ≤ sizeLine; decide, fin _ kd _ t8 (But.ofL hD ((b4.newt hq7).trans (But.upd p _ o8))) (hp8.upd nDp.symm) (by omega) upd_same kk putT_ne (tok.put hkm hgm)⟩
    · refine iteF ?_
      refine ⟨_, rfl, rfl, _, rfl, ite2 (fun c3 => ?_) (fun c3 => ?_)⟩
      · refine ⟨_, rfl, D, kT ts, rfl, hD3, _, _, rfl, rfl, _, rfl, ite2 (fun c4 => ?_) (fun c4 => ?_)⟩
        · refine ⟨_, rfl, _, rfl, p, S, _, t3, rfl, hp3, hS3, nS, by rw [List.length_map]; omega, by rw [List.length_map]; omega, by omega, fun j v t4 o4 hj4 tt4 hp4 => ?_⟩
          obtain ⟨g, hg, rfl⟩ := get_map hj4
          have hgm := List.mem_of_getElem? hg
          have b4 := b3.trans (But.upd p H3 o4)
          have hD4 : TurnsAt (L2.upd H3 p o4) D ts := by rw [TurnsAt, upd_ne nDp]; exact hD3
          generalize L2.upd H3 p o4 = H4 at b4 hD4 hp4
          refine ⟨_, rfl, _, rfl, D, _, rfl, DPut.k (kvs := kT ts) (k := Sum.inr w3) hD4 (by rw [kl, sizeLine_eq]; omega), ?_⟩
          rw [putK_kT]
          exact ⟨_, rfl, _, rfl, by show 2 ≤ sizeLine; decide, fin _ kd _ t4 (But.ofL hD b4) (hp4.upd nDp.symm) (by omega) upd_same kk putT_ne (tok.put hwm hgm)⟩
        · refine ⟨_, rfl, rfl, _, rfl, ite2 (fun c5 => ?_) (fun c5 => ?_)⟩
          · refine ⟨_, rfl, rfl, _, rfl, ite2 (fun c6 => ?_) (fun c6 => ?_)⟩
            · exact ⟨_, rfl, _, rfl, by show 2 ≤ sizeLine; decide, fin H3 "says" ts t3 b3 hp3 (by omega) hD3 (.inl rfl) tne tok⟩
            · exact ⟨_, rfl, _, rfl, by show 2 ≤ sizeLine; decide, fin H3 "hears" ts t3 b3 hp3 (by omega) hD3 (.inr rfl) tne tok⟩
          · refine ⟨_, rfl, _, rfl, p, S, _, t3, rfl, hp3, hS3, nS, by rw [List.length_map]; omega, by rw [List.length_map]; omega, by omega, fun j v t4 o4 hj4 tt4 hp4 => ?_⟩
            obtain ⟨g, hg, rfl⟩ := get_map hj4
            have hgm := List.mem_of_getElem? hg
            have b4 := b3.trans (But.upd p H3 o4)
            have hD4 : TurnsAt (L2.upd H3 p o4) D ts := by rw [TurnsAt, upd_ne nDp]; exact hD3
            generalize L2.upd H3 p o4 = H4 at b4 hD4 hp4
            refine ⟨_, rfl, _, rfl, _, rfl, D, _, rfl, .inl hD4, fun q7 hq7 => ?_⟩
            rw [ek]
            refine ⟨p, q7, _, t4, rfl, hp4.new hq7, upd_same, hp4.ne hq7, by rw [List.length_map, List.length_map]; omega, by rw [List.length_map, List.length_map]; omega, by omega, fun j v t8 o8 hj8 tt8 hp8 => ?_⟩
            obtain ⟨k8, hk8, rfl⟩ := get_map hj8
            have hkt : k8 ∈ ts.map (·.1) := List.mem_of_getElem? hk8
            have hkm : k8 ∈ ws := by
              obtain ⟨u, hu, e⟩ := List.mem_map.mp hkt
              rw [← e]; exact tok.ks u hu
            refine ⟨D, _, rfl, DPut.k (kvs := kT ts) (k := Sum.inr k8) (by rw [upd_ne nDp]; exact hD4.same (Same.new hq7)) (by rw [kl, sizeLine_eq]; omega), ?_⟩
            rw [putK_kT]
            exact ⟨_, rfl, _, rfl, by show 2 ≤ sizeLine; decide, fin _ kd _ t8 (But.ofL hD ((b4.newt hq7).trans (But.upd p _ o8))) (hp8.upd nDp.symm) (by omega) upd_same kk putT_ne (tok.put hkm hgm)⟩
      · refine iteF ?_
        refine ⟨_, rfl, rfl, _, rfl, ite2 (fun c5 => ?_) (fun c5 => ?_)⟩
        · refine ⟨_, rfl, rfl, _, rfl, ite2 (fun c6 => ?_) (fun c6 => ?_)⟩
          · exact ⟨_, rfl, _, rfl, by show 2 ≤ sizeLine; decide, fin H3 "says" ts t3 b3 hp3 (by omega) hD3 (.inl rfl) tne tok⟩
          · exact ⟨_, rfl, _, rfl, by show 2 ≤ sizeLine; decide, fin H3 "hears" ts t3 b3 hp3 (by omega) hD3 (.inr rfl) tne tok⟩
        · refine ⟨_, rfl, _, rfl, p, S, _, t3, rfl, hp3, hS3, nS, by rw [List.length_map]; omega, by rw [List.length_map]; omega, by omega, fun j v t4 o4 hj4 tt4 hp4 => ?_⟩
          obtain ⟨g, hg, rfl⟩ := get_map hj4
          have hgm := List.mem_of_getElem? hg
          have b4 := b3.trans (But.upd p H3 o4)
          have hD4 : TurnsAt (L2.upd H3 p o4) D ts := by rw [TurnsAt, upd_ne nDp]; exact hD3
          generalize L2.upd H3 p o4 = H4 at b4 hD4 hp4
          refine ⟨_, rfl, _, rfl, _, rfl, D, _, rfl, .inl hD4, fun q7 hq7 => ?_⟩
          rw [ek]
          refine ⟨p, q7, _, t4, rfl, hp4.new hq7, upd_same, hp4.ne hq7, by rw [List.length_map, List.length_map]; omega, by rw [List.length_map, List.length_map]; omega, by omega, fun j v t8 o8 hj8 tt8 hp8 => ?_⟩
          obtain ⟨k8, hk8, rfl⟩ := get_map hj8
          have hkt : k8 ∈ ts.map (·.1) := List.mem_of_getElem? hk8
          have hkm : k8 ∈ ws := by
            obtain ⟨u, hu, e⟩ := List.mem_map.mp hkt
            rw [← e]; exact tok.ks u hu
          refine ⟨D, _, rfl, DPut.k (kvs := kT ts) (k := Sum.inr k8) (by rw [upd_ne nDp]; exact hD4.same (Same.new hq7)) (by rw [kl, sizeLine_eq]; omega), ?_⟩
          rw [putK_kT]
          exact ⟨_, rfl, _, rfl, by show 2 ≤ sizeLine; decide, fin _ kd _ t8 (But.ofL hD ((b4.newt hq7).trans (But.upd p _ o8))) (hp8.upd nDp.symm) (by omega) upd_same kk putT_ne (tok.put hkm hgm)⟩
end
end D1
end L2
namespace L2
namespace D1
open PySem PySem.Spec PyProof.Rows D2
def dW (ss : List Str) : PyData := .list (ss.map PyData.str)
theorem lay_str {x : Str} (h : Wd x) : PyData.canLay0 (.str x) = true := by
  show (x.cps.all fun c => decide (c < 0x110000)) = true
  rw [← Array.all_toList]
  refine List.all_eq_true.mpr fun c hc => ?_
  have := h.ok c hc
  exact decide_eq_true (by omega)
theorem lay_words : ∀ {ss : List Str}, (∀ x ∈ ss, Wd x) → PyData.canLayAll0 (ss.map PyData.str) = true
  | [], _ => rfl
  | x :: r, h => by
    have a := lay_str (h x (.head _))
    have b := lay_words (ss := r) fun y hy => h y (.tail _ hy)
    show (PyData.canLay0 (.str x) && PyData.canLayAll0 (r.map PyData.str)) = true
    rw [a, b]; rfl
theorem dep_words : ∀ (ss : List Str), PyData.depthAll (ss.map PyData.str) = 0
  | [] => rfl
  | x :: r => by
    show max (PyData.depth (.str x)) (PyData.depthAll (r.map PyData.str)) = 0
    rw [dep_words r]; rfl
theorem sh_words {ss : List Str} (h : ∀ x ∈ ss, Wd x) : SeqAt.shaped (dW ss) = true := by
  show (PyData.canLayAll0 (ss.map PyData.str) && decide (PyData.depthAll (ss.map PyData.str) + 1 ≤ 64)) = true
  rw [lay_words h, dep_words]; rfl
theorem eq_words {ss : List Str} (h : ∀ x ∈ ss, Wd x) : PyData.eqv (dW ss) (dW ss) = true := SeqAt.eqv_refl _ (lay_words h)
theorem dpa_words {K : PySem.W.Frag} {H : Hp} : ∀ ss : List Str, DpAll K H (ss.map V.str) (ss.map PyData.str)
  | [] => .nil
  | x :: r => .cons (.str x) (dpa_words r)
theorem dp_words {K : PySem.W.Frag} {H : Hp} {a : Addr} {ss : List Str} (h : SL H a ss) : Dp K H (.ref a) (dW ss) := .lst h.sq (dpa_words ss)
theorem TurnsAt.but {T : Addr} {H H' : Hp} {a : Addr} {ts : List (Str × Str)} {xs : List V} (h : TurnsAt H a ts) (b : But T H H') (hT : H T = some (.lst xs)) : TurnsAt H' a ts := b _ _ (fun e => by rw [TurnsAt, e, hT] at h; cases h) h
theorem BookAt.but {T : Addr} {H H' : Hp} {a : Addr} {bk : Bk} {xs : List V} (h : BookAt H a bk) (b : But T H H') (hT : H T = some (.lst xs)) : BookAt H' a bk := by
  obtain ⟨kvs, e, r⟩ := h
  refine ⟨kvs, b _ _ (fun z => by rw [z, hT] at e; cases e) e, ?_⟩
  clear e
  unfold Rows at r ⊢
  induction r with
  | nil => exact .nil
  | cons h1 _ ih =>
    obtain ⟨e1, t, a, ev, ht, ha⟩ := h1
    exact .cons ⟨e1, t, a, ev, b _ _ (fun z => by rw [z, hT] at ht; cases ht) ht, ha.but b hT⟩ ih
theorem BookR.but {T : Addr} {H H' : Hp} {a : Addr} {bk : Bk} {xs : List V} (h : BookR H a bk) (b : But T H H') (hT : H T = some (.lst xs)) : BookR H' a bk := by
  obtain ⟨kvs, e, r⟩ := h
  refine ⟨kvs, e.elim (fun e => .inl (b _ _ (fun z => by rw [z, hT] at e; cases e) e)) fun ⟨od, e⟩ => .inr ⟨od, b _ _ (fun z => by rw [z, hT] at e; cases e) e⟩, ?_⟩
  clear e
  unfold Rows at r ⊢
  induction r with
  | nil => exact .nil
  | cons h1 _ ih =>
    obtain ⟨e1, t, a, ev, ht, ha⟩ := h1
    exact .cons ⟨e1, t, a, ev, b _ _ (fun z => by rw [z, hT] at ht; cases ht) ht, ha.but b hT⟩ ih
theorem DeskAt.but {C T : Addr} {H H' : Hp} {q : Addr} {bk : Bk} {st : Str} {xs : List V} (h : DeskAt C H q bk st) (b : But T H H') (hT : H T = some (.lst xs)) : DeskAt C H' q bk st := by
  obtain ⟨dx, c, e, r⟩ := h
  exact ⟨dx, c, b _ _ (fun z => by rw [z, hT] at e; cases e) e, r.but b hT⟩
/-- a list of words held against the empty list -/
theorem eqv_nil (ss : List Str) : PyData.eqv (dW ss) (dW []) = decide (ss = []) := by
  cases ss with
  | nil => exact eq_words (fun _ h => by cases h)
  | cons x r => rfl
end D1
end L2
namespace L2
namespace D1
open PySem PySem.Spec PyProof.Rows D2
abbrev Pr := Str × Str
def PAt (H : Hp) (z : Addr) (p : Pr) : Prop := H z = some (.tup [.str p.1, .str p.2])
def PRows (H : Hp) : List (Key × V) → List (Str × Pr) → Prop := Paired fun kv t => kv.1 = Sum.inr t.1 ∧ ∃ z, kv.2 = .ref z ∧ PAt H z t.2
theorem PRows.same {H H' : Hp} {kvs : List (Key × V)} {ts : List (Str × Pr)} (h : PRows H kvs ts) (s : Same H H') : PRows H' kvs ts := paired_imp (fun _ _ ⟨e, z, e1, e2⟩ => ⟨e, z, e1, s _ _ e2⟩) h
theorem PRows.keys {H : Hp} {kvs : List (Key × V)} {ts : List (Str × Pr)} (h : PRows H kvs ts) : kvs.map (·.1) = ts.map fun t => Sum.inr t.1 := by
  unfold PRows at h
  induction h with
  | nil => rfl
  | cons a _ ih => rw [List.map_cons, List.map_cons, ih, a.1]
theorem PRows.len {H : Hp} {kvs : List (Key × V)} {ts : List (Str × Pr)} (h : PRows H kvs ts) : kvs.length = ts.length := paired_len h
/-- a dict of words, each with the pair behind it -/
def PTAt (H : Hp) (a : Addr) (ts : List (Str × Pr)) : Prop := ∃ kvs, H a = some (.dK kvs) ∧ PRows H kvs ts
theorem PTAt.same {H H' : Hp} {a : Addr} {ts : List (Str × Pr)} (h : PTAt H a ts) (s : Same H H') : PTAt H' a ts := let ⟨kvs, e, r⟩ := h; ⟨kvs, s _ _ e, r.same s⟩
theorem kT_at {ts : List (Str × Str)} {i : Nat} {k : Key} {v : V} (h : (kT ts)[i]? = some (k, v)) : ∃ t, ts[i]? = some t ∧ k = Sum.inr t.1 := by
  rw [kT, List.getElem?_map] at h
  obtain ⟨t, ht, e⟩ := Option.map_eq_some_iff.mp h
  cases e
  exact ⟨t, ht, rfl⟩
theorem kT_lt {ts : List (Str × Str)} {i : Nat} {k : Key} {v : V} (h : (kT ts)[i]? = some (k, v)) : i < ts.length := by
  obtain ⟨t, ht, _⟩ := kT_at h
  exact (List.getElem?_eq_some_iff.mp ht).1
theorem kT_isSome (ts : List (Str × Str)) (x : Str) : (valV (kT ts) (.inr x)).isSome = decide (x ∈ ts.map (·.1)) := by
  by_cases h : x ∈ ts.map (·.1)
  · rw [valV_goal h, decide_eq_true h]; rfl
  · rw [decide_eq_false h, valV_kT]
    cases e : ts.find? (fun t => decide (t.1 = x)) with
    | none => rfl
    | some t => exact absurd (by have := List.find?_some e; rw [← of_decide_eq_true this]; exact List.mem_map_of_mem (List.mem_of_find?_eq_some e)) h
theorem all_map {α : Type} (f : α → Bool) (l : List α) : ((l.map f).all id) = l.all f := by
  induction l with
  | nil => rfl
  | cons x r ih => rw [List.map_cons, List.all_cons, List.all_cons, ih]; rfl
end D1
end L2
namespace L2
namespace D1
open PySem PySem.Spec PyProof.Rows D2
abbrev sBooksOf : Stmt := top 21
abbrev sFirstPair : Stmt := top 22
def BksAt (H : Hp) (B : Addr) (bk cl : Bk) : Prop := ∃ b1 b2, H B = some (.tup [.ref b1, .ref b2]) ∧ BookAt H b1 bk ∧ BookAt H b2 cl
theorem BksAt.same {H H' : Hp} {B : Addr} {bk cl : Bk} (h : BksAt H B bk cl) (s : Same H H') : BksAt H' B bk cl := let ⟨b1, b2, e, f, g⟩ := h; ⟨b1, b2, s _ _ e, f.same s, g.same s⟩
structure BB (bk cl : Bk) : Prop where
  w1 : BWf bk
  w2 : BWf cl
  n1 : ∀ r ∈ bk, (r.2.2.map (·.1)).Nodup
  n2 : ∀ r ∈ cl, (r.2.2.map (·.1)).Nodup
def InP (bk cl : Bk) (p : Pr) : Prop := p.1 ∈ bk.map (·.1) ∧ p.2 ∈ cl.map (·.1)
theorem BWf.goal {bk : Bk} (w : BWf bk) {s x : Str} (hs : s ∈ bk.map (·.1)) (n : ((rowOf bk s).2.map (·.1)).Nodup) (hx : x ∈ (rowOf bk s).2.map (·.1)) : goalT (rowOf bk s).2 x ∈ bk.map (·.1) := by
  obtain ⟨t, ht, rfl⟩ := List.mem_map.mp hx
  rw [goalT_at n ht]
  exact (w.rs _ (row_mem hs)).2.2 t ht
def findP (ts : List (Str × Pr)) (w : Str) : Option Pr := (ts.find? fun t => decide (t.1 = w)).map (·.2)
theorem PRows.val {H : Hp} : ∀ {kvs : List (Key × V)} {ts : List (Str × Pr)}, PRows H kvs ts → ∀ w, match findP ts w with
    | none => valV kvs (.inr w) = none
    | some q => ∃ z, valV kvs (.inr w) = some (.ref z) ∧ PAt H z q
  | _, _, .nil, w => rfl
  | kv :: kvs, t :: ts, .cons h r, w => by
    obtain ⟨e, z, ez, hz⟩ := h
    have ih := PRows.val (kvs := kvs) (ts := ts) r w
    by_cases c : t.1 = w
    · have : findP (t :: ts) w = some t.2 := by unfold findP; rw [List.find?_cons_of_pos (by exact decide_eq_true c)]; rfl
      rw [this]
      exact ⟨z, by rw [valV_pos (by rw [e, c]), ez], hz⟩
    · have : findP (t :: ts) w = findP ts w := by unfold findP; rw [List.find?_cons_of_neg (by simpa using c)]
      rw [this, valV_neg (fun q => by rw [e] at q; exact c (Sum.inr.inj q))]
      exact ih
end D1
end L2
namespace L2
namespace D1
open PySem PySem.Spec PyProof.Rows D2
theorem DOk.bb {bk cl : Bk} {st st' : Str} (h : DOk bk st) (g : DOk cl st') : BB bk cl := ⟨h.toBWf, g.toBWf, h.tk, g.tk⟩
theorem inP_ord {bk cl : Bk} {p : Pr} : InP (ordB bk) (ordB cl) p ↔ InP bk cl p := by
  unfold InP
  rw [ordB_names, ordB_names]
  exact and_congr (srt_perm _).mem_iff (srt_perm _).mem_iff
def Two (C : Addr) (H : Hp) (q1 q2 : Addr) (bk cl : Bk) (st st' : Str) : Prop := DeskAt C H q1 bk st ∧ DeskAt C H q2 cl st'
theorem Two.same {C : Addr} {H H' : Hp} {q1 q2 : Addr} {bk cl : Bk} {st st' : Str} (h : Two C H q1 q2 bk cl st st') (s : Same H H') : Two C H' q1 q2 bk cl st st' := ⟨h.1.same s, h.2.same s⟩
def spBooksOf (C : Addr) : Sp := fun vs H Q _ => ∃ (q1 q2 : Addr) (bk cl : Bk) (st st' : Str), vs = [.ref q1, .ref q2] ∧ Two C H q1 q2 bk cl st st' ∧ DOk bk st ∧ DOk cl st' ∧ ∀ H' B, Same H H' → H B = none → BksAt H' B (ordB bk) (ordB cl) → Q (.ref B) H'
def spFirstPair (C : Addr) : Sp := fun vs H Q _ => ∃ (q1 q2 : Addr) (bk cl : Bk) (st st' : Str), vs = [.ref q1, .ref q2] ∧ Two C H q1 q2 bk cl st st' ∧ ∀ H' z, Same H H' → H z = none → PAt H' z (st, st') → Q (.ref z) H'
section
variable {P : Program} {w : World} {K : PySem.W.Frag} {mg : Str → Option Value} {base : Heap} {C : Addr}
abbrev CBooksOf (P : Program) (w : World) (K : PySem.W.Frag) (mg : Str → Option Value) (base : Heap) (C : Addr) := Cal P w K mg base "books_of" 4 ["one", "other"] (spBooksOf C)
theorem scBo : FnScope ["one", "other"] ["one", "other"] (defScope sBooksOf) := ⟨rfl, rfl, rfl, by decide +kernel, rfl, by decide +kernel, by decide +kernel⟩
theorem ok_booksof {f : Addr} {fd : FuncData} (F : Fun K "books_of" "books_of" sBooksOf f fd) (D : DTxt K mg C) (CN : CNeed P w K mg base C) (MB : CMBook P w K mg base C) : FnOk P w K mg base CX0 4 f fd ["one", "other"] (spBooksOf C) := by
  obtain ⟨fB, fdB, mB, FB, bB⟩ := MB.ex
  refine F.ok scBo (fun vs H Q E h => ?_) (fun cdv A outer s H vs Q E hr h => ?_)
  · obtain ⟨q1, q2, bk, cl, st, st', rfl, _⟩ := h; rfl
  · obtain ⟨q1, q2, bk, cl, st, st', rfl, ⟨h1, h2⟩, o1, o2, k⟩ := h
    refine ⟨_, pss_cons (ps_expr (pe_cal CN (hr.mono (by decide)) rfl (pa_cons (pv 0) pa_nil)))
      (pss_cons (ps_expr (pe_cal CN (hr.mono (by decide)) rfl (pa_cons (pv 1) pa_nil)))
      (pss_one (ps_ret (pe_tup (pa_cons (pe_meth0 (pv 0) D.cl mB FB (hr.mono (by decide)) bB .nil pass0) (pa_cons (pe_meth0 (pv 1) D.cl mB FB (hr.mono (by decide)) bB .nil pass0) pa_nil)))))), ?_⟩
    obtain ⟨d1, c1, e1, _⟩ := id h1
    obtain ⟨d2, c2, e2, _⟩ := id h2
    refine ⟨_, rfl, q1, d1, _, rfl, e1, _, rfl, q2, d2, _, rfl, e2, ?_⟩
    refine ⟨_, rfl, q1, d1, _, rfl, e1, dflds_no _ _ (by decide +kernel) (by decide +kernel), q1, bk, st, rfl, h1, o1, fun H1 B1 s1 n1 hB1 _ => ?_⟩
    refine ⟨_, rfl, q2, d2, _, rfl, s1 _ _ e2, dflds_no _ _ (by decide +kernel) (by decide +kernel), q2, cl, st', rfl, h2.same s1, o2, fun H2 B2 s2 n2 hB2 _ => ⟨by show 2 ≤ sizeLine; decide, fun B hB => ?_⟩⟩
    have s12 := Same.trans s1 s2
    have g := Same.new (o := .tup [.ref B1, .ref B2]) hB
    exact k _ B (Same.trans s12 g) (s12.free hB) ⟨B1, B2, upd_same, (hB1.same s2).same g, hB2.same g⟩
theorem scFp : FnScope ["one", "other"] ["one", "other"] (defScope sFirstPair) := ⟨rfl, rfl, rfl, by decide +kernel, rfl, by decide +kernel, by decide +kernel⟩
theorem ok_firstpair {f : Addr} {fd : FuncData} (F : Fun K "first_pair" "first_pair" sFirstPair f fd) (D : DTxt K mg C) (MS : CMStart P w K mg base C) : FnOk P w K mg base CX0 2 f fd ["one", "other"] (spFirstPair C) := by
  obtain ⟨fS, fdS, mS, FS, bS⟩ := MS.ex
  refine F.ok scFp (fun vs H Q E h => ?_) (fun cdv A outer s H vs Q E hr h => ?_)
  · obtain ⟨q1, q2, bk, cl, st, st', rfl, _⟩ := h; rfl
  · obtain ⟨q1, q2, bk, cl, st, st', rfl, ⟨h1, h2⟩, k⟩ := h
    refine ⟨_, pss_one (ps_ret (pe_tup (pa_cons (pe_meth0 (pv 0) D.cl mS FS (hr.mono (by decide)) bS .nil pass0) (pa_cons (pe_meth0 (pv 1) D.cl mS FS (hr.mono (by decide)) bS .nil pass0) pa_nil)))), ?_⟩
    obtain ⟨d1, c1, e1, _⟩ := id h1
    obtain ⟨d2, c2, e2, _⟩ := id h2
    refine ⟨_, rfl, q1, d1, _, rfl, e1, dflds_no _ _ (by decide +kernel) (by decide +kernel), q1, bk, st, rfl, h1, ?_⟩
    refine ⟨_, rfl, q2, d2, _, rfl, e2, dflds_no _ _ (by decide +kernel) (by decide +kernel), q2, cl, st', rfl, h2, ⟨by show 2 ≤ sizeLine; decide, fun z hz => ?_⟩⟩
    exact k _ z (Same.new hz) hz upd_same
end
end D1
end L2
namespace L2
namespace D1
open PySem PySem.Spec PyProof.Rows D2 X5 X6
/-- what some way leads to -/
inductive Rn (nx : Pr → List (Str × Pr)) (p : Pr) : Pr → Prop
  | here : Rn nx p p
  | next {q : Pr} {t : Str × Pr} : Rn nx p q → t ∈ nx q → Rn nx p t.2
/-- all pairs of states -/
def allP (bk cl : Bk) : List Pr := (bk.map (·.1)).flatMap fun s => (cl.map (·.1)).map fun t => (s, t)
theorem mem_allP {bk cl : Bk} {p : Pr} (h : InP bk cl p) : p ∈ allP bk cl :=
  List.mem_flatMap.mpr ⟨p.1, h.1, List.mem_map.mpr ⟨p.2, h.2, rfl⟩⟩
theorem len_flat {α β : Type} (f : α → List β) (n : Nat) : ∀ l : List α, (∀ x ∈ l, (f x).length = n) → (l.flatMap f).length = l.length * n
  | [], _ => by simp
  | x :: r, h => by
    rw [List.flatMap_cons, List.length_append, h x (by simp), len_flat f n r fun y hy => h y (List.mem_cons_of_mem _ hy), List.length_cons, Nat.add_mul, Nat.one_mul, Nat.add_comm]
theorem len_allP {bk cl : Bk} (b : BB bk cl) : (allP bk cl).length ≤ 3600 := by
  unfold allP
  rw [len_flat _ cl.length _ fun x _ => by rw [List.length_map, List.length_map], List.length_map]
  exact Nat.mul_le_mul b.w1.len b.w2.len
theorem pigeonP {ns : List Pr} {bk cl : Bk} (b : BB bk cl) (nd : ns.Nodup) (h : ∀ x ∈ ns, InP bk cl x) : ns.length ≤ 3600 :=
  Nat.le_trans (pigeon ns (allP bk cl) nd fun x hx => mem_allP (h x hx)) (len_allP b)
def FT (ns : List Pr) : List (List Key × V) := ns.map fun n => (kP n, .bl true)
theorem kP_inj {p q : Pr} (h : kP p = kP q) : p = q := by
  have h1 : p.1 = q.1 := Sum.inr.inj (List.cons.inj h).1
  have h2 : p.2 = q.2 := Sum.inr.inj (List.cons.inj (List.cons.inj h).2).1
  exact Prod.ext h1 h2
theorem valT_none {ps : List Pr} {x : Pr} (h : x ∉ ps) {kvs : List (List Key × V)} (e : kvs.map (·.1) = ps.map kP) : valV kvs (kP x) = none := by
  cases c : valV kvs (kP x) with
  | none => rfl
  | some v =>
    have : (kvs.any fun kv => decide (kv.1 = kP x)) = true := by rw [valV_any, c]; rfl
    obtain ⟨kv, hk, e1⟩ := List.any_eq_true.mp this
    have m : kv.1 ∈ ps.map kP := by rw [← e]; exact List.mem_map_of_mem hk
    obtain ⟨q, hq, e2⟩ := List.mem_map.mp m
    rw [of_decide_eq_true e1] at e2
    exact absurd (kP_inj e2 ▸ hq) h
theorem FT_keys (ns : List Pr) : (FT ns).map (·.1) = ns.map kP := by rw [FT, List.map_map]; rfl
theorem FT_put {ns : List Pr} {x : Pr} (h : x ∉ ns) : putK (FT ns) (kP x) (.bl true) = FT (ns ++ [x]) := by
  rw [L2.putK_new _ (valT_none h (FT_keys ns)), FT, FT, List.map_append]; rfl
theorem FT_val (ns : List Pr) (x : Pr) : (valV (FT ns) (kP x)).isSome = decide (x ∈ ns) := by
  by_cases h : x ∈ ns
  · rw [decide_eq_true h, ← valV_any]
    exact List.any_eq_true.mpr ⟨(kP x, .bl true), List.mem_map.mpr ⟨x, h, rfl⟩, decide_eq_true rfl⟩
  · rw [decide_eq_false h, valT_none h (FT_keys ns)]; rfl
def QRows (H : Hp) (nx : Pr → List (Str × Pr)) : List (List Key × V) → List Pr → Prop := Paired fun kv n => kv.1 = kP n ∧ ∃ a, kv.2 = .ref a ∧ PTAt H a (nx n)
theorem QRows.same {H H' : Hp} {nx : Pr → List (Str × Pr)} {kvs : List (List Key × V)} {ns : List Pr} (h : QRows H nx kvs ns) (s : Same H H') : QRows H' nx kvs ns := paired_imp (fun _ _ ⟨e, z, e1, e2⟩ => ⟨e, z, e1, e2.same s⟩) h
theorem QRows.len {H : Hp} {nx : Pr → List (Str × Pr)} {kvs : List (List Key × V)} {ns : List Pr} (h : QRows H nx kvs ns) : kvs.length = ns.length := paired_len h
theorem QRows.keys {H : Hp} {nx : Pr → List (Str × Pr)} {kvs : List (List Key × V)} {ns : List Pr} (h : QRows H nx kvs ns) : kvs.map (·.1) = ns.map kP := by
  unfold QRows at h
  induction h with
  | nil => rfl
  | cons a _ ih => rw [List.map_cons, List.map_cons, ih, a.1]
theorem QRows.look {H : Hp} {nx : Pr → List (Str × Pr)} : ∀ {kvs : List (List Key × V)} {ns : List Pr}, QRows H nx kvs ns → ∀ {x : Pr}, x ∈ ns → ∃ a, valV kvs (kP x) = some (.ref a) ∧ PTAt H a (nx x)
  | _, _, .nil, _, h => nomatch h
  | kv :: kvs, n :: ns, .cons h r, x, hx => by
    obtain ⟨e, a, ea, ha⟩ := h
    by_cases c : n = x
    · subst c; exact ⟨a, by rw [valV_pos e, ea], ha⟩
    · rw [valV_neg (fun q => c (kP_inj (e.symm.trans q)))]
      exact QRows.look r ((List.mem_cons.mp hx).resolve_left fun q => c q.symm)
theorem paired_snoc {α β : Type} {R : α → β → Prop} {a : α} {b : β} : ∀ {l : List α} {m : List β}, Paired R l m → R a b → Paired R (l ++ [a]) (m ++ [b])
  | _, _, .nil, h => .cons h .nil
  | _, _, .cons x r, h => .cons x (paired_snoc r h)
theorem paired_get {α β : Type} {R : α → β → Prop} : ∀ {l : List α} {m : List β}, Paired R l m → ∀ {i : Nat} {a : α}, l[i]? = some a → ∃ b, m[i]? = some b ∧ R a b
  | _, _, .cons x r, 0, a, h => ⟨_, rfl, by rw [← Option.some.inj h]; exact x⟩
  | _, _, .cons x r, i + 1, a, h => paired_get r (i := i) h
/-- the addresses of some pairs -/
def PL (H : Hp) : List Addr → List Pr → Prop := Paired fun z p => PAt H z p
theorem PL.same {H H' : Hp} {zs : List Addr} {ps : List Pr} (h : PL H zs ps) (s : Same H H') : PL H' zs ps := paired_imp (fun _ _ e => s _ _ e) h
def QrAt (H : Hp) (G : Addr) (nx : Pr → List (Str × Pr)) (ns : List Pr) : Prop := ∃ kvs, H G = some (.dT kvs) ∧ QRows H nx kvs ns
theorem QrAt.same {H H' : Hp} {G : Addr} {nx : Pr → List (Str × Pr)} {ns : List Pr} (h : QrAt H G nx ns) (s : Same H H') : QrAt H' G nx ns := let ⟨kvs, e, r⟩ := h; ⟨kvs, s _ _ e, r.same s⟩
def RnAll (nx : Pr → List (Str × Pr)) (p : Pr) (ns : List Pr) : Prop := ns.Nodup ∧ ∀ x, x ∈ ns ↔ Rn nx p x
/-- what is gone through, what is found -/
structure BIp (nx : Pr → List (Str × Pr)) (p : Pr) (gs ns : List Pr) : Prop where
  nd : ns.Nodup
  rc : ∀ x ∈ ns, Rn nx p x
  st : p ∈ ns
  cl : ∀ x ∈ gs, ∀ t ∈ nx x, t.2 ∈ ns
theorem BIp.done {nx : Pr → List (Str × Pr)} {p : Pr} {ns : List Pr} (b : BIp nx p ns ns) : RnAll nx p ns := by
  refine ⟨b.nd, fun x => ⟨b.rc x, fun h => ?_⟩⟩
  induction h with
  | here => exact b.st
  | next _ ht ih => exact b.cl _ ih _ ht
theorem BIp.find {nx : Pr → List (Str × Pr)} {p : Pr} {gs ns : List Pr} (b : BIp nx p gs ns) {x : Pr} (hx : x ∉ ns) (r : Rn nx p x) : BIp nx p gs (ns ++ [x]) :=
  ⟨nodup_app b.nd hx, fun y hy => (List.mem_append.mp hy).elim (b.rc y) fun e => (List.mem_singleton.mp e) ▸ r, List.mem_append_left _ b.st, fun y hy t ht => List.mem_append_left _ (b.cl y hy t ht)⟩
theorem ptat_cut {H : Hp} {R : Addr} {ts : List (Str × Pr)} {S : List Addr} (h : PTAt H R ts) (s : ∀ q ∈ S, (∃ kvs, H q = some (.dT kvs)) ∨ ∃ xs, H q = some (.lst xs)) : PTAt (cut S H) R ts := by
  obtain ⟨kvs, e, r⟩ := h
  refine ⟨kvs, ?_, paired_imp (fun _ _ ⟨e1, z, e2, e3⟩ => ⟨e1, z, e2, ?_⟩) r⟩
  · rw [cut_out fun m => ?_]; exact e
    rcases s _ m with ⟨_, q⟩ | ⟨_, q⟩ <;> (rw [e] at q; cases q)
  · show cut S H z = _
    rw [cut_out fun m => ?_]; exact e3
    have e3 : H z = _ := e3
    rcases s _ m with ⟨_, q⟩ | ⟨_, q⟩ <;> (rw [e3] at q; cases q)
theorem cut_unlock {S : List Addr} {H H' : Hp} {a : Addr} {u f : HO} (ha : a ∉ S) (e : H a = some u) (s : Same (cut S (L2.upd H a f)) (cut S H')) : Same (cut S H) (cut S (L2.upd H' a u)) := fun b o h => by
  obtain ⟨nb, h⟩ := cut_some h
  rw [cut_out nb]
  by_cases c : b = a
  · rw [c] at h ⊢; rw [upd_same, ← h, e]
  · rw [upd_ne c]
    exact (cut_some (s b o (by rw [cut_out nb, upd_ne c]; exact h))).2
theorem not_before {α : Type} {gs ls : List α} (nd : (gs ++ ls).Nodup) {i : Nat} {x : α} (hx : ls[i]? = some x) : x ∉ gs ++ ls.take i := by
  obtain ⟨hi, e⟩ := List.getElem?_eq_some_iff.mp hx
  have e1 : gs ++ ls = (gs ++ ls.take i) ++ (x :: ls.drop (i + 1)) := by
    rw [List.append_assoc, ← e, ← List.drop_eq_getElem_cons hi, List.take_append_drop]
  rw [e1] at nd
  exact fun m => (List.nodup_append.mp nd).2.2 x m x (by simp) rfl
theorem pl_lock {H : Hp} {S : List Addr} {R : Addr} {od : Obj} {kr : List (Key × V)} {ys : List Addr} {ps : List Pr} (e : H R = some (.dK kr)) (h : PL (cut S H) ys ps) : PL (cut S (L2.upd H R (.frz od (.dK kr)))) ys ps :=
  paired_imp (fun z p q => by
    have q : cut S H z = _ := q
    obtain ⟨nz, q⟩ := cut_some q
    show cut S _ z = _
    rw [cut_out nz, upd_ne (fun n => by rw [n, e] at q; cases q)]; exact q) h
theorem pl_unlock {H : Hp} {S : List Addr} {R : Addr} {u f : HO} {o : Obj} {ys : List Addr} {ps : List Pr} (e : H R = some (.frz o f)) (h : PL (cut S H) ys ps) : PL (cut S (L2.upd H R u)) ys ps :=
  paired_imp (fun z p q => by
    have q : cut S H z = _ := q
    obtain ⟨nz, q⟩ := cut_some q
    show cut S _ z = _
    rw [cut_out nz, upd_ne (fun n => by rw [n, e] at q; cases q)]; exact q) h
end D1
end L2
namespace L2
namespace D1
open PySem PySem.Spec PyProof.Rows D2 X5 X6
end D1
end L2
namespace L2
namespace D1
open PySem PySem.Spec PyProof.Rows D2
abbrev sNewer : Stmt := top 45
/-- a book with another row for a state that it has -/
def setR (bk : Bk) (s : Str) (k : Str) (ts : List (Str × Str)) : Bk := bk.map fun r => if r.1 = s then (r.1, k, ts) else r
theorem setR_names (bk : Bk) (s k : Str) (ts : List (Str × Str)) : (setR bk s k ts).map (·.1) = bk.map (·.1) := by
  rw [setR, List.map_map]
  refine List.map_congr_left fun r _ => ?_
  show (if r.1 = s then (r.1, k, ts) else r).1 = r.1
  split <;> rfl
theorem setR_mem {bk : Bk} {s k : Str} {ts : List (Str × Str)} {r : RowD} (h : r ∈ setR bk s k ts) : r ∈ bk ∨ (r = (s, k, ts) ∧ s ∈ bk.map (·.1)) := by
  obtain ⟨q, hq, e⟩ := List.mem_map.mp h
  by_cases c : q.1 = s
  · rw [if_pos c] at e
    exact .inr ⟨by rw [← e, c], by rw [← c]; exact List.mem_map_of_mem hq⟩
  · rw [if_neg c] at e
    exact .inl (e ▸ hq)
theorem Rows.set {H : Hp} {kvs : List (Key × V)} {bk : Bk} {s k : Str} {ts : List (Str × Str)} {v : V} (h : Rows H kvs bk) (hs : s ∈ bk.map (·.1)) (r : RowAt H v k ts) : Rows H (putK kvs (.inr s) v) (setR bk s k ts) := by
  have e : (kvs.any fun kv => decide (kv.1 = Sum.inr s)) = true := by
    have : (Sum.inr s : Key) ∈ kvs.map (·.1) := by
      rw [h.keys]
      obtain ⟨q, hq, e⟩ := List.mem_map.mp hs
      exact List.mem_map.mpr ⟨q, hq, by rw [e]⟩
    obtain ⟨p, hp, e⟩ := List.mem_map.mp this
    exact List.any_eq_true.mpr ⟨p, hp, decide_eq_true e⟩
  unfold putK
  rw [if_pos e]
  clear e hs
  unfold Rows at h ⊢
  unfold setR
  induction h with
  | nil => exact .nil
  | @cons kv q _ _ h1 _ ih =>
    refine .cons ?_ ih
    obtain ⟨e1, h2⟩ := h1
    by_cases c : q.1 = s
    · dsimp only
      rw [if_pos (show kv.1 = Sum.inr s by rw [e1, c]), if_pos c]
      exact ⟨e1, r⟩
    · dsimp only
      rw [if_neg (show ¬ kv.1 = Sum.inr s by rw [e1]; exact fun z => c (Sum.inr.inj z)), if_neg c]
      exact ⟨e1, h2⟩
theorem WF.row {bk : Bk} {st s : Str} {ws : List Str} (h : WF bk st ws) (hs : s ∈ bk.map (·.1)) (n : (rowOf bk s).1 ≠ "done") : ((rowOf bk s).1 = "says" ∨ (rowOf bk s).1 = "hears") ∧ (rowOf bk s).2 ≠ [] ∧ TOk (rowOf bk s).2 (bk.map (·.1)) ws := by
  rcases (h.rs _ (row_mem hs)).2 with ⟨e, _⟩ | e
  · exact absurd e n
  · exact e
theorem WF.set {bk : Bk} {st s k : Str} {ws : List Str} {ts : List (Str × Str)} (h : WF bk st ws) (hs : s ∈ bk.map (·.1)) (kk : k = "says" ∨ k = "hears") (ne : ts ≠ []) (tok : TOk ts (bk.map (·.1)) ws) : WF (setR bk s k ts) st ws := by
  refine ⟨by rw [setR_names]; exact h.nd, fun r hr => ?_, by rw [setR_names]; exact h.st, by rw [setR, List.length_map]; exact h.len⟩
  rw [setR_names]
  rcases setR_mem hr with m | ⟨rfl, _⟩
  · exact h.rs r m
  · exact ⟨(h.rs _ (row_mem hs)).1, .inr ⟨kk, ne, tok⟩⟩
def spNewer : Sp := fun vs H Q _ => ∃ (p W L : Addr) (bk : Bk) (st : Str) (ws : List Str) (n t : Int), vs = [.ref p, .ref W, .ref L, .int n] ∧ Purse H p t ∧ WorldAt (cut [p] H) W bk st ∧ SL H L ws ∧ L ≠ p ∧ WF bk st ws ∧ WsOk ws ∧ 0 ≤ n ∧ n ≤ 10 ∧ t < 2 ^ 25 ∧
  ∀ (H' : Hp) (R : Addr) (bk' : Bk) (t' : Int), But p H H' → Purse H' p t' → t' ≤ t + 200 → H R = none → WorldAt (cut [p] H') R bk' st → WF bk' st ws → Q (.ref R) H'
section
variable {P : Program} {w : World} {K : PySem.W.Frag} {mg : Str → Option Value} {base : Heap}
abbrev CChRow (P : Program) (w : World) (K : PySem.W.Frag) (mg : Str → Option Value) (base : Heap) := Cal P w K mg base "_law_changed_row" 4 ["_law_purse_here", "_law_row", "_law_words_here", "_law_states"] spChRow
abbrev nwrN : List Str := ["_law_purse_here", "_law_world_here", "_law_words_here", "_law_times", "_law_book", "_law_states", "_law_turn", "_law_live", "_law_state"]
theorem scNwr : FnScope nwrN ["_law_purse_here", "_law_world_here", "_law_words_here", "_law_times"] (defScope sNewer) := ⟨rfl, rfl, rfl, by decide +kernel, rfl, by decide +kernel, by decide +kernel⟩
theorem ok_newer {f : Addr} {fd : FuncData} (F : Fun K "_law_newer" "_law_newer" sNewer f fd) (T : Free3 mg) (CO : COne P w K mg base) (CC : CChRow P w K mg base) : FnOk P w K mg base CX0 5 f fd ["_law_purse_here", "_law_world_here", "_law_words_here", "_law_times"] spNewer := by
  refine F.ok scNwr (fun vs H Q E h => ?_) (fun cdv A outer s H vs Q E hr h => ?_)
  · obtain ⟨p, W, L, bk, st, ws, n, t, rfl, _⟩ := h; rfl
  · obtain ⟨p, W, L, bk, st, ws, n, t, rfl, hp, ⟨b, hWc, kvs, hbc, hRc⟩, hL, nL, wf, wok, n0, n10, t1, k⟩ := h
    have hu := hu_of hr
    refine ⟨_, pss_cons (ps_asg (pe_tup (pa_cons (pe_callTy call_dictD (by rfl) T.dict (by decide +kernel) (pa_cons (pe_ix ix_list (pv 1) pe_int (fun _ _ => rfl)) pa_nil)) (pa_cons (pe_callTy (call_listD rfl) (by rfl) T.list (by decide +kernel) (pa_cons (pe_ix ix_list (pv 1) pe_int (fun _ _ => rfl)) pa_nil)) pa_nil)))
        (pg_tup rfl (pgs_cons (pg_name (i := 4) scNwr.nd rfl (Or.inr rfl)) (pgs_cons (pg_name (i := 5) scNwr.nd rfl (Or.inl rfl)) pgs_nil))))
      (pss_cons (ps_for PassesOwn.never rfl (pi_range1 rfl T.range (pa_cons (pv 3) pa_nil)) (pg_name (i := 6) scNwr.nd rfl (Or.inl rfl))
        (pss_cons (ps_setLc (i := 7) (own := [("_law_state", 8)]) (g := gName 8) (tt := tTest (tOp rNe (tOp (rIxT K) (tDGet (tVar 4) (tVar 8)) (tC (.int 0))) (tC (.str "done")))) (te := tVar 8) rfl scNwr.nd rfl rfl (sw_true rfl rfl rfl rfl) (pi_list (pv 5))
            (blkOk_by (N := nwrN) (sc := defScope sNewer) (by decide +kernel)) (fun _ _ _ _ _ => pg_name (i := 8) scNwr.nd rfl (Or.inl rfl)) (fun _ _ _ _ _ => pts_one (pt_cmpR op_ne (pe_ix ix_tup (pe_dget hu (pv 4) (pv 8) (fun _ _ => rfl)) pe_int (fun _ _ => rfl)) pe_str rfl)) (fun _ _ _ _ _ => pv 8))
        (pss_one (ps_if (pt_cmpR (op_neD hr.units) (pv 7) (pe_lst pa_nil) (by rfl))
          (pss_cons (ps_set (i := 8) scNwr.nd rfl (Or.inl rfl) (pe_cal CO (hr.mono (by decide)) rfl (pa_cons (pv 0) (pa_cons (pv 7) pa_nil))))
          (pss_one (ps_dput hu (pv 4) (pv 8) (pe_cal CC (hr.mono (by decide)) rfl (pa_cons (pv 0) (pa_cons (pe_dget hu (pv 4) (pv 8) (fun _ _ => rfl)) (pa_cons (pv 2) (pa_cons (pv 5) pa_nil))))) rfl)))
          pss_nil))))
      (pss_one (ps_ret (pe_lst (pa_cons (pv 4) (pa_cons (pe_ix ix_list (pv 1) pe_int (fun _ _ => rfl)) pa_nil)))))), ?_⟩
    have hW := cut_le _ _ hWc
    have hb := cut_le _ _ hbc
    have nWp : W ≠ p := (fun e => by rw [e, cut_in (by simp)] at hWc; cases hWc)
    have nbp : b ≠ p := (fun e => by rw [e, cut_in (by simp)] at hbc; cases hbc)
    refine ⟨_, rfl, W, _, _, _, rfl, rfl, SqL.of hW, atI_nat (j := 0) rfl, b, kvs, rfl, .inl hb, fun B hB => ?_⟩
    have g1 := Same.new (o := .dK kvs) hB
    have eB1 : (L2.upd H B (.dK kvs)) B = some (.dK kvs) := upd_same
    have hp1 := hp.new (o := .dK kvs) hB
    have nBp := hp.ne hB
    generalize L2.upd H B (.dK kvs) = H1 at g1 eB1 hp1
    refine ⟨_, rfl, W, _, _, _, rfl, rfl, SqL.of (g1 _ _ hW), atI_nat (j := 0) rfl, b, kvs, rfl, .inl (g1 _ _ hb), fun S hS => ?_⟩
    have ek : kvs.map (fun kv => kV kv.1) = (bk.map (·.1)).map V.str := by
      have := congrArg (List.map kV) hRc.keys
      rw [List.map_map, List.map_map] at this
      rw [List.map_map]; exact this
    rw [ek]
    have nSp := hp1.ne hS
    have nBS : B ≠ S := ne_of_none eB1 hS
    have g2 := Same.new (o := .lst ((bk.map (·.1)).map V.str)) hS
    have eS2 : SL (L2.upd H1 S (.lst ((bk.map (·.1)).map V.str))) S (bk.map (·.1)) := upd_same
    have hp2 := hp1.new (o := .lst ((bk.map (·.1)).map V.str)) hS
    generalize L2.upd H1 S (.lst ((bk.map (·.1)).map V.str)) = H2 at g2 eS2 hp2
    refine ⟨by show 2 ≤ sizeLine; decide, fun T1 hT1 => ⟨T1, _, rfl, SqT.of upd_same, rfl, _, _, rfl, _, _, rfl, rfl, ?_⟩⟩
    have g3 := Same.new (o := .tup [.ref B, .ref S]) hT1
    have hp3 := hp2.new (o := .tup [.ref B, .ref S]) hT1
    generalize L2.upd H2 T1 (.tup [.ref B, .ref S]) = H3 at g3 hp3
    have s03 : Same H H3 := Same.trans (Same.trans g1 g2) g3
    refine ⟨_, rfl, n, rfl, by omega, by omega, ?_⟩
    have lb := wf.len
    have lpos : 1 ≤ (bk.map (·.1)).length := List.length_pos_iff.mpr fun e => by have := wf.st; rw [e] at this; cases this
    have lss : (bk.map (·.1)).length ≤ 6 := by rw [List.length_map]; exact lb
    refine for_range (n := n.toNat) (fun i σ H' => ∃ (v6 v7 v8 : Option V) (cl : Bk) (kv' : List (Key × V)) (t' : Int), σ = [some (.ref p), some (.ref W), some (.ref L), some (.int n), some (.ref B), some (.ref S), v6, v7, v8] ∧ But p H H' ∧ Purse H' p t' ∧ t' ≤ t + 12 * i ∧ SL H' S (bk.map (·.1)) ∧ H' B = some (.dK kv') ∧ Rows (cut [p, B] H') kv' cl ∧ WF cl st ws ∧ cl.map (·.1) = bk.map (·.1))
      ⟨none, none, none, bk, kvs, t, rfl, But.of s03, hp3, by omega, eS2.same g3, g3 _ _ (g2 _ _ eB1), ?_, wf, rfl⟩ ?_ ?_
    · refine hRc.same fun c u e => ?_
      obtain ⟨n1, e⟩ := cut_some e
      have n1 : c ≠ p := fun z => n1 (by rw [z]; simp)
      have n2 : c ≠ B := ne_of_none e hB
      rw [cut_out (by simp [n1, n2])]
      exact s03 _ _ e
    · rintro i σ H4 hi ⟨v6, v7, v8, cl, kv', t4, rfl, b04, hp4, tt4, hS4, hB4, hR4, wfc, enm⟩
      have hcm : ∀ {s : Str}, s ∈ bk.map (·.1) → s ∈ cl.map (·.1) := fun h => by rw [enm]; exact h
      have hlk : ∀ {s : Str}, s ∈ bk.map (·.1) → ∃ tu a, valV kv' (.inr s) = some (.ref tu) ∧ (cut [p, B] H4) tu = some (.tup [.str (rowOf cl s).1, .ref a]) ∧ TurnsAt (cut [p, B] H4) a (rowOf cl s).2 := fun h => by
        obtain ⟨v, ev, ⟨tu, a, rfl, e1, e2⟩, _⟩ := hR4.look (hcm h)
        exact ⟨tu, a, ev, e1, e2⟩
      refine ⟨_, rfl, S, rfl, ⟨_, hS4.sq⟩, fun M hM => ?_⟩
      have nMp := hp4.ne hM
      have nMB : B ≠ M := ne_of_none hB4 hM
      refine lc_list (K := K) (a := S) (xs := (bk.map (·.1)).map V.str) (fun j H' => Same H4 H' ∧ SL H' M (((bk.map (·.1)).take j).filter fun s => decide ((rowOf cl s).1 ≠ "done"))) ⟨Same.new hM, upd_same⟩ (fun j H' _ z => (hS4.same z.1).sq) ?_ ?_
      · rintro j x H5 hx0 ⟨sm, hM5⟩
        obtain ⟨s, hsj, rfl⟩ := get_map hx0
        have sm0 : s ∈ bk.map (·.1) := List.mem_of_getElem? hsj
        obtain ⟨tu, a, ev, htu, _⟩ := hlk sm0
        refine ⟨rfl, _, rfl, _, rfl, B, _, rfl, .inl ⟨kv', .inr s, .inl (sm _ _ hB4), rfl, ev.symm⟩, tu, _, _, _, rfl, rfl, SqT.of (sm _ _ (cut_le _ _ htu)), atI_nat (j := 0) rfl, rfl, _, rfl, ite2 (fun c => ?_) (fun c => ?_)⟩
        · have c' : (rowOf cl s).1 ≠ "done" := fun e => by rw [e] at c; exact absurd c (by decide +kernel)
          refine ⟨_, rfl, _, hM5, by rw [List.length_map, sizeLine_eq]; have := List.length_filter_le (fun s => decide ((rowOf cl s).1 ≠ "done")) ((bk.map (·.1)).take j); rw [List.length_take] at this; omega, fun c0 u e => ?_, ?_⟩
          · rw [upd_ne (ne_of_none e hM)]; exact sm _ _ e
          · rw [filt_yes hsj (decide_eq_true c'), SL, upd_same, List.map_append]; rfl
        · have c' : (rowOf cl s).1 = "done" := by
            by_cases z : (rowOf cl s).1 = "done"
            · exact z
            · exact absurd (show (!decide (V.str (rowOf cl s).1 = V.str "done")) = true by rw [decide_eq_false fun q => z (V.str.inj q)]; rfl) c
          rw [filt_no hsj (by rw [c']; rfl)]
          exact ⟨sm, hM5⟩
      rintro H5 ⟨s45, hM5⟩
      rw [List.length_map, List.take_length] at hM5
      generalize hz : (bk.map (·.1)).filter (fun s => decide ((rowOf cl s).1 ≠ "done")) = zs at hM5
      have lz : zs.length ≤ 6 := by rw [← hz]; exact Nat.le_trans (List.length_filter_le _ _) lss
      have zm : ∀ s ∈ zs, s ∈ bk.map (·.1) ∧ (rowOf cl s).1 ≠ "done" := fun s hs => by
        rw [← hz] at hs
        obtain ⟨a1, a2⟩ := List.mem_filter.mp hs
        exact ⟨a1, of_decide_eq_true a2⟩
      have zw : ∀ s ∈ zs, Wd s := fun s hs => by
        obtain ⟨q, hq, e⟩ := List.mem_map.mp (zm s hs).1
        rw [← e]; exact (wf.rs q hq).1
      refine ⟨_, rfl, by show 0 ≤ sizeLine; decide, fun N hN => ?_⟩
      have g6 := Same.new (o := .lst []) hN
      have hN6 : SL (L2.upd H5 N (.lst [])) N [] := upd_same
      generalize L2.upd H5 N (.lst []) = H6 at g6 hN6
      have s46 := Same.trans s45 g6
      refine ⟨dW zs, dW [], dp_words (hM5.same g6), dp_words hN6, sh_words zw, sh_words (fun _ h => by cases h), _, rfl, ?_⟩
      rw [eqv_nil]
      have b06 := b04.trans (But.of s46)
      have hp6 := hp4.same s46
      have hS6 := hS4.same s46
      have hB6 := s46 _ _ hB4
      refine ite2 (fun c => ?_) (fun c => ?_)
      · have zne : zs ≠ [] := fun e => by rw [e] at c; exact absurd c (by decide)
        have zpos := List.length_pos_iff.mpr zne
        refine ⟨_, rfl, _, rfl, p, M, _, t4, rfl, hp6, hM5.same g6, nMp, by rw [List.length_map]; omega, by rw [List.length_map]; omega, by omega, fun j v t7 o7 hj tt7 hp7 => ?_⟩
        obtain ⟨s, hsj, rfl⟩ := get_map hj
        obtain ⟨sm0, nd⟩ := zm s (List.mem_of_getElem? hsj)
        obtain ⟨tu, a, ev, htu, ha⟩ := hlk sm0
        have b67 := But.upd p H6 o7
        have nBp' := nBp
        have hS7 : SL (L2.upd H6 p o7) S (bk.map (·.1)) := by rw [SL, upd_ne nSp]; exact hS6
        have hB7 : (L2.upd H6 p o7) B = some (.dK kv') := by rw [upd_ne nBp]; exact hB6
        generalize L2.upd H6 p o7 = H7 at b67 hp7 hS7 hB7
        have b47 := (But.of s46).trans b67
        have b07 := b06.trans b67
        have sC : Same (cut [p, B] H4) (cut [p, B] H7) := cut_but b47 (by simp)
        have sC1 : Same (cut [p, B] H7) (cut [p] H7) := cut_mono (by simp)
        obtain ⟨kk, tne, tok⟩ := wfc.row (hcm sm0) nd
        rw [enm] at tok
        refine ⟨_, rfl, _, rfl, _, rfl, B, _, rfl, .inl ⟨kv', .inr s, .inl hB7, rfl, ev.symm⟩, _, rfl, _, rfl, p, L, S, .ref tu, _, _, _, ws, t7, rfl, hp7, ⟨tu, a, rfl, sC1 _ _ (sC _ _ htu), sC1 _ _ (sC _ _ ha)⟩, kk, tne, tok, b07 _ _ nL hL, hS7, nL, nSp, wok, lpos, by omega, by omega, fun H8 R k' ts' t8 b78 hp8 tt8 hrow kk' ne' tok' => ?_⟩
        have hB8 := b78 _ _ nBp hB7
        have lkv : kv'.length ≤ 6 := by rw [hR4.len, ← List.length_map (·.1), enm]; exact lss
        refine ⟨_, rfl, _, rfl, B, _, rfl, DPut.k (kvs := kv') (k := Sum.inr s) hB8 (by rw [sizeLine_eq]; omega), ?_⟩
        refine ⟨_, _, _, setR cl s k' ts', _, t8, rfl, But.ofL hB (b07.trans b78), hp8.upd nBp.symm, by omega, ?_, upd_same, ?_, wfc.set (hcm sm0) kk' ne' (by rw [enm]; exact tok'), by rw [setR_names, enm]⟩
        · rw [SL, upd_ne nBS.symm]; exact b78 _ _ nSp hS7
        · rw [cut_upd (by simp)]
          refine (hR4.same (Same.trans sC (cut_but b78 (by simp)))).set (hcm sm0) ?_
          obtain ⟨t9, a9, e9, x1, x2⟩ := hrow
          have out : ∀ {c : Addr} {u : HO}, newH H7 H8 c = some u → (cut [p, B] H8) c = some u := fun {c u} e => by
            obtain ⟨e0, e1⟩ := new_some e
            have n1 := hp7.ne e0
            have n2 : c ≠ B := fun z => by rw [z, hB7] at e0; cases e0
            rw [cut_out (by simp [n1, n2])]; exact e1
          exact ⟨t9, a9, e9, out x1, out x2⟩
      · refine ⟨_, _, _, cl, kv', t4, rfl, b06, hp6, by omega, hS6, hB6, hR4.same (cut_same s46), wfc, enm⟩
    · rintro σ H4 ⟨v6, v7, v8, cl, kv', t4, rfl, b04, hp4, tt4, hS4, hB4, hR4, wfc, enm⟩
      refine ⟨_, rfl, _, rfl, W, _, _, _, rfl, rfl, SqL.of (b04 _ _ nWp hW), atI_nat (j := 1) rfl, by show 2 ≤ sizeLine; decide, fun R hR => ?_⟩
      have nRp := hp4.ne hR
      have gR := Same.new (o := .lst [.ref B, .str st]) hR
      refine k _ R cl t4 (b04.newt hR) (hp4.new hR) (by omega) (b04.fr hR nRp) ⟨B, by rw [cut_out (by simpa using nRp)]; exact upd_same, kv', ?_, ?_⟩ wfc
      · rw [cut_out (by simpa using nBp)]; exact gR _ _ hB4
      · exact hR4.same (Same.trans (cut_mono (by simp)) (cut_same gR))
end
end D1
end L2
namespace L2
namespace D1
open PySem PySem.Spec PyProof.Rows D2
theorem But.unlock {H H' : Hp} {F a : Addr} {u f : HO} (e : H a = some u) (s : But F (L2.upd H a f) H') : But F H (L2.upd H' a u) := fun c o n ec => by
  by_cases h : c = a
  · subst h; rw [upd_same]; rw [e] at ec; exact ec
  · rw [upd_ne h]; exact s _ _ n (by rw [upd_ne h]; exact ec)
abbrev sSaid : Stmt := top 46
def spSaid : Sp := fun vs H Q _ => ∃ (p W : Addr) (bk : Bk) (st : Str) (ws : List Str) (t : Int), vs = [.ref p, .ref W] ∧ Purse H p t ∧ WorldAt (cut [p] H) W bk st ∧ WF bk st ws ∧ WsOk ws ∧ t < 2 ^ 25 ∧
  ∀ (H' : Hp) (R : Addr) (bk' : Bk) (t' : Int), But p H H' → Purse H' p t' → t' ≤ t + 200 → H R = none → WorldAt (cut [p] H') R bk' st → WF bk' st ws → bk'.map (·.1) = bk.map (·.1) → Q (.ref R) H'
theorem goal_in {ts : List (Str × Str)} {ss ws : List Str} (h : TOk ts ss ws) {k : Str} (m : k ∈ ts.map (·.1)) : goalT ts k ∈ ss := by
  obtain ⟨t, ht, rfl⟩ := List.mem_map.mp m
  rw [goalT_at h.nd ht]; exact h.gs t ht
theorem TOk.pick {ts : List (Str × Str)} {ss ws xs : List Str} (h : TOk ts ss ws) (nd : xs.Nodup) (m : ∀ x ∈ xs, x ∈ ts.map (·.1)) : TOk (xs.map fun x => (x, goalT ts x)) ss ws := by
  refine ⟨by rw [List.map_map]; exact (by rw [show ((fun x : Str × Str => x.1) ∘ fun x => (x, goalT ts x)) = id from rfl, List.map_id]; exact nd), fun t ht => ?_, fun t ht => ?_⟩
  · obtain ⟨x, hx, rfl⟩ := List.mem_map.mp ht
    obtain ⟨u, hu, e⟩ := List.mem_map.mp (m x hx)
    show x ∈ ws
    rw [← e]; exact h.ks u hu
  · obtain ⟨x, hx, rfl⟩ := List.mem_map.mp ht
    exact goal_in h (m x hx)
section
variable {P : Program} {w : World} {K : PySem.W.Frag} {mg : Str → Option Value} {base : Heap}
abbrev sfN : List Str := ["_law_purse_here", "_law_world_here", "_law_book", "_law_state", "_law_kind", "_law_turns_here", "_law_kept", "_law_word_here"]
theorem scSf : FnScope sfN ["_law_purse_here", "_law_world_here"] (defScope sSaid) := ⟨rfl, rfl, rfl, by decide +kernel, rfl, by decide +kernel, by decide +kernel⟩
theorem ok_said {f : Addr} {fd : FuncData} (F : Fun K "_law_said_fewer" "_law_said_fewer" sSaid f fd) (T : Free3 mg) (CD : CDraw P w K mg base) (CS : CShuf P w K mg base) : FnOk P w K mg base CX0 4 f fd ["_law_purse_here", "_law_world_here"] spSaid := by
  refine F.ok scSf (fun vs H Q E h => ?_) (fun cdv A outer s H vs Q E hr h => ?_)
  · obtain ⟨p, W, bk, st, ws, t, rfl, _⟩ := h; rfl
  · obtain ⟨p, W, bk, st, ws, t, rfl, hp, ⟨b, hWc, kvs, hbc, hRc⟩, wf, wok, t1, k⟩ := h
    have hu := hu_of hr
    refine ⟨_, pss_cons (ps_set (i := 2) scSf.nd rfl (Or.inl rfl) (pe_callTy call_dictD (by rfl) T.dict (by decide +kernel) (pa_cons (pe_ix ix_list (pv 1) pe_int (fun _ _ => rfl)) pa_nil)))
      (pss_cons (ps_lock (ps_for PassesOwn.never rfl (pi_keys (pe_ix ix_list (pv 1) pe_int (fun _ _ => rfl))) (pg_name (i := 3) scSf.nd rfl (Or.inl rfl))
        (pss_cons (ps_asg (pe_dget hu (pe_ix ix_list (pv 1) pe_int (fun _ _ => rfl)) (pv 3) (fun _ _ => rfl)) (pg_tup rfl (pgs_cons (pg_name (i := 4) scSf.nd rfl (Or.inl rfl)) (pgs_cons (pg_name (i := 5) scSf.nd rfl (Or.inr rfl)) pgs_nil))))
        (pss_one (ps_if (PW.pt (pw_and (pt_cmpR op_eq (pv 4) pe_str (nomark _)) (pw_and (pt_cmpR op_gt (pe_callB call_lenD (by rfl) T.len PySem.boot_len (pa_cons (pv 5) pa_nil)) pe_int (nomark _)) (pw_and1 (pt_cmpR op_eq (pe_cal CD (hr.mono (by decide)) rfl (pa_cons (pv 0) (pa_cons pe_int pa_nil))) pe_int (nomark _))))))
          (pss_cons (ps_set (i := 6) scSf.nd rfl (Or.inl rfl) (pe_slice sl_list (pe_cal CS (hr.mono (by decide)) rfl (pa_cons (pv 0) (pa_cons (pe_callTy (call_listD rfl) (by rfl) T.list (by decide +kernel) (pa_cons (pv 5) pa_nil)) pa_nil))) po_none
              (po_some (pe_op op_add pe_int (pe_cal CD (hr.mono (by decide)) rfl (pa_cons (pv 0) (pa_cons (pe_op op_sub (pe_callB call_lenD (by rfl) T.len PySem.boot_len (pa_cons (pv 5) pa_nil)) pe_int) pa_nil)))))))
          (pss_one (ps_dput hu (pv 2) (pv 3) (pe_tup (pa_cons (pv 4) (pa_cons (pe_callTy (call_dictP rfl) (by rfl) T.dict (by decide +kernel) (pa_cons (pe_lc (own := [("_law_word_here", 7)]) (g := gName 7) (tt := tYes) (te := tTup (tCons (tVar 7) (tCons (tDGet (tVar 5) (tVar 7)) tNil))) rfl scSf.nd (pi_list (pv 6))
              (blkOk_by (N := sfN) (sc := defScope sSaid) (by decide +kernel)) (fun _ _ _ _ _ => pg_name (i := 7) scSf.nd rfl (Or.inl rfl)) (fun _ _ _ _ _ => pts_nil) (fun _ _ _ _ _ => pe_tup (pa_cons (pv 7) (pa_cons (pe_dget hu (pv 5) (pv 7) (fun _ _ => rfl)) pa_nil)))) pa_nil)) pa_nil))) rfl)))
          pss_nil)))))
      (pss_one (ps_ret (pe_lst (pa_cons (pv 2) (pa_cons (pe_ix ix_list (pv 1) pe_int (fun _ _ => rfl)) pa_nil)))))), ?_⟩
    have hW := cut_le _ _ hWc
    have hb := cut_le _ _ hbc
    have nWp : W ≠ p := (fun e => by rw [e, cut_in (by simp)] at hWc; cases hWc)
    have nbp : b ≠ p := (fun e => by rw [e, cut_in (by simp)] at hbc; cases hbc)
    have nWb : W ≠ b := fun e => by rw [e, hb] at hW; cases hW
    have bne : bk ≠ [] := fun e => by have := wf.st; rw [e] at this; cases this
    refine ⟨_, rfl, W, _, _, _, rfl, rfl, SqL.of hW, atI_nat (j := 0) rfl, b, kvs, rfl, .inl hb, fun B hB => ?_⟩
    have g1 := Same.new (o := .dK kvs) hB
    have eB1 : (L2.upd H B (.dK kvs)) B = some (.dK kvs) := upd_same
    have hp1 := hp.new (o := .dK kvs) hB
    have nBp := hp.ne hB
    have nBb : B ≠ b := (ne_of_none hb hB).symm
    generalize L2.upd H B (.dK kvs) = H1 at g1 eB1 hp1
    refine ⟨b, _, g1 _ _ hb, trivial, fun od => ?_⟩
    have hWL : (L2.upd H1 b (.frz od (.dK kvs))) W = some (.lst [.ref b, .str st]) := by rw [upd_ne nWb]; exact g1 _ _ hW
    refine ⟨_, rfl, W, _, _, _, rfl, rfl, SqL.of hWL, atI_nat (j := 0) rfl, b, od, rfl, .inl ⟨kvs, upd_same, ?_⟩⟩
    have eqH : ∀ {c : Addr} {u : HO}, H c = some u → c ≠ b → (L2.upd H1 b (.frz od (.dK kvs))) c = some u := fun {c u} e n => by rw [upd_ne n]; exact g1 _ _ e
    have hRL0 : Rows (cut [p, B] (L2.upd H1 b (.frz od (.dK kvs)))) kvs bk := by
      refine (hRc.lock (o := .frz od (.dK kvs)) hbc bne).same fun c u e => ?_
      have nc : c ≠ p := fun z => by rw [z, upd_ne nbp.symm, cut_in (by simp)] at e; cases e
      have nc2 : c ≠ B := fun z => by rw [z, upd_ne nBb, cut_out (by simpa using nBp), hB] at e; cases e
      rw [cut_out (by simp [nc, nc2])]
      by_cases h : c = b
      · rw [h] at e ⊢; rw [upd_same] at e ⊢; exact e
      · rw [upd_ne h] at e ⊢; exact g1 _ _ (cut_le _ _ e)
    have hp1L := hp1.upd (o := .frz od (.dK kvs)) nbp.symm
    have lk0 : kvs.length = bk.length := hRc.len
    have lb := wf.len
    -- the locked heap, B unknown
    have bHL : But p (L2.upd H b (.frz od (.dK kvs))) (L2.upd H1 b (.frz od (.dK kvs))) := fun c u _ e => by
      by_cases h : c = b
      · rw [h] at e ⊢; rw [upd_same] at e ⊢; exact e
      · rw [upd_ne h] at e ⊢; exact g1 _ _ e
    have hBL : (L2.upd H b (.frz od (.dK kvs))) B = none := by rw [upd_ne nBb]; exact hB
    have hbL : (L2.upd H b (.frz od (.dK kvs))) b = some (.frz od (.dK kvs)) := upd_same
    have hWL0 : (L2.upd H b (.frz od (.dK kvs))) W = some (.lst [.ref b, .str st]) := by rw [upd_ne nWb]; exact hW
    have eB1L : (L2.upd H1 b (.frz od (.dK kvs))) B = some (.dK kvs) := by rw [upd_ne nBb]; exact eB1
    refine for_it (walk_keys (d := b) (o := od) (kvs := kvs)) (fun i σ H' => ∃ (v3 v4 v5 v6 : Option V) (cl : Bk) (kv' : List (Key × V)) (t' : Int), σ = [some (.ref p), some (.ref W), some (.ref B), v3, v4, v5, v6, none] ∧ But p (L2.upd H b (.frz od (.dK kvs))) H' ∧ Purse H' p t' ∧ t' ≤ t + 10 * i ∧ H' B = some (.dK kv') ∧ Rows (cut [p, B] H') kvs bk ∧ Rows (cut [p, B] H') kv' cl ∧ WF cl st ws ∧ cl.map (·.1) = bk.map (·.1))
      ⟨none, none, none, none, bk, kvs, t, rfl, bHL, hp1L, by omega, eB1L, hRL0, hRL0, wf, rfl⟩ (fun i σ H' _ ⟨_, _, _, _, _, _, _, _, z, _⟩ => z _ _ nbp hbL) ?_ ?_
    · rintro i x σ H3 H4 hi ⟨v3, v4, v5, v6, cl, kv', t4, rfl, b04, hp4, tt4, hB4, hR4, hS4, wfc, enm⟩ ⟨rfl, kk, v0, hkv, rfl⟩
      obtain ⟨r, hr', rfl, _⟩ := hRc.at hkv
      have hrm : r ∈ bk := List.mem_of_getElem? hr'
      have hs : r.1 ∈ bk.map (·.1) := List.mem_map_of_mem hrm
      have hcs : r.1 ∈ cl.map (·.1) := by rw [enm]; exact hs
      obtain ⟨v, ev, ⟨tu, a, rfl, htu, ha⟩, _⟩ := hR4.look hs
      rw [rowOf_self wf.nd hrm] at htu ha
      have hb4 := b04 _ _ nbp hbL
      have hW4 := b04 _ _ nWp hWL0
      have il : i < bk.length := (List.getElem?_eq_some_iff.mp hr').1
      have lkv : kv'.length ≤ 6 := by rw [hS4.len, ← List.length_map (·.1), enm, List.length_map]; exact lb
      have htu0 := cut_le _ _ htu
      have ha0 : TurnsAt H4 a r.2.2 := cut_le _ _ ha
      have nap : a ≠ p := fun e => by rw [TurnsAt, e, cut_in (by simp)] at ha; cases ha
      have naB : a ≠ B := fun e => by rw [TurnsAt, e, cut_in (by simp)] at ha; cases ha
      refine ⟨_, rfl, W, _, _, _, rfl, rfl, SqL.of hW4, atI_nat (j := 0) rfl, _, rfl, b, _, rfl, .inl ⟨kvs, .inr r.1, .inr ⟨od, hb4⟩, rfl, ev.symm⟩, tu, _, rfl, SqT.of htu0, rfl, _, _, rfl, _, _, rfl, rfl, ?_⟩
      refine ⟨_, rfl, rfl, _, rfl, ite2 (fun c1 => ?_) (fun c1 => iteF ⟨_, _, _, _, cl, kv', t4, rfl, b04, hp4, by omega, hB4, hR4, hS4, wfc, enm⟩)⟩
      have e1 : r.2.1 = "says" := V.str.inj (of_decide_eq_true c1)
      have tok : TOk r.2.2 (bk.map (·.1)) ws := by
        have := (wf.rs r hrm).2
        rcases this with ⟨z, _⟩ | ⟨_, _, z⟩
        · rw [z] at e1; exact absurd e1 (by decide +kernel)
        · exact z
      have lts := tok.len
      have whi := wok.hi
      have kl : (kT r.2.2).length = r.2.2.length := by rw [kT, List.length_map]
      refine ⟨_, rfl, a, _, rfl, ha0, _, _, rfl, rfl, _, rfl, ite2 (fun c2 => ?_) (fun c2 => iteF ⟨_, _, _, _, cl, kv', t4, rfl, b04, hp4, by omega, hB4, hR4, hS4, wfc, enm⟩)⟩
      have l2 : 1 < r.2.2.length := by have := of_decide_eq_true c2; rw [kl] at this; omega
      refine ⟨_, rfl, p, 2, t4, rfl, hp4, by decide, by decide, by omega, fun rr t5 o5 r0 r1 tt5 hp5 => ?_⟩
      have b45 := But.upd p H4 o5
      generalize L2.upd H4 p o5 = H5 at b45 hp5
      have b05 := b04.trans b45
      have hB5 := b45 _ _ nBp hB4
      have hR5 := hR4.same (cut_but b45 (by simp))
      have hS5 := hS4.same (cut_but b45 (by simp))
      refine ⟨rfl, _, rfl, ite2 (fun c3 => ?_) (fun c3 => ⟨_, _, _, _, cl, kv', t5, rfl, b05, hp5, by omega, hB5, hR5, hS5, wfc, enm⟩)⟩
      have ha5 : TurnsAt H5 a r.2.2 := b45 _ _ nap ha0
      have ek : (kT r.2.2).map (fun kv => kV kv.1) = (r.2.2.map (·.1)).map V.str := by rw [kT, List.map_map, List.map_map]; rfl
      refine ⟨_, rfl, _, rfl, a, kT r.2.2, rfl, .inl ha5, fun q hq => ?_⟩
      rw [ek]
      refine ⟨p, q, _, t5, rfl, hp5.new hq, upd_same, hp5.ne hq, by rw [List.length_map, List.length_map]; omega, by omega, fun H6 R6 ys t6 b6 nR6 hy pm hp6 tt6 => ?_⟩
      obtain ⟨zs, rfl, pz⟩ := perm_str pm
      rw [List.length_map, List.length_map] at tt6
      have b56 : But p H5 H6 := (But.new hq).trans b6
      have ha6 : TurnsAt H6 a r.2.2 := b56 _ _ nap ha5
      have nR6p : R6 ≠ p := fun e => by
        obtain ⟨g, bb, z, ep, _⟩ := hp5.new (o := .lst ((r.2.2.map (·.1)).map V.str)) hq
        rw [e, ep] at nR6; cases nR6
      have lz : zs.length = r.2.2.length := by rw [pz.length_eq, List.length_map]
      refine ⟨_, rfl, _, rfl, a, _, rfl, ha6, _, _, rfl, rfl, p, _, t6, rfl, hp6, by rw [kl]; omega, by rw [kl]; omega, by omega, fun r7 t7 o7 y0 y1 tt7 hp7 => ?_⟩
      have b67 := But.upd p H6 o7
      have hz7 : SL (L2.upd H6 p o7) R6 zs := by rw [SL, upd_ne nR6p]; exact hy
      generalize L2.upd H6 p o7 = H7 at b67 hp7 hz7
      refine ⟨_, _, rfl, rfl, _, rfl, R6, _, rfl, SqL.of hz7, fun q7 hq7 => ?_⟩
      rw [cutV_map, cutL_to _ (by omega)]
      have hm : 1 ≤ (1 + r7).toNat := by omega
      generalize (1 + r7).toNat = m at hm
      have lx : 1 ≤ (zs.take m).length ∧ (zs.take m).length ≤ 6 := by rw [List.length_take]; omega
      have xm : ∀ x ∈ zs.take m, x ∈ r.2.2.map (·.1) := fun x hx => pz.mem_iff.mp (List.mem_of_mem_take hx)
      have ndx : (zs.take m).Nodup := List.Nodup.sublist (List.take_sublist _ _) (pz.nodup_iff.mpr tok.nd)
      generalize zs.take m = xs at lx xm ndx
      have g8 := Same.new (o := .lst (xs.map V.str)) hq7
      have hq8 : SL (L2.upd H7 q7 (.lst (xs.map V.str))) q7 xs := upd_same
      have hp8 := hp7.new (o := .lst (xs.map V.str)) hq7
      generalize L2.upd H7 q7 (.lst (xs.map V.str)) = H8 at g8 hq8 hp8
      have b58 : But p H5 H8 := (b56.trans b67).trans (But.of g8)
      have ha8 : TurnsAt H8 a r.2.2 := b58 _ _ nap ha5
      refine ⟨_, rfl, _, rfl, q7, rfl, ⟨_, hq8.sq⟩, fun D hD => ?_⟩
      refine lc_list (K := K) (a := q7) (xs := xs.map V.str) (fun j H' => Same H8 H' ∧ ∃ qs : List Addr, H' D = some (.lst (qs.map V.ref)) ∧ Paired (fun a (kv : Key × V) => (cut [D] H') a = some (.tup [kV kv.1, kv.2])) qs (kT ((xs.take j).map fun x => (x, goalT r.2.2 x)))) ⟨Same.new hD, [], upd_same, .nil⟩ (fun j H' _ z => (hq8.same z.1).sq) ?_ ?_
      · rintro j v H9 hx0 ⟨sm, qs, hD5, hpr⟩
        obtain ⟨x, hxj, rfl⟩ := get_map hx0
        have xmm := xm x (List.mem_of_getElem? hxj)
        refine ⟨rfl, ?_⟩
        dsimp only [tYes]
        rw [if_pos rfl]
        refine ⟨_, rfl, _, rfl, _, rfl, a, _, rfl, .inl ⟨kT r.2.2, .inr x, .inl (ha8.same sm), rfl, (valV_goal xmm).symm⟩, by show 2 ≤ sizeLine; decide, fun T1 hT1 => ?_⟩
        have g := Same.new (o := .tup [.str x, .str (goalT r.2.2 x)]) hT1
        have nT : T1 ≠ D := fun e => by rw [e, hD5] at hT1; cases hT1
        have lqs : qs.length ≤ 60 := by rw [paired_len hpr, kT, List.length_map, List.length_map, List.length_take]; omega
        refine ⟨_, g _ _ hD5, by rw [List.length_map, sizeLine_eq]; omega, fun c u e => ?_, qs ++ [T1], by rw [upd_same, List.map_append]; rfl, ?_⟩
        · rw [upd_ne (ne_of_none e hD)]; exact g _ _ (sm _ _ e)
        · rw [cut_upd (by simp), take_succ_get hxj, List.map_append, kT_app]
          exact pair_app (paired_imp (fun p kv e => cut_same g _ _ e) hpr) (by rw [cut_out (by simpa using nT)]; exact upd_same)
      rintro H9 ⟨s89, qs, hD9, hpr⟩
      rw [List.length_map, List.take_length] at hpr
      refine ⟨D, qs, kT (xs.map fun x => (x, goalT r.2.2 x)), rfl, SqL.of hD9, paired_imp (fun p kv e => SqT.of (cut_le _ _ e)) hpr, fun T hT => ?_⟩
      have tok' : TOk (xs.map fun x => (x, goalT r.2.2 x)) (bk.map (·.1)) ws := tok.pick ndx xm
      have zne : (xs.map fun x => (x, goalT r.2.2 x)) ≠ [] := fun e => by have := congrArg List.length e; rw [List.length_map] at this; rw [this] at lx; exact absurd lx.1 (by decide)
      generalize (xs.map fun x => (x, goalT r.2.2 x)) = zt at tok' zne hT
      rw [merge_id2 (by rw [kT_keys2]; exact inr_nd' tok'.nd)]
      have g10 := Same.new (o := .dK (kT zt)) hT
      have hT10 : TurnsAt (L2.upd H9 T (.dK (kT zt))) T zt := upd_same
      have hp9 := hp8.same s89
      have hp10 := hp9.new (o := .dK (kT zt)) hT
      have nTp := hp9.ne hT
      have b59 : But p H5 H9 := b58.trans (But.of s89)
      have nTB : T ≠ B := fun e => by rw [e, b59 _ _ nBp hB5] at hT; cases hT
      generalize L2.upd H9 T (.dK (kT zt)) = H10 at g10 hT10 hp10
      refine ⟨by show 2 ≤ sizeLine; decide, fun T1 hT1 => ?_⟩
      have b510 := b59.trans (But.of g10)
      have nT1p := hp10.ne hT1
      have nT1B : T1 ≠ B := fun e => by rw [e, b510 _ _ nBp hB5] at hT1; cases hT1
      have g11 := Same.new (o := .tup [.str r.2.1, .ref T]) hT1
      have e11 : (L2.upd H10 T1 (.tup [.str r.2.1, .ref T])) T1 = some (.tup [.str r.2.1, .ref T]) := upd_same
      have hp11 := hp10.new (o := .tup [.str r.2.1, .ref T]) hT1
      generalize L2.upd H10 T1 (.tup [.str r.2.1, .ref T]) = H11 at g11 e11 hp11
      have b511 := b510.trans (But.of g11)
      refine ⟨_, rfl, _, rfl, B, _, rfl, DPut.k (kvs := kv') (k := Sum.inr r.1) (b511 _ _ nBp hB5) (by rw [sizeLine_eq]; omega), ?_⟩
      refine ⟨_, _, _, _, setR cl r.1 r.2.1 zt, _, t7, rfl, But.ofL hBL (b05.trans b511), hp11.upd nBp.symm, by omega, upd_same, ?_, ?_, wfc.set hcs (.inl e1) zne (by rw [enm]; exact tok'), by rw [setR_names, enm]⟩
      · rw [cut_upd (by simp)]
        exact hR5.same (cut_but b511 (by simp))
      · rw [cut_upd (by simp)]
        refine (hS5.same (cut_but b511 (by simp))).set hcs ⟨T1, T, rfl, ?_, ?_⟩
        · rw [cut_out (by simp [nT1p, nT1B])]; exact e11
        · rw [TurnsAt, cut_out (by simp [nTp, nTB])]; exact g11 _ _ hT10
    · rintro σ H4 ⟨v3, v4, v5, v6, cl, kv', t4, rfl, b04, hp4, tt4, hB4, hR4, hS4, wfc, enm⟩
      rw [lk0] at tt4
      have hb4 := b04 _ _ nbp hbL
      have bu := But.unlock hb b04
      have hSu : Rows (cut [p, B] (L2.upd H4 b (.dK kvs))) kv' cl := by
        have hbc4 : (cut [p, B] H4) b = some (.frz od (.dK kvs)) := by rw [cut_out (by simp [nbp, nBb.symm])]; exact hb4
        refine (rows_unl (o := .dK kvs) hbc4 hS4).same fun c u e => ?_
        by_cases h : c = b
        · rw [h, cut_out (by simp [nbp, nBb.symm]), upd_same]; rw [h, upd_same] at e; exact e
        · rw [upd_ne h] at e
          obtain ⟨n1, e⟩ := cut_some e
          rw [cut_out n1, upd_ne h]; exact e
      refine ⟨hb4, ?_⟩
      have hBu : (L2.upd H4 b (.dK kvs)) B = some (.dK kv') := by rw [upd_ne nBb]; exact hB4
      have hpu := hp4.upd (o := .dK kvs) nbp.symm
      generalize L2.upd H4 b (.dK kvs) = H5 at bu hSu hBu hpu
      refine ⟨_, rfl, _, rfl, W, _, _, _, rfl, rfl, SqL.of (bu _ _ nWp hW), atI_nat (j := 1) rfl, by show 2 ≤ sizeLine; decide, fun R hR => ?_⟩
      have nRp := hpu.ne hR
      have gR := Same.new (o := .lst [.ref B, .str st]) hR
      refine k _ R cl t4 (bu.newt hR) (hpu.new hR) (by omega) (bu.fr hR nRp) ⟨B, by rw [cut_out (by simpa using nRp)]; exact upd_same, kv', ?_, ?_⟩ wfc enm
      · rw [cut_out (by simpa using nBp)]; exact gR _ _ hBu
      · exact hSu.same (Same.trans (cut_mono (by simp)) (cut_same gR))
end
end D1
end L2
namespace L2
namespace D1
open PySem PySem.Spec PyProof.Rows D2 X5 X6
section
variable {P : Program} {w : World} {K : PySem.W.Frag} {mg : Str → Option Value} {base : Heap} {C : Addr}
abbrev leN : List Str := ["_law_steps", "_law_pair", "_law_talk", "_law_word_here"]
end
end D1
end L2
namespace L2
namespace D1
open PySem PySem.Spec PyProof.Rows D2 X5 X6
abbrev sName : Stmt := top 49
def let26 (i : Nat) : Str := ⟨#[97 + i]⟩
/-- the n-th name -/
def nameP (n : Nat) : Str := let26 (n / 26 % 26) ++ let26 (n % 26)
theorem abc_let : ∀ i : Fin 26, atI (Str.ofString "abcdefghijklmnopqrstuvwxyz").cps.toList ((i.val : Nat) : Int) = some (97 + i.val) := by decide +kernel
theorem abc_letN {i : Nat} (h : i < 26) : atI (Str.ofString "abcdefghijklmnopqrstuvwxyz").cps.toList (i : Int) = some (97 + i) := abc_let ⟨i, h⟩
def spName : Sp := fun vs H Q _ => ∃ n : Nat, vs = [.int n] ∧ n < 676 ∧ Q (.str (nameP n)) H
section
variable {P : Program} {w : World} {K : PySem.W.Frag} {mg : Str → Option Value} {base : Heap} {C : Addr}
theorem scNa : FnScope ["_law_number"] ["_law_number"] (defScope sName) := ⟨rfl, rfl, rfl, by decide +kernel, rfl, by decide +kernel, by decide +kernel⟩
theorem ok_name {f : Addr} {fd : FuncData} (F : Fun K "_law_name" "_law_name" sName f fd) : FnOk P w K mg base CX0 1 f fd ["_law_number"] spName := by
  refine F.ok scNa (fun vs H Q E h => ?_) (fun cdv A outer s H vs Q E hr h => ?_)
  · obtain ⟨n, rfl, _⟩ := h; rfl
  · obtain ⟨n, rfl, hn, k⟩ := h
    refine ⟨_, pss_one (ps_ret (pe_op op_add_str (pe_ix ix_str pe_str (pe_op op_mod (pe_op op_fdiv (pv 0) pe_int) pe_int) (fun _ _ => rfl)) (pe_ix ix_str pe_str (pe_op op_mod (pv 0) pe_int) (fun _ _ => rfl)))), ?_⟩
    have e1 : ((n : Int) / 26 % 26) = ((n / 26 % 26 : Nat) : Int) := by omega
    have e2 : ((n : Int) % 26) = ((n % 26 : Nat) : Int) := by omega
    refine ⟨_, rfl, _, _, rfl, rfl, ⟨by decide, by decide⟩, _, _, rfl, rfl, (by show (0 : Int) < 26; decide), _, _, 97 + n / 26 % 26, rfl, rfl, by decide +kernel, ?_, _, rfl, _, _, rfl, rfl, (by show (0 : Int) < 26; decide), _, _, 97 + n % 26, rfl, rfl, by decide +kernel, ?_, _, _, rfl, rfl, ?_, k⟩
    · rw [e1]; exact abc_letN (Nat.mod_lt _ (by decide))
    · rw [e2]; exact abc_letN (Nat.mod_lt _ (by decide))
    · show 1 + 1 ≤ sizeLine
      decide
end
end D1
end L2
namespace L2
namespace D1
open PySem PySem.Spec PyProof.Rows D2 X5 X6
structure Free4 (mg : Str → Option Value) : Prop extends Free3 mg where
  any : mg "any" = none
def bothW (bk cl : Bk) (p : Pr) (ws : List Str) : List (Str × Pr) := ws.map fun w => (w, (goalT (rowOf bk p.1).2 w, goalT (rowOf cl p.2).2 w))
theorem key_ordT {ts : List (Str × Str)} {x : Str} : x ∈ (ordT ts).map (·.1) ↔ x ∈ ts.map (·.1) := by rw [ordT_keys]; exact (srt_perm _).mem_iff
theorem all_ord {ts us : List (Str × Str)} : (((ordT ts).all fun t => decide (t.1 ∈ (ordT us).map (·.1))) = true) ↔ ∀ t ∈ ts, t.1 ∈ us.map (·.1) := by
  rw [List.all_eq_true]
  constructor
  · intro h t ht
    have : t.1 ∈ (ordT ts).map (·.1) := key_ordT.mpr (List.mem_map_of_mem ht)
    obtain ⟨u, hu, e⟩ := List.mem_map.mp this
    rw [← e]; exact key_ordT.mp (of_decide_eq_true (h u hu))
  · intro h t ht
    have : t.1 ∈ ts.map (·.1) := key_ordT.mp (List.mem_map_of_mem ht)
    obtain ⟨u, hu, e⟩ := List.mem_map.mp this
    exact decide_eq_true (key_ordT.mpr (by rw [← e]; exact h u hu))
end D1
end L2
namespace L2
namespace D1
open PySem PySem.Spec PyProof.Rows D2 X5 X6
abbrev sEnded : Stmt := top 53
def spEnded : Sp := fun vs H Q _ => ∃ (p W : Addr) (bk : Bk) (st : Str) (ws : List Str) (t : Int), vs = [.ref p, .ref W] ∧ Purse H p t ∧ WorldAt (cut [p] H) W bk st ∧ WF bk st ws ∧ WsOk ws ∧ t < 2 ^ 25 ∧
  ∀ (H' : Hp) (R : Addr) (st' : Str) (t' : Int), But p H H' → WorldAt (cut [p] H') R bk st' → WF bk st' ws → Purse H' p t' → t' ≤ t + 2 → Q (.ref R) H'
/-- the names of the rows that are done -/
def doneW (bk : Bk) : List Str := (bk.filter fun r : RowD => decide (r.2.1 = ("done" : Str))).map (·.1)
theorem doneW_yes {bk : Bk} {r : RowD} {j : Nat} (h : bk[j]? = some r) (c : r.2.1 = "done") : doneW (bk.take (j + 1)) = doneW (bk.take j) ++ [r.1] := by
  rw [take_succ_get h, doneW, List.filter_append, List.filter_cons_of_pos (by exact decide_eq_true c), List.map_append]; rfl
theorem doneW_no {bk : Bk} {r : RowD} {j : Nat} (h : bk[j]? = some r) (c : ¬ r.2.1 = "done") : doneW (bk.take (j + 1)) = doneW (bk.take j) := by
  rw [take_succ_get h, doneW, List.filter_append, List.filter_cons_of_neg (by simpa using c), List.filter_nil, List.append_nil]; rfl
section
variable {P : Program} {w : World} {K : PySem.W.Frag} {mg : Str → Option Value} {base : Heap}
abbrev enN : List Str := ["_law_purse_here", "_law_world_here", "_law_done", "_law_state"]
theorem scEn : FnScope enN ["_law_purse_here", "_law_world_here"] (defScope sEnded) := ⟨rfl, rfl, rfl, by decide +kernel, rfl, by decide +kernel, by decide +kernel⟩
theorem ok_ended {f : Addr} {fd : FuncData} (F : Fun K "_law_ended" "_law_ended" sEnded f fd) (CD : CDraw P w K mg base) (CO : COne P w K mg base) : FnOk P w K mg base CX0 5 f fd ["_law_purse_here", "_law_world_here"] spEnded := by
  refine F.ok scEn (fun vs H Q E h => ?_) (fun cdv A outer s H vs Q E0' hr h => ?_)
  · obtain ⟨p, W, bk, st, ws, t, rfl, _⟩ := h; rfl
  · obtain ⟨p, W, bk, st, ws, t, rfl, hp, hWW, wf, wok, t1, k⟩ := h
    have hu := hu_of hr
    refine ⟨_, pss_cons (ps_lock (ps_setLc (i := 2) (own := [("_law_state", 3)]) (g := gName 3) (tt := tTest (tOp rEq (tOp (rIxT K) (tDGet (tOp (rIxL K) (tVar 1) (tC (.int 0))) (tVar 3)) (tC (.int 0))) (tC (.str "done")))) (te := tVar 3) rfl scEn.nd rfl rfl (sw_true rfl rfl rfl rfl) (pi_keys (pe_ix ix_list (pv 1) pe_int (fun _ _ => rfl)))
        (blkOk_by (N := enN) (sc := defScope sEnded) (by decide +kernel)) (fun _ _ _ _ _ => pg_name (i := 3) scEn.nd rfl (Or.inl rfl))
        (fun _ _ _ _ _ => pts_one (pt_cmpR op_eq (pe_ix ix_tup (pe_dget hu (pe_ix ix_list (pv 1) pe_int (fun _ _ => rfl)) (pv 3) (fun _ _ => rfl)) pe_int (fun _ _ => rfl)) pe_str rfl)) (fun _ _ _ _ _ => pv 3)))
      (pss_one (ps_ret (pe_ifExp (PW.pt (pw_and (pt_cmpR (op_neD hr.units) (pv 2) (pe_lst pa_nil) (by rfl)) (pw_and1 (pt_cmpR op_eq (pe_cal CD (hr.mono (by decide)) rfl (pa_cons (pv 0) (pa_cons pe_int pa_nil))) pe_int (nomark _)))))
        (pe_lst (pa_cons (pe_ix ix_list (pv 1) pe_int (fun _ _ => rfl)) (pa_cons (pe_cal CO (hr.mono (by decide)) rfl (pa_cons (pv 0) (pa_cons (pv 2) pa_nil))) pa_nil))) (pv 1)))), ?_⟩
    obtain ⟨b, hWc, kvs, hbc, hRc⟩ := id hWW
    have hW := cut_le _ _ hWc
    have hb := cut_le _ _ hbc
    have nWp : W ≠ p := (fun e => by rw [e, cut_in (by simp)] at hWc; cases hWc)
    have nbp : b ≠ p := (fun e => by rw [e, cut_in (by simp)] at hbc; cases hbc)
    have nWb : W ≠ b := fun e => by rw [e, hb] at hW; cases hW
    have lk0 : kvs.length = bk.length := hRc.len
    have lb := wf.len
    refine ⟨b, _, hb, trivial, fun od => ?_⟩
    have hWL : (L2.upd H b (.frz od (.dK kvs))) W = some (.lst [.ref b, .str st]) := by rw [upd_ne nWb]; exact hW
    refine ⟨_, rfl, W, _, _, _, rfl, rfl, SqL.of hWL, atI_nat (j := 0) rfl, b, od, rfl, .inl ⟨kvs, upd_same, fun M hM => ?_⟩⟩
    have nMb : M ≠ b := fun e => by rw [e, upd_same] at hM; cases hM
    refine lc_it (walk_keys (d := b) (o := od) (kvs := kvs)) (fun j H' => Same (L2.upd H b (.frz od (.dK kvs))) H' ∧ SL H' M (doneW (bk.take j))) ⟨Same.new hM, upd_same⟩ (fun j H' _ z => z.1 _ _ upd_same) ?_ ?_
    · rintro j x H2 H3 hj ⟨sm, hM2⟩ ⟨rfl, kk, v0, hkv, rfl⟩
      obtain ⟨r, hr', rfl, tu, a, rfl, htu, ha⟩ := hRc.at hkv
      have ev : valV kvs (.inr r.1) = some (.ref tu) := val_at (by rw [hRc.keys]; have := inr_nd' wf.nd; rw [List.map_map] at this; exact this) hkv
      have htu := cut_le _ _ htu
      have nb : tu ≠ b := fun e => by rw [e, hb] at htu; cases htu
      have htu3 := sm _ _ (show (L2.upd H b (.frz od (.dK kvs))) tu = _ by rw [upd_ne nb]; exact htu)
      have il : j < bk.length := (List.getElem?_eq_some_iff.mp hr').1
      have ll : (doneW (bk.take j)).length ≤ 6 := by
        rw [doneW, List.length_map]
        have := List.length_filter_le (fun r : RowD => decide (r.2.1 = ("done" : Str))) (bk.take j)
        rw [List.length_take] at this
        omega
      refine ⟨rfl, _, rfl, W, _, _, _, rfl, rfl, SqL.of (sm _ _ hWL), atI_nat (j := 0) rfl, _, rfl, b, _, rfl, .inl ⟨kvs, .inr r.1, .inr ⟨od, sm _ _ upd_same⟩, rfl, ev.symm⟩, tu, _, _, _, rfl, rfl, SqT.of htu3, atI_nat (j := 0) rfl, rfl, _, rfl, ite2 (fun c => ?_) (fun c => ?_)⟩
      · have c' : r.2.1 = "done" := V.str.inj (of_decide_eq_true c)
        refine ⟨_, rfl, _, hM2, by rw [List.length_map, sizeLine_eq]; omega, fun c0 u e => ?_, ?_⟩
        · rw [upd_ne (ne_of_none e hM)]; exact sm _ _ e
        · rw [doneW_yes hr' c', SL, upd_same, List.map_append]; rfl
      · have c' : ¬ r.2.1 = "done" := fun e => c (by rw [e]; exact decide_eq_true rfl)
        rw [doneW_no hr' c']
        exact ⟨sm, hM2⟩
    rintro H2 ⟨sm, hM2⟩
    rw [lk0, List.take_length] at hM2
    have su := Same.unlock hb sm
    refine ⟨sm _ _ upd_same, ?_⟩
    have hM3 : SL (L2.upd H2 b (.dK kvs)) M (doneW bk) := by rw [SL, upd_ne nMb]; exact hM2
    have nM0 : H M = none := by rw [upd_ne nMb] at hM; exact hM
    generalize L2.upd H2 b (.dK kvs) = H3 at su hM3
    have zm : ∀ s ∈ doneW bk, s ∈ bk.map (·.1) := fun s hs => by
      obtain ⟨r, hr, e⟩ := List.mem_map.mp hs
      rw [← e]; exact List.mem_map_of_mem (List.mem_filter.mp hr).1
    have zw : ∀ s ∈ doneW bk, Wd s := fun s hs => by
      obtain ⟨q, hq, e⟩ := List.mem_map.mp (zm s hs)
      rw [← e]; exact (wf.rs q hq).1
    have lz : (doneW bk).length ≤ 6 := by rw [doneW, List.length_map]; exact Nat.le_trans (List.length_filter_le _ _) lb
    generalize doneW bk = zs at hM3 zm zw lz
    refine ⟨_, rfl, by show 0 ≤ sizeLine; decide, fun N hN => ?_⟩
    have g6 := Same.new (o := .lst []) hN
    have hN6 : SL (L2.upd H3 N (.lst [])) N [] := upd_same
    generalize L2.upd H3 N (.lst []) = H6 at g6 hN6
    have s06 := Same.trans su g6
    have hp6 := hp.same s06
    have nMp : M ≠ p := hp.ne nM0
    have back : ∀ {H' : Hp} {t' : Int}, But p H H' → Purse H' p t' → t' ≤ t + 2 → WorldAt (cut [p] H') W bk st := fun bb _ _ => hWW.same (cut_but bb (by simp))
    refine ⟨dW zs, dW [], dp_words (hM3.same g6), dp_words hN6, sh_words zw, sh_words (fun _ h => by cases h), _, rfl, ?_⟩
    rw [eqv_nil]
    refine ite2 (fun c => ?_) (fun c => iteF ⟨_, rfl, k H6 W st t (But.of s06) (back (But.of s06) hp6 (by omega)) wf hp6 (by omega)⟩)
    have zne : zs ≠ [] := fun e => by rw [e] at c; exact absurd c (by decide)
    have zpos := List.length_pos_iff.mpr zne
    refine ⟨_, rfl, p, 10, t, rfl, hp6, by decide, by decide, by omega, fun r t7 o7 r0 r1 tt7 hp7 => ?_⟩
    have b67 := But.upd p H6 o7
    have hM7 : SL (L2.upd H6 p o7) M zs := by rw [SL, upd_ne nMp]; exact hM3.same g6
    generalize L2.upd H6 p o7 = H7 at b67 hp7 hM7
    have b07 := (But.of s06).trans b67
    refine ⟨rfl, _, rfl, ite2 (fun _ => ?_) (fun _ => ⟨_, rfl, k H7 W st t7 b07 (back b07 hp7 (by omega)) wf hp7 (by omega)⟩)⟩
    refine ⟨_, rfl, W, _, _, _, rfl, rfl, SqL.of (b07 _ _ nWp hW), atI_nat (j := 0) rfl, _, rfl, _, rfl, p, M, _, t7, rfl, hp7, hM7, nMp, by rw [List.length_map]; omega, by rw [List.length_map]; omega, by omega, fun j v t8 o8 hj tt8 hp8 => ?_⟩
    obtain ⟨s, hsj, rfl⟩ := get_map hj
    have b78 := But.upd p H7 o8
    generalize L2.upd H7 p o8 = H8 at b78 hp8
    have b08 := b07.trans b78
    refine ⟨by show 2 ≤ sizeLine; decide, fun R hR => ?_⟩
    have nRp := hp8.ne hR
    have gR := Same.new (o := .lst [.ref b, .str s]) hR
    have bR := b08.trans (But.of gR)
    refine k _ R s t8 bR ⟨b, by rw [cut_out (by simpa using nRp)]; exact upd_same, ?_⟩ ⟨wf.nd, wf.rs, zm s (List.mem_of_getElem? hsj), wf.len⟩ (hp8.new hR) (by omega)
    exact (show BookAt (cut [p] H) b bk from ⟨kvs, hbc, hRc⟩).same (cut_but bR (by simp))
end
end D1
end L2
namespace L2
namespace D1
open PySem PySem.Spec PyProof.Rows D2 X5 X6
/-- a world whose book may stand locked -/
def WorldR (H : Hp) (W : Addr) (bk : Bk) (st : Str) : Prop := ∃ b, Rd H W (.lst [.ref b, .str st]) ∧ BookR H b bk
theorem WorldR.same {H H' : Hp} {W : Addr} {bk : Bk} {st : Str} (h : WorldR H W bk st) (s : Same H H') : WorldR H' W bk st := let ⟨b, e, r⟩ := h; ⟨b, rd_same e s, r.same s⟩
theorem WorldAt.r {H : Hp} {W : Addr} {bk : Bk} {st : Str} (h : WorldAt H W bk st) : WorldR H W bk st := let ⟨b, e, r⟩ := h; ⟨b, .inl e, r.r⟩
end D1
end L2
namespace L2
namespace D1
open PySem PySem.Spec PyProof.Rows D2 X5 X6
end D1
end L2
namespace L2
namespace D1
open PySem PySem.Spec PyProof.Rows D2 X5 X6
def pairsT (ss gs : List Str) : List Pr := ss.flatMap fun s => gs.map fun t => (s, t)
theorem pairsT_snoc (ss gs : List Str) (s : Str) : pairsT (ss ++ [s]) gs = pairsT ss gs ++ gs.map fun t => (s, t) := by
  rw [pairsT, List.flatMap_append, List.flatMap_cons, List.flatMap_nil, List.append_nil]; rfl
theorem mem_pairsT {ss gs : List Str} {p : Pr} : p ∈ pairsT ss gs ↔ p.1 ∈ ss ∧ p.2 ∈ gs := by
  unfold pairsT
  rw [List.mem_flatMap]
  constructor
  · rintro ⟨s, hs, h⟩
    obtain ⟨t, ht, rfl⟩ := List.mem_map.mp h
    exact ⟨hs, ht⟩
  · rintro ⟨a, b⟩
    exact ⟨p.1, a, List.mem_map.mpr ⟨p.2, b, rfl⟩⟩
theorem pairsT_len (ss gs : List Str) : (pairsT ss gs).length = ss.length * gs.length := by
  unfold pairsT
  exact len_flat _ gs.length _ fun x _ => by rw [List.length_map]
theorem allP_eq (bk cl : Bk) : allP bk cl = pairsT (bk.map (·.1)) (cl.map (·.1)) := rfl
theorem cut_comm {S : List Addr} {H : Hp} {d : Addr} {o : HO} (n : d ∉ S) : cut S (L2.upd H d o) = L2.upd (cut S H) d o := by
  funext c
  by_cases h : c ∈ S
  · have q : c ≠ d := fun e => n (e ▸ h)
    rw [cut_in h, upd_ne q, cut_in h]
  · rw [cut_out h]
    by_cases e : c = d
    · rw [e, upd_same, upd_same]
    · rw [upd_ne e, upd_ne e, cut_out h]
theorem kn_same {A B : Hp} {c : Addr} (s : Same A B) (h : A c ≠ none) : B c ≠ none := fun e => by
  cases hA : A c with
  | none => exact h hA
  | some o => rw [s _ _ hA] at e; cases e
theorem kn_upd {H : Hp} {c d : Addr} {o : HO} (h : H c ≠ none) : L2.upd H d o c ≠ none := fun e => by
  by_cases z : c = d
  · rw [z, upd_same] at e; cases e
  · rw [upd_ne z] at e; exact h e
theorem rows_lock {H : Hp} {d : Addr} {u : HO} {od : Obj} (hd : H d = some u) (n : (∃ kvs bk', u = .dK kvs ∧ Rows H kvs bk' ∧ bk' ≠ []) ∨ ∃ ys, u = .lst ys) {kv2 : List (Key × V)} {bk2 : Bk} (h : Rows H kv2 bk2) : Rows (L2.upd H d (.frz od u)) kv2 bk2 := by
  refine paired_imp (fun kv r ⟨e, t, a, ev, ht, ha⟩ => ⟨e, t, a, ev, ?_, ?_⟩) h
  · rw [upd_ne fun z => ?_]; exact ht
    rw [z, hd] at ht
    rcases n with ⟨_, _, rfl, _⟩ | ⟨_, rfl⟩ <;> cases ht
  · have na : a ≠ d := by
      rcases n with ⟨kvs, bk', rfl, hr, ne⟩ | ⟨ys, rfl⟩
      · exact book_ne hd hr ne ha
      · exact fun z => by rw [TurnsAt, z, hd] at ha; cases ha
    rw [TurnsAt, upd_ne na]; exact ha
/-- two worlds whose books may stand locked -/
structure TwoW (H : Hp) (W1 W2 b1 b2 : Addr) (kvs1 kvs2 : List (Key × V)) (bk cl : Bk) (st st' : Str) : Prop where
  w1 : Rd H W1 (.lst [.ref b1, .str st])
  d1 : Rd H b1 (.dK kvs1)
  r1 : Rows H kvs1 bk
  w2 : Rd H W2 (.lst [.ref b2, .str st'])
  d2 : Rd H b2 (.dK kvs2)
  r2 : Rows H kvs2 cl
section
variable {W1 W2 b1 b2 : Addr} {kvs1 kvs2 : List (Key × V)} {bk cl : Bk} {st st' : Str}
theorem TwoW.same {H H' : Hp} (h : TwoW H W1 W2 b1 b2 kvs1 kvs2 bk cl st st') (s : Same H H') : TwoW H' W1 W2 b1 b2 kvs1 kvs2 bk cl st st' := ⟨rd_same h.w1 s, rd_same h.d1 s, h.r1.same s, rd_same h.w2 s, rd_same h.d2 s, h.r2.same s⟩
theorem TwoW.lock {H : Hp} (h : TwoW H W1 W2 b1 b2 kvs1 kvs2 bk cl st st') {d : Addr} {u : HO} {od : Obj} (hd : H d = some u) (n : (∃ kvs bk', u = .dK kvs ∧ Rows H kvs bk' ∧ bk' ≠ []) ∨ ∃ ys, u = .lst ys) : TwoW (L2.upd H d (.frz od u)) W1 W2 b1 b2 kvs1 kvs2 bk cl st st' := by
  have hm : ∀ x y, u ≠ .frz x y := fun x y e => by
    rcases n with ⟨_, _, rfl, _⟩ | ⟨_, rfl⟩ <;> cases e
  exact ⟨rd_lock h.w1 hd hm, rd_lock h.d1 hd hm, rows_lock hd n h.r1, rd_lock h.w2 hd hm, rd_lock h.d2 hd hm, rows_lock hd n h.r2⟩
end
/-- a lock for a dict that may stand locked -/
theorem pick_lock {H : Hp} {b W : Addr} {kvs : List (Key × V)} {xs : List V} (hb : Rd H b (.dK kvs)) (hW : H W = some (.lst xs)) : ∃ d u, (d = b ∨ d = W) ∧ H d = some u ∧ Mut (some u) ∧ (u = .dK kvs ∨ ∃ ys, u = .lst ys) ∧ ∀ od, ∃ o2, (L2.upd H d (.frz od u)) b = some (.frz o2 (.dK kvs)) := by
  rcases hb with hb | ⟨o1, hb⟩
  · exact ⟨b, _, .inl rfl, hb, trivial, .inl rfl, fun od => ⟨od, upd_same⟩⟩
  · refine ⟨W, _, .inr rfl, hW, trivial, .inr ⟨_, rfl⟩, fun od => ⟨o1, ?_⟩⟩
    rw [upd_ne (fun e => by rw [e, hW] at hb; cases hb)]; exact hb
/-- rows whose dicts are unknown to H0 -/
def QN (H0 H : Hp) (nx : Pr → List (Str × Pr)) : List (List Key × V) → List Pr → Prop := Paired fun kv n => kv.1 = kP n ∧ ∃ a, kv.2 = .ref a ∧ H0 a = none ∧ PTAt H a (nx n)
theorem QN.q {H0 H : Hp} {nx : Pr → List (Str × Pr)} {kvs : List (List Key × V)} {ns : List Pr} (h : QN H0 H nx kvs ns) : QRows H nx kvs ns := paired_imp (fun _ _ ⟨e, a, ea, _, q⟩ => ⟨e, a, ea, q⟩) h
theorem QN.same {H0 H H' : Hp} {nx : Pr → List (Str × Pr)} {kvs : List (List Key × V)} {ns : List Pr} (h : QN H0 H nx kvs ns) (s : Same H H') : QN H0 H' nx kvs ns := paired_imp (fun _ _ ⟨e, a, ea, na, q⟩ => ⟨e, a, ea, na, q.same s⟩) h
theorem QN.upd {S : List Addr} {H0 H : Hp} {nx : Pr → List (Str × Pr)} {kvs : List (List Key × V)} {ns : List Pr} {d : Addr} {o : HO} (h : QN H0 (cut S H) nx kvs ns) (h0 : H0 d ≠ none) (hd : ∀ xs, H d ≠ some (.tup xs)) : QN H0 (cut S (L2.upd H d o)) nx kvs ns := by
  refine paired_imp (fun _ _ ⟨e, a, ea, na, kr, hk, pr⟩ => ⟨e, a, ea, na, kr, ?_, paired_imp (fun _ _ ⟨e1, z, e2, e3⟩ => ⟨e1, z, e2, ?_⟩) pr⟩) h
  · obtain ⟨n1, e1⟩ := cut_some hk
    have q : a ≠ d := fun z => h0 (z ▸ na)
    rw [cut_out n1, upd_ne q]; exact e1
  · have e3 : cut S H z = _ := e3
    obtain ⟨n1, e4⟩ := cut_some e3
    show cut S _ z = _
    have q : z ≠ d := fun q => hd _ (q ▸ e4)
    rw [cut_out n1, upd_ne q]; exact e4
end D1
end L2
namespace L2
namespace D1
open PySem PySem.Spec PyProof.Rows D2 X5 X6
abbrev sSafer : Stmt := top 55
def spSafer : Sp := fun vs H Q _ => ∃ (p W L : Addr) (bk : Bk) (st : Str) (ws : List Str) (t : Int), vs = [.ref p, .ref W, .ref L] ∧ Purse H p t ∧ WorldAt (cut [p] H) W bk st ∧ SL H L ws ∧ L ≠ p ∧ WF bk st ws ∧ WsOk ws ∧ t < 2 ^ 24 ∧
  ∀ (H' : Hp) (R : Addr) (bk' : Bk) (t' : Int), But p H H' → Purse H' p t' → t' ≤ t + 300 → H R = none → WorldAt (cut [p] H') R bk' st → WF bk' st ws → Q (.ref R) H'
theorem TOk.more {ts : List (Str × Str)} {ss ws : List Str} {k v : Str} (h : TOk ts ss ws) (n : k ∉ ts.map (·.1)) (hk : k ∈ ws) (hv : v ∈ ss) : TOk (ts ++ [(k, v)]) ss ws := by
  refine ⟨by rw [List.map_append]; exact nodup_app h.nd n, fun t ht => ?_, fun t ht => ?_⟩ <;> rcases List.mem_append.mp ht with z | z
  · exact h.ks t z
  · rw [List.mem_singleton.mp z]; exact hk
  · exact h.gs t z
  · rw [List.mem_singleton.mp z]; exact hv
theorem paired_with {α β : Type} {R : α → β → Prop} {p : α → Prop} : ∀ {xs : List α} {ys : List β}, Paired R xs ys → (∀ x ∈ xs, p x) → Paired (fun x y => p x ∧ R x y) xs ys
  | _, _, .nil, _ => .nil
  | _, _, .cons h r, g => .cons ⟨g _ (by simp), h⟩ (paired_with r fun x hx => g x (List.mem_cons_of_mem _ hx))
section
variable {P : Program} {w : World} {K : PySem.W.Frag} {mg : Str → Option Value} {base : Heap}
abbrev CSaid (P : Program) (w : World) (K : PySem.W.Frag) (mg : Str → Option Value) (base : Heap) := Cal P w K mg base "_law_said_fewer" 4 ["_law_purse_here", "_law_world_here"] spSaid
abbrev saN : List Str := ["_law_purse_here", "_law_world_here", "_law_words_here", "_law_book", "_law_state", "_law_kind", "_law_turns_here", "_law_free", "_law_word_here"]
theorem scSaf : FnScope saN ["_law_purse_here", "_law_world_here", "_law_words_here"] (defScope sSafer) := ⟨rfl, rfl, rfl, by decide +kernel, rfl, by decide +kernel, by decide +kernel⟩
theorem ok_safer {f : Addr} {fd : FuncData} (F : Fun K "_law_safer" "_law_safer" sSafer f fd) (T : Free3 mg) (CD : CDraw P w K mg base) (CO : COne P w K mg base) (CS : CSaid P w K mg base) : FnOk P w K mg base CX0 5 f fd ["_law_purse_here", "_law_world_here", "_law_words_here"] spSafer := by
  refine F.ok scSaf (fun vs H Q E h => ?_) (fun cdv A outer s H vs Q E hr h => ?_)
  · obtain ⟨p, W, L, bk, st, ws, t, rfl, _⟩ := h; rfl
  · obtain ⟨p, W, L, bk, st, ws, t, rfl, hp, hWW, hL, nL, wf, wok, t1, k⟩ := h
    have hu := hu_of hr
    refine ⟨_, pss_cons (ps_set (i := 3) scSaf.nd rfl (Or.inl rfl) (pe_callTy call_dictD (by rfl) T.dict (by decide +kernel) (pa_cons (pe_ix ix_list (pe_cal CS (hr.mono (by decide)) rfl (pa_cons (pv 0) (pa_cons (pv 1) pa_nil))) pe_int (fun _ _ => rfl)) pa_nil)))
      (pss_cons (ps_lock (ps_for PassesOwn.never rfl (pi_keys (pe_ix ix_list (pv 1) pe_int (fun _ _ => rfl))) (pg_name (i := 4) scSaf.nd rfl (Or.inl rfl))
        (pss_cons (ps_asg (pe_dget hu (pv 3) (pv 4) (fun _ _ => rfl)) (pg_tup rfl (pgs_cons (pg_name (i := 5) scSaf.nd rfl (Or.inl rfl)) (pgs_cons (pg_name (i := 6) scSaf.nd rfl (Or.inr rfl)) pgs_nil))))
        (pss_cons (ps_setLc (i := 7) (own := [("_law_word_here", 8)]) (g := gName 8) (tt := tTest (tDNotIn (tVar 8) (tVar 6))) (te := tVar 8) rfl scSaf.nd rfl rfl (sw_true rfl rfl rfl rfl) (pi_list (pv 2))
            (blkOk_by (N := saN) (sc := defScope sSafer) (by decide +kernel)) (fun _ _ _ _ _ => pg_name (i := 8) scSaf.nd rfl (Or.inl rfl)) (fun _ _ _ _ _ => pts_one (pt_cmp (pc_dnotin hu (pv 8) (pv 6)) rfl)) (fun _ _ _ _ _ => pv 8))
        (pss_one (ps_if (PW.pt (pw_and (pt_cmpR op_eq (pv 5) pe_str (nomark _)) (pw_and (pt_cmpR (op_neD hr.units) (pv 7) (pe_lst pa_nil) (by rfl)) (pw_and1 (pt_cmpR op_eq (pe_cal CD (hr.mono (by decide)) rfl (pa_cons (pv 0) (pa_cons pe_int pa_nil))) pe_int (nomark _))))))
          (pss_one (ps_dput hu (pv 3) (pv 4) (pe_tup (pa_cons (pv 5) (pa_cons (pe_callTy (call_dictP rfl) (by rfl) T.dict (by decide +kernel) (pa_cons (pe_op op_cat (LiI.pe_listItems rfl (pv 6) (by rfl) T.list (by decide +kernel)) (pe_lst (pa_cons (pe_tup (pa_cons (pe_cal CO (hr.mono (by decide)) rfl (pa_cons (pv 0) (pa_cons (pv 7) pa_nil)))
              (pa_cons (pe_cal CO (hr.mono (by decide)) rfl (pa_cons (pv 0) (pa_cons (pe_callTy (call_listD rfl) (by rfl) T.list (by decide +kernel) (pa_cons (pe_ix ix_list (pv 1) pe_int (fun _ _ => rfl)) pa_nil)) pa_nil))) pa_nil))) pa_nil))) pa_nil)) pa_nil))) rfl))
          pss_nil))))))
      (pss_one (ps_ret (pe_lst (pa_cons (pv 3) (pa_cons (pe_ix ix_list (pv 1) pe_int (fun _ _ => rfl)) pa_nil)))))), ?_⟩
    obtain ⟨b, hWc, kvs, hbc, hRc⟩ := id hWW
    have hW := cut_le _ _ hWc
    have hb := cut_le _ _ hbc
    have nWp : W ≠ p := (fun e => by rw [e, cut_in (by simp)] at hWc; cases hWc)
    have nbp : b ≠ p := (fun e => by rw [e, cut_in (by simp)] at hbc; cases hbc)
    have nWb : W ≠ b := fun e => by rw [e, hb] at hW; cases hW
    have nLb : L ≠ b := fun e => by rw [SL, e, hb] at hL; cases hL
    have bne : bk ≠ [] := fun e => by have := wf.st; rw [e] at this; cases this
    have lk0 : kvs.length = bk.length := hRc.len
    have lb := wf.len
    have ekn : kvs.map (fun kv => kV kv.1) = (bk.map (·.1)).map V.str := by
      have := congrArg (List.map kV) hRc.keys
      rw [List.map_map, List.map_map] at this
      rw [List.map_map]; exact this
    refine ⟨_, rfl, _, rfl, p, W, bk, st, ws, t, rfl, hp, hWW, wf, wok, by omega, fun H1 R0 bk1 t1' b1 hp1 tt1 nR0 hR0 wf1 enm1 => ?_⟩
    obtain ⟨b0, hRc0, kvs0, hb0c, hS0⟩ := id hR0
    refine ⟨R0, _, _, _, rfl, rfl, SqL.of (cut_le _ _ hRc0), atI_nat (j := 0) rfl, b0, kvs0, rfl, .inl (cut_le _ _ hb0c), fun B hB => ?_⟩
    have g1 := Same.new (o := .dK kvs0) hB
    have eB1 : (L2.upd H1 B (.dK kvs0)) B = some (.dK kvs0) := upd_same
    have hp2 := hp1.new (o := .dK kvs0) hB
    have nBp := hp1.ne hB
    have b02 := b1.trans (But.of g1)
    have hb1 := b1 _ _ nbp hb
    have nBb : B ≠ b := (ne_of_none hb1 hB).symm
    have hB0 : H B = none := b1.fr hB nBp
    generalize L2.upd H1 B (.dK kvs0) = H2 at g1 eB1 hp2 b02
    refine ⟨b, _, b02 _ _ nbp hb, trivial, fun od => ?_⟩
    have hb2 := b02 _ _ nbp hb
    have hWL : (L2.upd H2 b (.frz od (.dK kvs))) W = some (.lst [.ref b, .str st]) := by rw [upd_ne nWb]; exact b02 _ _ nWp hW
    refine ⟨_, rfl, W, _, _, _, rfl, rfl, SqL.of hWL, atI_nat (j := 0) rfl, b, od, rfl, .inl ⟨kvs, upd_same, ?_⟩⟩
    have bHL : But p (L2.upd H b (.frz od (.dK kvs))) (L2.upd H2 b (.frz od (.dK kvs))) := fun c u n e => by
      by_cases h : c = b
      · rw [h] at e ⊢; rw [upd_same] at e ⊢; exact e
      · rw [upd_ne h] at e ⊢; exact b02 _ _ n e
    have hBL : (L2.upd H b (.frz od (.dK kvs))) B = none := by rw [upd_ne nBb]; exact hB0
    have hbL : (L2.upd H b (.frz od (.dK kvs))) b = some (.frz od (.dK kvs)) := upd_same
    have hWL0 : (L2.upd H b (.frz od (.dK kvs))) W = some (.lst [.ref b, .str st]) := by rw [upd_ne nWb]; exact hW
    have hLL0 : SL (L2.upd H b (.frz od (.dK kvs))) L ws := by rw [SL, upd_ne nLb]; exact hL
    have eB1L : (L2.upd H2 b (.frz od (.dK kvs))) B = some (.dK kvs0) := by rw [upd_ne nBb]; exact eB1
    have hp2L := hp2.upd (o := .frz od (.dK kvs)) nbp.symm
    have hS2 : Rows (cut [p, B] (L2.upd H2 b (.frz od (.dK kvs)))) kvs0 bk1 := by
      have hb1c : (cut [p] H1) b = some (.dK kvs) := by rw [cut_out (by simpa using nbp)]; exact hb1
      refine (rows_lock (od := od) hb1c (.inl ⟨kvs, bk, rfl, hRc.same (cut_but b1 (by simp)), bne⟩) hS0).same fun c u e => ?_
      by_cases h : c = b
      · rw [h, upd_same] at e
        rw [h, cut_out (by simp [nbp, nBb.symm]), upd_same]; exact e
      · rw [upd_ne h] at e
        obtain ⟨n1, e⟩ := cut_some e
        have n1 : c ≠ p := fun z => n1 (by rw [z]; simp)
        have n2 : c ≠ B := ne_of_none e hB
        rw [cut_out (by simp [n1, n2]), upd_ne h]
        exact g1 _ _ e
    refine for_it (walk_keys (d := b) (o := od) (kvs := kvs)) (fun i σ H' => ∃ (v4 v5 v6 v7 : Option V) (cl : Bk) (kv' : List (Key × V)) (t' : Int), σ = [some (.ref p), some (.ref W), some (.ref L), some (.ref B), v4, v5, v6, v7, none] ∧ But p (L2.upd H b (.frz od (.dK kvs))) H' ∧ Purse H' p t' ∧ t' ≤ t1' + 10 * i ∧ H' B = some (.dK kv') ∧ Rows (cut [p, B] H') kv' cl ∧ WF cl st ws ∧ cl.map (·.1) = bk.map (·.1))
      ⟨none, none, none, none, bk1, kvs0, t1', rfl, bHL, hp2L, by omega, eB1L, hS2, wf1, enm1⟩ (fun i σ H' _ ⟨_, _, _, _, _, _, _, _, z, _⟩ => z _ _ nbp hbL) ?_ ?_
    · rintro i x σ H3 H4 hi ⟨v4, v5, v6, v7, cl, kv', t4, rfl, b04, hp4, tt4, hB4, hS4, wfc, enm⟩ ⟨rfl, kk, v0, hkv, rfl⟩
      obtain ⟨r, hr', rfl, _⟩ := hRc.at hkv
      have hrm : r ∈ bk := List.mem_of_getElem? hr'
      have hs : r.1 ∈ bk.map (·.1) := List.mem_map_of_mem hrm
      have hcs : r.1 ∈ cl.map (·.1) := by rw [enm]; exact hs
      obtain ⟨v, ev, ⟨tu, a, rfl, htu, ha⟩, hmem⟩ := hS4.look hcs
      have hb4 := b04 _ _ nbp hbL
      have hW4 := b04 _ _ nWp hWL0
      have hL4 : SL H4 L ws := b04 _ _ nL hLL0
      have il : i < bk.length := (List.getElem?_eq_some_iff.mp hr').1
      have lkv : kv'.length ≤ 6 := by rw [hS4.len, ← List.length_map (·.1), enm, List.length_map]; exact lb
      have htu0 := cut_le _ _ htu
      have ha0 : TurnsAt H4 a (rowOf cl r.1).2 := cut_le _ _ ha
      have nap : a ≠ p := fun e => by rw [TurnsAt, e, cut_in (by simp)] at ha; cases ha
      have naB : a ≠ B := fun e => by rw [TurnsAt, e, cut_in (by simp)] at ha; cases ha
      have lws := wok.hi
      refine ⟨_, rfl, _, rfl, B, _, rfl, .inl ⟨kv', .inr r.1, .inl hB4, rfl, ev.symm⟩, tu, _, rfl, SqT.of htu0, rfl, _, _, rfl, _, _, rfl, rfl, ?_⟩
      refine ⟨_, rfl, L, rfl, ⟨_, hL4.sq⟩, fun M hM => ?_⟩
      refine lc_list (K := K) (a := L) (xs := ws.map V.str) (fun j H' => Same H4 H' ∧ SL H' M ((ws.take j).filter fun s => decide (s ∉ (rowOf cl r.1).2.map (·.1)))) ⟨Same.new hM, upd_same⟩ (fun j H' _ z => (hL4.same z.1).sq) ?_ ?_
      · rintro j x H5 hx0 ⟨sm, hM5⟩
        obtain ⟨y, hyj, rfl⟩ := get_map hx0
        have ll : ((ws.take j).filter fun s => decide (s ∉ (rowOf cl r.1).2.map (·.1))).length ≤ 6 := by
          have := List.length_filter_le (fun s => decide (s ∉ (rowOf cl r.1).2.map (·.1))) (ws.take j)
          rw [List.length_take] at this
          omega
        refine ⟨rfl, _, rfl, _, rfl, a, _, rfl, DGet.k (k := .inr y) (ha0.same sm), _, rfl, ?_⟩
        rw [kT_isSome]
        by_cases c : y ∈ (rowOf cl r.1).2.map (·.1)
        · rw [decide_eq_true c, filt_no hyj (by simpa using c)]
          exact iteF ⟨sm, hM5⟩
        · rw [decide_eq_false c, filt_yes hyj (decide_eq_true c)]
          refine iteT ⟨_, rfl, _, hM5, by rw [List.length_map, sizeLine_eq]; omega, fun c0 u e => ?_, by rw [SL, upd_same, List.map_append]; rfl⟩
          rw [upd_ne (ne_of_none e hM)]; exact sm _ _ e
      rintro H5 ⟨s45, hM5⟩
      rw [List.length_map, List.take_length] at hM5
      generalize hz : (ws.filter fun s => decide (s ∉ (rowOf cl r.1).2.map (·.1))) = zs at hM5
      have lz : zs.length ≤ 6 := by rw [← hz]; exact Nat.le_trans (List.length_filter_le _ _) lws
      have zm : ∀ s ∈ zs, s ∈ ws ∧ s ∉ (rowOf cl r.1).2.map (·.1) := fun s hs => by
        rw [← hz] at hs
        obtain ⟨a1, a2⟩ := List.mem_filter.mp hs
        exact ⟨a1, of_decide_eq_true a2⟩
      have zw : ∀ s ∈ zs, Wd s := fun s hs => wok.wd s (zm s hs).1
      have nMp := hp4.ne hM
      have b05 := b04.trans (But.of s45)
      have hp5 := hp4.same s45
      have hB5 := s45 _ _ hB4
      have hS5 := hS4.same (cut_same (S := [p, B]) s45)
      refine ⟨_, rfl, rfl, _, rfl, ite2 (fun c1 => ?_) (fun c1 => iteF ⟨_, _, _, _, cl, kv', t4, rfl, b05, hp5, by omega, hB5, hS5, wfc, enm⟩)⟩
      have e1 : (rowOf cl r.1).1 = "hears" := V.str.inj (of_decide_eq_true c1)
      have tok : TOk (rowOf cl r.1).2 (bk.map (·.1)) ws := by
        have := (wfc.row hcs (by rw [e1]; decide +kernel)).2.2
        rw [enm] at this; exact this
      have lts := tok.len
      refine ⟨_, rfl, by show 0 ≤ sizeLine; decide, fun N hN => ?_⟩
      have g6 := Same.new (o := .lst []) hN
      have hN6 : SL (L2.upd H5 N (.lst [])) N [] := upd_same
      generalize L2.upd H5 N (.lst []) = H6 at g6 hN6
      have s46 := Same.trans s45 g6
      have b06 := b04.trans (But.of s46)
      have hp6 := hp4.same s46
      have hB6 := s46 _ _ hB4
      have hS6 := hS4.same (cut_same (S := [p, B]) s46)
      refine ⟨dW zs, dW [], dp_words (hM5.same g6), dp_words hN6, sh_words zw, sh_words (fun _ h => by cases h), _, rfl, ?_⟩
      rw [eqv_nil]
      refine ite2 (fun c2 => ?_) (fun c2 => iteF ⟨_, _, _, _, cl, kv', t4, rfl, b06, hp6, by omega, hB6, hS6, wfc, enm⟩)
      have zne : zs ≠ [] := fun e => by rw [e] at c2; exact absurd c2 (by decide)
      have zpos := List.length_pos_iff.mpr zne
      refine ⟨_, rfl, p, 2, t4, rfl, hp6, by decide, by decide, by omega, fun rr t7 o7 r0 r1 tt7 hp7 => ?_⟩
      have b67 := But.upd p H6 o7
      generalize L2.upd H6 p o7 = H7 at b67 hp7
      have b07 := b06.trans b67
      have b47 := (But.of s46).trans b67
      have hB7 := b47 _ _ nBp hB4
      have hS7 := hS4.same (cut_but (S := [p, B]) b47 (by simp))
      refine ⟨rfl, _, rfl, ite2 (fun c3 => ?_) (fun c3 => ⟨_, _, _, _, cl, kv', t7, rfl, b07, hp7, by omega, hB7, hS7, wfc, enm⟩)⟩
      have ha7 : TurnsAt H7 a (rowOf cl r.1).2 := b47 _ _ nap ha0
      have hM7 : SL H7 M zs := b67 _ _ nMp (hM5.same g6)
      generalize hk1 : (rowOf cl r.1).1 = kd at e1
      generalize hk2 : (rowOf cl r.1).2 = ts at tok lts ha7 zm
      refine ⟨_, rfl, _, rfl, a, _, rfl, ha7, fun H8 pL tsL s8 npL ntL nmem hpL hprL => ?_⟩
      have hp8 := hp7.same s8
      have npLp := hp7.ne npL
      refine ⟨_, rfl, _, rfl, p, M, _, t7, rfl, hp8, (hM7.same s8), nMp, by rw [List.length_map]; omega, by rw [List.length_map]; omega, by omega, fun j v9 t9 o9 hj tt9 hp9 => ?_⟩
      obtain ⟨y, hyj, rfl⟩ := get_map hj
      obtain ⟨yw, yn⟩ := zm y (List.mem_of_getElem? hyj)
      have b89 := But.upd p H8 o9
      generalize L2.upd H8 p o9 = H9 at b89 hp9
      have b79 : But p H7 H9 := (But.of s8).trans b89
      have b09 := b07.trans b79
      refine ⟨_, rfl, _, rfl, W, _, _, _, rfl, rfl, SqL.of (b09 _ _ nWp hWL0), atI_nat (j := 0) rfl, b, kvs, rfl, .inr ⟨od, b09 _ _ nbp hbL⟩, fun q hq => ?_⟩
      rw [ekn]
      have nqp := hp9.ne hq
      have gq := Same.new (o := .lst ((bk.map (·.1)).map V.str)) hq
      have eq10 : SL (L2.upd H9 q (.lst ((bk.map (·.1)).map V.str))) q (bk.map (·.1)) := upd_same
      have hp10 := hp9.new (o := .lst ((bk.map (·.1)).map V.str)) hq
      generalize L2.upd H9 q (.lst ((bk.map (·.1)).map V.str)) = H10 at gq eq10 hp10
      have lpos : 1 ≤ (bk.map (·.1)).length := List.length_pos_iff.mpr fun e => bne (List.map_eq_nil_iff.mp e)
      have lss : (bk.map (·.1)).length ≤ 6 := by rw [List.length_map]; exact lb
      refine ⟨p, q, _, t9, rfl, hp10, eq10, nqp, by rw [List.length_map]; omega, by rw [List.length_map]; omega, by omega, fun j2 v11 t11 o11 hj2 tt11 hp11 => ?_⟩
      obtain ⟨gs, hgj, rfl⟩ := get_map hj2
      have gm : gs ∈ bk.map (·.1) := List.mem_of_getElem? hgj
      have b1011 := But.upd p H10 o11
      generalize L2.upd H10 p o11 = H11 at b1011 hp11
      have b911 : But p H9 H11 := (But.of gq).trans b1011
      have b811 := b89.trans b911
      have b711 := (But.of s8).trans b811
      refine ⟨by show 2 ≤ sizeLine; decide, fun T1 hT1 => ⟨by show 1 ≤ sizeLine; decide, fun L3 hL3 => ?_⟩⟩
      have g17 := Same.new (o := .tup [.str y, .str gs]) hT1
      have e17 : (L2.upd H11 T1 (.tup [.str y, .str gs])) T1 = some (.tup [.str y, .str gs]) := upd_same
      have hp12 := hp11.new (o := .tup [.str y, .str gs]) hT1
      generalize L2.upd H11 T1 (.tup [.str y, .str gs]) = H12 at g17 e17 hL3 hp12
      have g18 := Same.new (o := .lst [.ref T1]) hL3
      have e18 : (L2.upd H12 L3 (.lst [.ref T1])) L3 = some (.lst [.ref T1]) := upd_same
      have hp13 := hp12.new (o := .lst [.ref T1]) hL3
      generalize L2.upd H12 L3 (.lst [.ref T1]) = H13 at g18 e18 hp13
      have b813 : But p H8 H13 := b811.trans (But.of (Same.trans g17 g18))
      have ltsl : tsL.length ≤ 6 := by rw [paired_len hprL, kT, List.length_map]; omega
      refine ⟨pL, L3, _, _, rfl, rfl, b813 _ _ npLp hpL, e18, by rw [List.length_map, sizeLine_eq]; show _ + 1 ≤ _; omega, fun L4 hL4 => ?_⟩
      have g19 := Same.new (o := .lst (tsL.map V.ref ++ [.ref T1])) hL4
      have e19 : (L2.upd H13 L4 (.lst (tsL.map V.ref ++ [.ref T1]))) L4 = some (.lst ((tsL ++ [T1]).map V.ref)) := by rw [upd_same, List.map_append]; rfl
      have hp14 := hp13.new (o := .lst (tsL.map V.ref ++ [.ref T1])) hL4
      generalize L2.upd H13 L4 (.lst (tsL.map V.ref ++ [.ref T1])) = H14 at g19 e19 hp14
      have b814 : But p H8 H14 := b813.trans (But.of g19)
      have e17' : SqT K H14 T1 [kV (Sum.inr y), V.str gs] := SqT.of (g19 _ _ (g18 _ _ e17))
      have hpp : Paired (fun p (kv : Key × V) => SqT K H14 p [kV kv.1, kv.2]) (tsL ++ [T1]) (kT (ts ++ [(y, gs)])) := by
        rw [kT_app]
        refine pair_app ?_ (by exact e17')
        have : Paired (fun (t : Addr) (kv : Key × V) => t ≠ p ∧ H8 t = some (.tup [kV kv.1, kv.2])) tsL (kT ts) :=
          paired_with hprL fun t ht => hp7.ne (ntL t ht)
        exact paired_imp (fun _ _ e => SqT.of (b814 _ _ e.1 e.2)) this
      have tok' : TOk (ts ++ [(y, gs)]) (bk.map (·.1)) ws := tok.more yn yw gm
      refine ⟨L4, tsL ++ [T1], kT (ts ++ [(y, gs)]), rfl, SqL.of e19, hpp, fun T hT => ?_⟩
      rw [merge_id2 (by rw [kT_keys2]; exact inr_nd' tok'.nd)]
      have zne2 : ts ++ [(y, gs)] ≠ [] := by simp
      generalize ts ++ [(y, gs)] = zt at tok' zne2 hT
      have g20 := Same.new (o := .dK (kT zt)) hT
      have hT20 : TurnsAt (L2.upd H14 T (.dK (kT zt))) T zt := upd_same
      have nTp := hp14.ne hT
      have hp20 := hp14.new (o := .dK (kT zt)) hT
      have b714 : But p H7 H14 := (But.of s8).trans b814
      have nTB : T ≠ B := fun e => by rw [e, b714 _ _ nBp hB7] at hT; cases hT
      generalize L2.upd H14 T (.dK (kT zt)) = H20 at g20 hT20 hp20
      refine ⟨by show 2 ≤ sizeLine; decide, fun T2 hT2 => ?_⟩
      have b720 := b714.trans (But.of g20)
      have nT2p := hp20.ne hT2
      have nT2B : T2 ≠ B := fun e => by rw [e, b720 _ _ nBp hB7] at hT2; cases hT2
      have g21 := Same.new (o := .tup [.str kd, .ref T]) hT2
      have e21 : (L2.upd H20 T2 (.tup [.str kd, .ref T])) T2 = some (.tup [.str kd, .ref T]) := upd_same
      have hp21 := hp20.new (o := .tup [.str kd, .ref T]) hT2
      generalize L2.upd H20 T2 (.tup [.str kd, .ref T]) = H21 at g21 e21 hp21
      have b721 := b720.trans (But.of g21)
      refine ⟨_, rfl, _, rfl, B, _, rfl, DPut.k (kvs := kv') (k := Sum.inr r.1) (b721 _ _ nBp hB7) (by rw [sizeLine_eq]; omega), ?_⟩
      refine ⟨_, _, _, _, setR cl r.1 kd zt, _, t11, rfl, But.ofL hBL (b07.trans b721), hp21.upd nBp.symm, by omega, upd_same, ?_, wfc.set hcs (.inr e1) zne2 (by rw [enm]; exact tok'), by rw [setR_names, enm]⟩
      rw [cut_upd (by simp)]
      refine (hS7.same (cut_but b721 (by simp))).set hcs ⟨T2, T, rfl, ?_, ?_⟩
      · rw [cut_out (by simp [nT2p, nT2B])]; exact e21
      · rw [TurnsAt, cut_out (by simp [nTp, nTB])]; exact g21 _ _ hT20
    · rintro σ H4 ⟨v4, v5, v6, v7, cl, kv', t4, rfl, b04, hp4, tt4, hB4, hS4, wfc, enm⟩
      rw [lk0] at tt4
      have hb4 := b04 _ _ nbp hbL
      have bu := But.unlock hb b04
      have hSu : Rows (cut [p, B] (L2.upd H4 b (.dK kvs))) kv' cl := by
        have hbc4 : (cut [p, B] H4) b = some (.frz od (.dK kvs)) := by rw [cut_out (by simp [nbp, nBb.symm])]; exact hb4
        refine (rows_unl (o := .dK kvs) hbc4 hS4).same fun c u e => ?_
        by_cases h : c = b
        · rw [h, cut_out (by simp [nbp, nBb.symm]), upd_same]; rw [h, upd_same] at e; exact e
        · rw [upd_ne h] at e
          obtain ⟨n1, e⟩ := cut_some e
          rw [cut_out n1, upd_ne h]; exact e
      refine ⟨hb4, ?_⟩
      have hBu : (L2.upd H4 b (.dK kvs)) B = some (.dK kv') := by rw [upd_ne nBb]; exact hB4
      have hpu := hp4.upd (o := .dK kvs) nbp.symm
      generalize L2.upd H4 b (.dK kvs) = H5 at bu hSu hBu hpu
      refine ⟨_, rfl, _, rfl, W, _, _, _, rfl, rfl, SqL.of (bu _ _ nWp hW), atI_nat (j := 1) rfl, by show 2 ≤ sizeLine; decide, fun R hR => ?_⟩
      have nRp := hpu.ne hR
      have gR := Same.new (o := .lst [.ref B, .str st]) hR
      refine k _ R cl t4 (bu.newt hR) (hpu.new hR) (by omega) (bu.fr hR nRp) ⟨B, by rw [cut_out (by simpa using nRp)]; exact upd_same, kv', ?_, ?_⟩ wfc
      · rw [cut_out (by simpa using nBp)]; exact gR _ _ hBu
      · exact hSu.same (Same.trans (cut_mono (by simp)) (cut_same gR))
end
end D1
end L2
namespace L2
namespace D1
open PySem PySem.Spec PyProof.Rows D2 X5 X6
abbrev sRound : Stmt := top 54
def TriAt (H : Hp) (R A B L : Addr) (bk cl : Bk) (st st' : Str) (ws : List Str) : Prop := H R = some (.lst [.ref A, .ref B, .ref L]) ∧ WorldAt H A bk st ∧ WorldAt H B cl st' ∧ SL H L ws
theorem TriAt.same {H H' : Hp} {R A B L : Addr} {bk cl : Bk} {st st' : Str} {ws : List Str} (h : TriAt H R A B L bk cl st st' ws) (s : Same H H') : TriAt H' R A B L bk cl st st' ws := ⟨s _ _ h.1, h.2.1.same s, h.2.2.1.same s, h.2.2.2.same s⟩
theorem world_cut {H : Hp} {p R : Addr} {bk : Bk} {st : Str} {t : Int} (h : WorldAt H R bk st) (hp : Purse H p t) : WorldAt (cut [p] H) R bk st := by
  obtain ⟨g, b', z, ep, _⟩ := hp
  have out : ∀ {c : Addr} {u : HO}, H c = some u → (∀ i r, u ≠ .lst (.int i :: r)) → cut [p] H c = some u := fun {c u} e n => by
    rw [cut_out]
    · exact e
    · intro m
      rw [List.mem_singleton.mp m, ep] at e
      exact n _ _ (Option.some.inj e).symm
  obtain ⟨b, e, kvs, eb, r⟩ := h
  exact ⟨b, out e (fun i r q => by cases q), kvs, out eb (fun i r q => by cases q), paired_imp (fun kv x ⟨e1, t, a, ev, ht, ha⟩ => ⟨e1, t, a, ev, out ht (fun i r q => by cases q), out ha (fun i r q => by cases q)⟩) r⟩
theorem WF.turn {bk : Bk} {st : Str} {ws : List Str} (h : WF bk st ws) : WF (turnB bk) st ws := by
  refine ⟨by rw [turnB_names]; exact h.nd, fun r hr => ?_, by rw [turnB_names]; exact h.st, by rw [turnB, List.length_map]; exact h.len⟩
  rw [turnB_names]
  obtain ⟨q, hq, rfl⟩ := List.mem_map.mp hr
  obtain ⟨a, b⟩ := h.rs q hq
  refine ⟨a, ?_⟩
  rcases b with ⟨e1, e2⟩ | ⟨kk, ne, tok⟩
  · exact .inl ⟨by show flipK q.2.1 = _; rw [e1]; decide +kernel, e2⟩
  · refine .inr ⟨?_, ne, tok⟩
    show flipK q.2.1 = _ ∨ flipK q.2.1 = _
    rcases kk with e | e
    · rw [e]; right; decide +kernel
    · rw [e]; left; decide +kernel
def spRound : Sp := fun vs H Q _ => ∃ (p : Addr) (t : Int), vs = [.ref p] ∧ Purse H p t ∧ t < 2 ^ 25 ∧
  ∀ (H' : Hp) (R A B L : Addr) (bk cl : Bk) (st st' : Str) (ws : List Str) (t' : Int), But p H H' → TriAt (cut [p] H') R A B L bk cl st st' ws → WF bk st ws → WF cl st' ws → WsOk ws → Purse H' p t' → t' ≤ t + 1000 → Q (.ref R) H'
/-- a word and the next of some states -/
def tNxt (i n : Nat) : TE := fun σ H Q => ∃ (x : Str) (S : Addr) (m : Nat) (ss : List Str) (g : Str), σ[11]? = some (some (.str x)) ∧ σ[i]? = some (some (.ref S)) ∧ σ[9]? = some (some (.int (0 + (m : Int)))) ∧ SL H S ss ∧ ss[(m + 1) % n]? = some g ∧ ∀ T1, H T1 = none → Q (.ref T1) (L2.upd H T1 (.tup [.str x, .str g]))
/-- one or two -/
def tOT (i : Nat) : TE := fun σ H Q => ∃ (a b : Int) (k : Str), σ[9]? = some (some (.int a)) ∧ σ[i]? = some (some (.int b)) ∧ σ[4]? = some (some (.str k)) ∧ ∀ n : Nat, 1 ≤ n → Q (.int (n : Int)) H
theorem ixt {ss : List Str} {m n : Nat} (h : 0 < n) {g : Str} (e : ss[(m + 1) % n]? = some g) : atI (ss.map V.str) ((0 + (m : Int) + 1) % (n : Int)) = some (.str g) := by
  have : ((0 + (m : Int) + 1) % (n : Int)) = (((m + 1) % n : Nat) : Int) := by
    rw [Int.zero_add]; exact (Int.natCast_emod (m + 1) n).symm
  rw [this]
  exact atI_nat (by rw [List.getElem?_map, e]; rfl)
theorem TOk.all {ws zs ss : List Str} {g : Str} (nd : zs.Nodup) (sub : ∀ x ∈ zs, x ∈ ws) (hg : g ∈ ss) : TOk (zs.map fun x => (x, g)) ss ws := by
  refine ⟨by rw [List.map_map]; exact (by rw [show ((fun x : Str × Str => x.1) ∘ fun x => (x, g)) = id from rfl, List.map_id]; exact nd), fun t ht => ?_, fun t ht => ?_⟩
  · obtain ⟨x, hx, rfl⟩ := List.mem_map.mp ht; exact sub x hx
  · obtain ⟨x, hx, rfl⟩ := List.mem_map.mp ht; exact hg
theorem goal_all {ws : List Str} {g x : Str} (nd : ws.Nodup) (h : x ∈ ws) : goalT (ws.map fun w => (w, g)) x = g :=
  goalT_at (t := (x, g)) (by rw [List.map_map]; exact (by rw [show ((fun x : Str × Str => x.1) ∘ fun x => (x, g)) = id from rfl, List.map_id]; exact nd)) (List.mem_map.mpr ⟨x, h, rfl⟩)
theorem ix0 {ss : List Str} {i : Nat} {x : Str} (h : ss[i]? = some x) : atI (ss.map V.str) (0 + (i : Int)) = some (.str x) := by
  rw [Int.zero_add]; exact atI_nat (by rw [List.getElem?_map, h]; rfl)
section
variable {P : Program} {w : World} {K : PySem.W.Frag} {mg : Str → Option Value} {base : Heap}
abbrev roN : List Str := ["_law_purse_here", "_law_words_here", "_law_states", "_law_late", "_law_kind", "_law_one", "_law_two_here", "_law_first", "_law_second", "_law_at", "_law_turns_here", "_law_word_here"]
theorem scRd : FnScope roN ["_law_purse_here"] (defScope sRound) := ⟨rfl, rfl, rfl, by decide +kernel, rfl, by decide +kernel, by decide +kernel⟩
theorem ok_round {f : Addr} {fd : FuncData} (F : Fun K "_law_round_two" "_law_round_two" sRound f fd) (T : Free3 mg) (CD : CDraw P w K mg base) (CO : COne P w K mg base) (CW : CWords P w K mg base) : FnOk P w K mg base CX0 5 f fd ["_law_purse_here"] spRound := by
  refine F.ok scRd (fun vs H Q E h => ?_) (fun cdv A outer s H vs Q E hr h => ?_)
  · obtain ⟨p, t, rfl, _⟩ := h; rfl
  · obtain ⟨p, t, rfl, hp, t1, k⟩ := h
    have hu := hu_of hr
    refine ⟨_, pss_cons (ps_asg (pe_tup (pa_cons (pe_cal CW (hr.mono (by decide)) rfl (pa_cons (pv 0) (pa_cons pe_int pa_nil))) (pa_cons (pe_cal CW (hr.mono (by decide)) rfl (pa_cons (pv 0) (pa_cons pe_int pa_nil))) (pa_cons (pe_cal CW (hr.mono (by decide)) rfl (pa_cons (pv 0) (pa_cons pe_int pa_nil))) pa_nil)))) (pg_tup rfl (pgs_cons (pg_name (i := 1) scRd.nd rfl (Or.inl rfl)) (pgs_cons (pg_name (i := 2) scRd.nd rfl (Or.inr rfl)) (pgs_cons (pg_name (i := 3) scRd.nd rfl (Or.inr rfl)) pgs_nil)))))
      (pss_cons (ps_par3 (i := 4) (j := 5) (l := 6) rfl scRd.nd rfl rfl rfl (by decide) (by decide) (by decide) rfl rfl rfl (pa_cons (pe_cal CO (hr.mono (by decide)) rfl (pa_cons (pv 0) (pa_cons (pe_lst (pa_cons pe_str (pa_cons pe_str pa_nil))) pa_nil))) (pa_cons (pe_cal CD (hr.mono (by decide)) rfl (pa_cons (pv 0) (pa_cons pe_int pa_nil))) (pa_cons (pe_cal CD (hr.mono (by decide)) rfl (pa_cons (pv 0) (pa_cons pe_int pa_nil))) pa_nil))) (by rfl))
      (pss_cons (ps_par (i := 7) (j := 8) rfl scRd.nd rfl rfl (by decide) rfl rfl (pa_cons pe_dnewK (pa_cons pe_dnewK pa_nil)) (by rfl))
      (pss_cons (ps_for PassesOwn.never rfl (pi_range1 rfl T.range (pa_cons pe_int pa_nil)) (pg_name (i := 9) scRd.nd rfl (Or.inr rfl))
        (pss_cons (ps_set (i := 10) scRd.nd rfl (Or.inr rfl) (pe_callTy (call_dictP rfl) (by rfl) T.dict (by decide +kernel) (pa_cons (pe_lc (own := [("_law_word_here", 11)]) (g := gName 11) (tt := tYes) (te := tNxt 2 5) rfl scRd.nd (pi_list (pv 1))
            (blkOk_by (N := roN) (sc := defScope sRound) (by decide +kernel)) (fun _ _ _ _ _ => pg_name (i := 11) scRd.nd rfl (Or.inl rfl)) (fun _ _ _ _ _ => pts_nil)
            (fun _ _ _ _ _ => pe_imp (t' := tNxt 2 5) (pe_tup (pa_cons (pv 11) (pa_cons (pe_ix ix_list (pv 2) (pe_op op_mod (pe_callTy call_int1 (by rfl) T.int (by decide +kernel) (pa_cons (pe_op op_add (pv 9) pe_int) pa_nil)) pe_int) (fun _ _ => rfl)) pa_nil))) (by
              rintro σ H Q ⟨x, S, m, ss, g, e1, e2, e3, hS, eg, k⟩
              exact ⟨_, e1, _, e2, _, e3, _, _, rfl, rfl, .inl ⟨_, rfl, _, _, rfl, rfl, (by show (0 : Int) < 5; decide), S, _, _, _, rfl, rfl, hS.sq, ixt (n := 5) (by decide) eg, by show 2 ≤ sizeLine; decide, k⟩⟩))) pa_nil)))
        (pss_one (ps_dput hu (pv 7) (pe_ix ix_list (pv 2) (pv 9) (fun _ _ => rfl)) (pe_tup (pa_cons (pv 4) (pa_cons (pe_callTy (call_dictP rfl) (by rfl) T.dict (by decide +kernel) (pa_cons (pe_lc (own := [("_law_word_here", 11)]) (g := gName 11) (tt := tYes) (te := tTup (tCons (tVar 11) (tCons (tDGet (tVar 10) (tVar 11)) tNil))) rfl scRd.nd (pi_list (pe_slice sl_list (pv 1) po_none (po_some (pe_imp (t' := tOT 5) (pe_ifExp (pt_cmpR op_eq (pe_cmpR op_eq (pv 9) (pv 5) (nomark _)) (pe_cmpR op_eq (pv 4) pe_str (nomark _)) (nomark _)) pe_int pe_int) (by
              rintro σ H Q ⟨a, b, kd, e1, e2, e3, k⟩
              exact ⟨_, e1, _, e2, rfl, _, e3, rfl, rfl, _, rfl, ite2 (fun _ => k 1 (by decide)) (fun _ => k 2 (by decide))⟩)))))
              (blkOk_by (N := roN) (sc := defScope sRound) (by decide +kernel)) (fun _ _ _ _ _ => pg_name (i := 11) scRd.nd rfl (Or.inl rfl)) (fun _ _ _ _ _ => pts_nil) (fun _ _ _ _ _ => pe_tup (pa_cons (pv 11) (pa_cons (pe_dget hu (pv 10) (pv 11) (fun _ _ => rfl)) pa_nil)))) pa_nil)) pa_nil))) rfl))))
      (pss_cons (ps_for PassesOwn.never rfl (pi_range1 rfl T.range (pa_cons pe_int pa_nil)) (pg_name (i := 9) scRd.nd rfl (Or.inr rfl))
        (pss_cons (ps_set (i := 10) scRd.nd rfl (Or.inr rfl) (pe_callTy (call_dictP rfl) (by rfl) T.dict (by decide +kernel) (pa_cons (pe_lc (own := [("_law_word_here", 11)]) (g := gName 11) (tt := tYes) (te := tNxt 3 6) rfl scRd.nd (pi_list (pv 1))
            (blkOk_by (N := roN) (sc := defScope sRound) (by decide +kernel)) (fun _ _ _ _ _ => pg_name (i := 11) scRd.nd rfl (Or.inl rfl)) (fun _ _ _ _ _ => pts_nil)
            (fun _ _ _ _ _ => pe_imp (t' := tNxt 3 6) (pe_tup (pa_cons (pv 11) (pa_cons (pe_ix ix_list (pv 3) (pe_op op_mod (pe_callTy call_int1 (by rfl) T.int (by decide +kernel) (pa_cons (pe_op op_add (pv 9) pe_int) pa_nil)) pe_int) (fun _ _ => rfl)) pa_nil))) (by
              rintro σ H Q ⟨x, S, m, ss, g, e1, e2, e3, hS, eg, k⟩
              exact ⟨_, e1, _, e2, _, e3, _, _, rfl, rfl, .inl ⟨_, rfl, _, _, rfl, rfl, (by show (0 : Int) < 6; decide), S, _, _, _, rfl, rfl, hS.sq, ixt (n := 6) (by decide) eg, by show 2 ≤ sizeLine; decide, k⟩⟩))) pa_nil)))
        (pss_one (ps_dput hu (pv 8) (pe_ix ix_list (pv 3) (pv 9) (fun _ _ => rfl)) (pe_tup (pa_cons (pv 4) (pa_cons (pe_callTy (call_dictP rfl) (by rfl) T.dict (by decide +kernel) (pa_cons (pe_lc (own := [("_law_word_here", 11)]) (g := gName 11) (tt := tYes) (te := tTup (tCons (tVar 11) (tCons (tDGet (tVar 10) (tVar 11)) tNil))) rfl scRd.nd (pi_list (pe_slice sl_list (pv 1) po_none (po_some (pe_imp (t' := tOT 6) (pe_ifExp (pt_cmpR op_eq (pe_cmpR op_eq (pv 9) (pv 6) (nomark _)) (pe_cmpR op_eq (pv 4) pe_str (nomark _)) (nomark _)) pe_int pe_int) (by
              rintro σ H Q ⟨a, b, kd, e1, e2, e3, k⟩
              exact ⟨_, e1, _, e2, rfl, _, e3, rfl, rfl, _, rfl, ite2 (fun _ => k 2 (by decide)) (fun _ => k 1 (by decide))⟩)))))
              (blkOk_by (N := roN) (sc := defScope sRound) (by decide +kernel)) (fun _ _ _ _ _ => pg_name (i := 11) scRd.nd rfl (Or.inl rfl)) (fun _ _ _ _ _ => pts_nil) (fun _ _ _ _ _ => pe_tup (pa_cons (pv 11) (pa_cons (pe_dget hu (pv 10) (pv 11) (fun _ _ => rfl)) pa_nil)))) pa_nil)) pa_nil))) rfl))))
      (pss_one (ps_ret (pe_lst (pa_cons (pe_lst (pa_cons (pv 7) (pa_cons (pe_ix ix_list (pv 2) pe_int (fun _ _ => rfl)) pa_nil))) (pa_cons (pe_lst (pa_cons (pv 8) (pa_cons (pe_ix ix_list (pv 3) pe_int (fun _ _ => rfl)) pa_nil))) (pa_cons (pv 1) pa_nil)))))))))), ?_⟩
    refine ⟨_, rfl, p, 2, t, rfl, hp, by decide, by decide, by omega, fun H1 Lw ws t2 b1 nLw hLw lw ndw awd hp1 tt1 => ?_⟩
    have nLwp := hp.ne nLw
    refine ⟨_, rfl, p, 5, t2, rfl, hp1, by decide, by decide, by omega, fun H2 S ss t3 b2 nS hS ls nds aws hp2 tt2 => ?_⟩
    have nSp := hp1.ne nS
    refine ⟨_, rfl, p, 6, t3, rfl, hp2, by decide, by decide, by omega, fun H3 Z zz t4 b3 nZ hZ lz ndz awz hp3 tt3 => ⟨by show 3 ≤ sizeLine; decide, fun T0 hT0 => ?_⟩⟩
    have nZp := hp2.ne nZ
    have b13 : But p H1 H3 := b2.trans b3
    have b03 : But p H H3 := b1.trans b13
    have hLw3 : SL H3 Lw ws := b13 _ _ nLwp hLw
    have hS3 : SL H3 S ss := b3 _ _ nSp hS
    refine ⟨T0, _, rfl, SqT.of upd_same, rfl, _, _, rfl, _, _, rfl, _, _, rfl, rfl, ?_⟩
    have g4 := Same.new (o := .tup [.ref Lw, .ref S, .ref Z]) hT0
    have hp4 := hp3.new (o := .tup [.ref Lw, .ref S, .ref Z]) hT0
    generalize L2.upd H3 T0 (.tup [.ref Lw, .ref S, .ref Z]) = H4 at g4 hp4
    have lw2 : ws.length = 2 := lw
    have ls5 : ss.length = 5 := ls
    have lz6 : zz.length = 6 := lz
    have wok : WsOk ws := ⟨by omega, by omega, ndw, awd⟩
    refine ⟨_, rfl, by show 2 ≤ sizeLine; decide, fun L5 hL5 => ?_⟩
    have g5 := Same.new (o := .lst [.str "says", .str "hears"]) hL5
    have e5 : (L2.upd H4 L5 (.lst [.str "says", .str "hears"])) L5 = some (.lst [.str "says", .str "hears"]) := upd_same
    have hp5 := hp4.new (o := .lst [.str "says", .str "hears"]) hL5
    have nL5 := hp4.ne hL5
    generalize L2.upd H4 L5 (.lst [.str "says", .str "hears"]) = H5 at g5 e5 hp5
    refine ⟨p, L5, _, t4, rfl, hp5, e5, nL5, by decide, by decide, by omega, fun j v6 t6 o6 hj tt6 hp6 => ?_⟩
    obtain ⟨kd, rfl, hkd⟩ : ∃ kd : Str, v6 = .str kd ∧ (kd = "says" ∨ kd = "hears") := by
      match j, hj with
      | 0, h => exact ⟨"says", (Option.some.inj h).symm, .inl rfl⟩
      | 1, h => exact ⟨"hears", (Option.some.inj h).symm, .inr rfl⟩
    have b56 := But.upd p H5 o6
    generalize L2.upd H5 p o6 = H6 at b56 hp6
    refine ⟨_, rfl, p, 5, t6, rfl, hp6, by decide, by decide, by omega, fun one t7 o7 r70 r71 tt7 hp7 => ?_⟩
    have b67 := But.upd p H6 o7
    generalize L2.upd H6 p o7 = H7 at b67 hp7
    refine ⟨_, rfl, p, 6, t7, rfl, hp7, by decide, by decide, by omega, fun two t8 o8 r80 r81 tt8 hp8 => ⟨_, _, _, rfl, ?_⟩⟩
    have b78 := But.upd p H7 o8
    generalize L2.upd H7 p o8 = H9 at b78 hp8
    have hp9 := hp8
    have b39 : But p H3 H9 := (But.of (Same.trans g4 g5)).trans (b56.trans (b67.trans b78))
    have b09 := b03.trans b39
    have hLw9 : SL H9 Lw ws := b39 _ _ nLwp hLw3
    have hS9 : SL H9 S ss := b39 _ _ nSp hS3
    have hZ9 : SL H9 Z zz := b39 _ _ nZp hZ
    have tt9 : t8 ≤ t + 1000 := by omega
    clear hS3 hLw3 hLw hS hZ hp hp1 hp2 hp3 hp4 hp5 hp6 hp7 hp8 b13 b03 b39 b1 b2 b3 e5
    refine fun Fd hF Gd hG => ⟨_, _, rfl, ?_⟩
    have hF0 : H9 Fd = none := hF
    have nGF : Gd ≠ Fd := fun e => by rw [e, upd_same] at hG; cases hG
    have hG0 : H9 Gd = none := upd_none' hG
    have s9 : Same H9 (L2.upd (L2.upd H9 Fd (.dK [])) Gd (.dK [])) := Same.trans (Same.new hF) (Same.new hG)
    have eF9 : (L2.upd (L2.upd H9 Fd (.dK [])) Gd (.dK [])) Fd = some (.dK []) := by rw [upd_ne nGF.symm, upd_same]
    have eG9 : (L2.upd (L2.upd H9 Fd (.dK [])) Gd (.dK [])) Gd = some (.dK []) := upd_same
    generalize L2.upd (L2.upd H9 Fd (.dK [])) Gd (.dK []) = X9 at s9 eF9 eG9
    refine ⟨5, rfl, by decide, by decide, ?_⟩
    refine for_range (n := 5) (fun i σ H' => ∃ (v9 v10 : Option V) (cl : Bk) (kv : List (Key × V)), σ = [some (.ref p), some (.ref Lw), some (.ref S), some (.ref Z), some (.str kd), some (.int one), some (.int two), some (.ref Fd), some (.ref Gd), v9, v10, none] ∧ Same H9 H' ∧ H' Fd = some (.dK kv) ∧ H' Gd = some (.dK []) ∧ Rows (cut [Fd, Gd] H') kv cl ∧ cl.map (·.1) = ss.take i ∧ ∀ r ∈ cl, ROk ss ws r)
      ⟨none, none, [], [], rfl, s9, eF9, eG9, .nil, rfl, fun r hr => by cases hr⟩ ?_ ?_
    · rintro i σ H10 hi ⟨v9, v10, cl, kv, rfl, s10, hD10, hG10, hR10, en, rok⟩
      have il : i < 5 := hi
      have hFx := hD10
      have hGx := hG10
      have hS10 := hS9.same s10
      have hLw10 := hLw9.same s10
      obtain ⟨g, hg⟩ : ∃ g, ss[(i + 1) % 5]? = some g := ⟨_, List.getElem?_eq_getElem (by rw [ls5]; exact Nat.mod_lt _ (by decide))⟩
      have gm : g ∈ ss := List.mem_of_getElem? hg
      obtain ⟨si, hsi⟩ : ∃ x, ss[i]? = some x := ⟨_, List.getElem?_eq_getElem (by rw [ls5]; exact il)⟩
      have tokA : TOk (ws.map fun x => (x, g)) ss ws := TOk.all ndw (fun x h => h) gm
      refine ⟨_, rfl, Lw, rfl, ⟨_, hLw10.sq⟩, fun D0 hD0 => ?_⟩
      refine lc_list (K := K) (a := Lw) (xs := ws.map V.str) (fun j H' => Same H10 H' ∧ ∃ qs : List Addr, H' D0 = some (.lst (qs.map V.ref)) ∧ Paired (fun a (kv : Key × V) => (cut [D0] H') a = some (.tup [kV kv.1, kv.2])) qs (kT ((ws.take j).map fun x => (x, g)))) ⟨Same.new hD0, [], upd_same, .nil⟩ (fun j H' _ z => (hLw10.same z.1).sq) ?_ ?_
      · rintro j v H11 hx0 ⟨sm, qs, hD5, hpr⟩
        obtain ⟨x, hxj, rfl⟩ := get_map hx0
        refine ⟨rfl, ?_⟩
        dsimp only [tYes]
        rw [if_pos rfl]
        refine ⟨x, S, i, ss, g, rfl, rfl, rfl, hS10.same sm, hg, fun T1 hT1 => ?_⟩
        have gg := Same.new (o := .tup [.str x, .str g]) hT1
        have nT : T1 ≠ D0 := fun e => by rw [e, hD5] at hT1; cases hT1
        have lqs : qs.length ≤ 60 := by rw [paired_len hpr, kT, List.length_map, List.length_map, List.length_take]; omega
        refine ⟨_, gg _ _ hD5, by rw [List.length_map, sizeLine_eq]; omega, fun c u e => ?_, qs ++ [T1], by rw [upd_same, List.map_append]; rfl, ?_⟩
        · rw [upd_ne (ne_of_none e hD0)]; exact gg _ _ (sm _ _ e)
        · rw [cut_upd (by simp), take_succ_get hxj, List.map_append, kT_app]
          exact pair_app (paired_imp (fun p kv e => cut_same gg _ _ e) hpr) (by rw [cut_out (by simpa using nT)]; exact upd_same)
      rintro H12 ⟨s12, qs, hD12, hpr⟩
      rw [List.length_map, List.take_length] at hpr
      refine ⟨D0, qs, kT (ws.map fun x => (x, g)), rfl, SqL.of hD12, paired_imp (fun p kv e => SqT.of (cut_le _ _ e)) hpr, fun Tt hTt => ?_⟩
      rw [merge_id2 (by rw [kT_keys2]; exact inr_nd' tokA.nd)]
      have g13 := Same.new (o := .dK (kT (ws.map fun x => (x, g)))) hTt
      have hT13 : TurnsAt (L2.upd H12 Tt (.dK (kT (ws.map fun x => (x, g))))) Tt (ws.map fun x => (x, g)) := upd_same
      generalize L2.upd H12 Tt (.dK (kT (ws.map fun x => (x, g)))) = H13 at g13 hT13
      have s1013 := Same.trans s12 g13
      clear hpr hD12 hD0
      refine ⟨_, rfl, _, rfl, _, _, _, rfl, rfl, rfl, fun m hm => ⟨_, rfl, Lw, _, rfl, (hLw10.same s1013).sq, fun q hq => ⟨q, rfl, ?_⟩⟩⟩
      rw [cutV_map, cutL_to _ (by omega), Int.toNat_natCast]
      have lx : 1 ≤ (ws.take m).length ∧ (ws.take m).length ≤ 6 := by rw [List.length_take]; omega
      have xm : ∀ x ∈ ws.take m, x ∈ ws := fun x hx => List.mem_of_mem_take hx
      have ndx : (ws.take m).Nodup := List.Nodup.sublist (List.take_sublist _ _) ndw
      generalize ws.take m = xs at lx xm ndx hq
      have g14 := Same.new (o := .lst (xs.map V.str)) hq
      have hq14 : SL (L2.upd H13 q (.lst (xs.map V.str))) q xs := upd_same
      generalize L2.upd H13 q (.lst (xs.map V.str)) = H14 at g14 hq14
      have hT14 := hT13.same g14
      refine ⟨⟨_, hq14.sq⟩, fun Dq hD1 => ?_⟩
      refine lc_list (K := K) (a := q) (xs := xs.map V.str) (fun j H' => Same H14 H' ∧ ∃ qs : List Addr, H' Dq = some (.lst (qs.map V.ref)) ∧ Paired (fun a (kv : Key × V) => (cut [Dq] H') a = some (.tup [kV kv.1, kv.2])) qs (kT ((xs.take j).map fun x => (x, g)))) ⟨Same.new hD1, [], upd_same, .nil⟩ (fun j H' _ z => (hq14.same z.1).sq) ?_ ?_
      · rintro j v H15 hx0 ⟨sm, qs, hD5, hpr⟩
        obtain ⟨x, hxj, rfl⟩ := get_map hx0
        have xmm : x ∈ ws := xm x (List.mem_of_getElem? hxj)
        have vg : valV (kT (ws.map fun x => (x, g))) (.inr x) = some (.str g) := by
          rw [valV_goal (by rw [List.map_map]; exact List.mem_map.mpr ⟨x, xmm, rfl⟩), goal_all ndw xmm]
        refine ⟨rfl, ?_⟩
        dsimp only [tYes]
        rw [if_pos rfl]
        refine ⟨_, rfl, _, rfl, _, rfl, Tt, _, rfl, .inl ⟨kT (ws.map fun x => (x, g)), .inr x, .inl (hT14.same sm), rfl, vg.symm⟩, by show 2 ≤ sizeLine; decide, fun T1 hT1 => ?_⟩
        have gg := Same.new (o := .tup [.str x, .str g]) hT1
        have nT : T1 ≠ Dq := fun e => by rw [e, hD5] at hT1; cases hT1
        have lqs : qs.length ≤ 60 := by rw [paired_len hpr, kT, List.length_map, List.length_map, List.length_take]; omega
        refine ⟨_, gg _ _ hD5, by rw [List.length_map, sizeLine_eq]; omega, fun c u e => ?_, qs ++ [T1], by rw [upd_same, List.map_append]; rfl, ?_⟩
        · rw [upd_ne (ne_of_none e hD1)]; exact gg _ _ (sm _ _ e)
        · rw [cut_upd (by simp), take_succ_get hxj, List.map_append, kT_app]
          exact pair_app (paired_imp (fun p kv e => cut_same gg _ _ e) hpr) (by rw [cut_out (by simpa using nT)]; exact upd_same)
      rintro H16 ⟨s16, qs2, hD16, hpr⟩
      rw [List.length_map, List.take_length] at hpr
      have tokB : TOk (xs.map fun x => (x, g)) ss ws := TOk.all ndx xm gm
      have zne : (xs.map fun x => (x, g)) ≠ [] := fun e => by have := congrArg List.length e; rw [List.length_map] at this; rw [this] at lx; exact absurd lx.1 (by decide)
      refine ⟨Dq, qs2, kT (xs.map fun x => (x, g)), rfl, SqL.of hD16, paired_imp (fun p kv e => SqT.of (cut_le _ _ e)) hpr, fun Tb hTb => ?_⟩
      rw [merge_id2 (by rw [kT_keys2]; exact inr_nd' tokB.nd)]
      generalize (xs.map fun x => (x, g)) = zt at tokB zne hTb
      have g17 := Same.new (o := .dK (kT zt)) hTb
      have hT17 : TurnsAt (L2.upd H16 Tb (.dK (kT zt))) Tb zt := upd_same
      have s1016 : Same H10 H16 := Same.trans s1013 (Same.trans g14 s16)
      have nT1 : ∀ {d : Addr} {u : HO}, H10 d = some u → Tb ≠ d := fun h e => by rw [e, s1016 _ _ h] at hTb; cases hTb
      generalize L2.upd H16 Tb (.dK (kT zt)) = H17 at g17 hT17
      have s1017 : Same H10 H17 := Same.trans s1016 g17
      refine ⟨by show 2 ≤ sizeLine; decide, fun T1 hT1 => ?_⟩
      have nT2 : ∀ {d : Addr} {u : HO}, H10 d = some u → T1 ≠ d := fun h e => by rw [e, s1017 _ _ h] at hT1; cases hT1
      have g18 := Same.new (o := .tup [.str kd, .ref Tb]) hT1
      have e18 : (L2.upd H17 T1 (.tup [.str kd, .ref Tb])) T1 = some (.tup [.str kd, .ref Tb]) := upd_same
      generalize L2.upd H17 T1 (.tup [.str kd, .ref Tb]) = H18 at g18 e18
      have s1018 : Same H10 H18 := Same.trans s1017 g18
      have lkv : kv.length ≤ 6 := by rw [hR10.len, ← List.length_map (·.1), en, List.length_take]; omega
      have fresh : (Sum.inr si : Key) ∉ kv.map (·.1) := fun z => by
        rw [hR10.keys] at z
        obtain ⟨r0, hr0, e0⟩ := List.mem_map.mp z
        have e0 : r0.1 = si := Sum.inr.inj e0
        have nn := nd_take (ys := ss) nds (i := i) (z := si) hsi
        exact nn (by rw [← en, ← e0]; exact List.mem_map_of_mem hr0)
      refine ⟨_, rfl, _, rfl, _, rfl, S, _, _, _, rfl, rfl, (hS10.same s1018).sq, ix0 hsi, Fd, _, rfl, DPut.k (kvs := kv) (k := Sum.inr si) (s1018 _ _ hD10) (by rw [sizeLine_eq]; omega), ?_⟩
      rw [D1.putK_new fresh]
      have hRn : Rows (cut [Fd, Gd] (L2.upd H18 Fd (.dK (kv ++ [(Sum.inr si, .ref T1)])))) (kv ++ [(Sum.inr si, .ref T1)]) (cl ++ [((si, kd, zt) : RowD)]) := by
        rw [cut_upd (by simp)]
        refine pair_app (hR10.same (cut_same s1018)) ⟨rfl, T1, Tb, rfl, ?_, ?_⟩
        · rw [cut_out (by simp [nT2 hFx, nT2 hGx])]; exact e18
        · rw [TurnsAt, cut_out (by simp [nT1 hFx, nT1 hGx])]; exact g18 _ _ hT17
      refine ⟨_, _, _, _, rfl, fun c u e => ?_, upd_same, by rw [upd_ne nGF]; exact s1018 _ _ hG10, hRn, by rw [List.map_append, en, take_succ_get hsi]; rfl, fun r hr => ?_⟩
      · rw [upd_ne fun z => by rw [z, hF0] at e; cases e]; exact s1018 _ _ (s10 _ _ e)
      · rcases List.mem_append.mp hr with z | z
        · exact rok r z
        · rw [List.mem_singleton.mp z]
          exact ⟨aws si (List.mem_of_getElem? hsi), .inr ⟨hkd, zne, tokB⟩⟩
    rintro σ X1 ⟨v9, v10, bk, kvF, rfl, s10, hF10, hG10, hRF, enF, rokF⟩
    rw [show ss.take 5 = ss from List.take_of_length_le (by omega)] at enF
    refine ⟨6, rfl, by decide, by decide, ?_⟩
    refine for_range (n := 6) (fun i σ H' => ∃ (v9 v10 : Option V) (cl : Bk) (kv : List (Key × V)), σ = [some (.ref p), some (.ref Lw), some (.ref S), some (.ref Z), some (.str kd), some (.int one), some (.int two), some (.ref Fd), some (.ref Gd), v9, v10, none] ∧ Same H9 H' ∧ H' Gd = some (.dK kv) ∧ H' Fd = some (.dK kvF) ∧ Rows (cut [Fd, Gd] H') kvF bk ∧ Rows (cut [Fd, Gd] H') kv cl ∧ cl.map (·.1) = zz.take i ∧ ∀ r ∈ cl, ROk zz ws r)
      ⟨v9, v10, [], [], rfl, s10, hG10, hF10, hRF, .nil, rfl, fun r hr => by cases hr⟩ ?_ ?_
    · rintro i σ H10 hi ⟨v9, v10, cl, kv, rfl, s10, hD10, hF10, hRF, hR10, en, rok⟩
      have il : i < 6 := hi
      have hFx := hF10
      have hGx := hD10
      have hS10 := hZ9.same s10
      have hLw10 := hLw9.same s10
      obtain ⟨g, hg⟩ : ∃ g, zz[(i + 1) % 6]? = some g := ⟨_, List.getElem?_eq_getElem (by rw [lz6]; exact Nat.mod_lt _ (by decide))⟩
      have gm : g ∈ zz := List.mem_of_getElem? hg
      obtain ⟨si, hsi⟩ : ∃ x, zz[i]? = some x := ⟨_, List.getElem?_eq_getElem (by rw [lz6]; exact il)⟩
      have tokA : TOk (ws.map fun x => (x, g)) zz ws := TOk.all ndw (fun x h => h) gm
      refine ⟨_, rfl, Lw, rfl, ⟨_, hLw10.sq⟩, fun D0 hD0 => ?_⟩
      refine lc_list (K := K) (a := Lw) (xs := ws.map V.str) (fun j H' => Same H10 H' ∧ ∃ qs : List Addr, H' D0 = some (.lst (qs.map V.ref)) ∧ Paired (fun a (kv : Key × V) => (cut [D0] H') a = some (.tup [kV kv.1, kv.2])) qs (kT ((ws.take j).map fun x => (x, g)))) ⟨Same.new hD0, [], upd_same, .nil⟩ (fun j H' _ z => (hLw10.same z.1).sq) ?_ ?_
      · rintro j v H11 hx0 ⟨sm, qs, hD5, hpr⟩
        obtain ⟨x, hxj, rfl⟩ := get_map hx0
        refine ⟨rfl, ?_⟩
        dsimp only [tYes]
        rw [if_pos rfl]
        refine ⟨x, Z, i, zz, g, rfl, rfl, rfl, hS10.same sm, hg, fun T1 hT1 => ?_⟩
        have gg := Same.new (o := .tup [.str x, .str g]) hT1
        have nT : T1 ≠ D0 := fun e => by rw [e, hD5] at hT1; cases hT1
        have lqs : qs.length ≤ 60 := by rw [paired_len hpr, kT, List.length_map, List.length_map, List.length_take]; omega
        refine ⟨_, gg _ _ hD5, by rw [List.length_map, sizeLine_eq]; omega, fun c u e => ?_, qs ++ [T1], by rw [upd_same, List.map_append]; rfl, ?_⟩
        · rw [upd_ne (ne_of_none e hD0)]; exact gg _ _ (sm _ _ e)
        · rw [cut_upd (by simp), take_succ_get hxj, List.map_append, kT_app]
          exact pair_app (paired_imp (fun p kv e => cut_same gg _ _ e) hpr) (by rw [cut_out (by simpa using nT)]; exact upd_same)
      rintro H12 ⟨s12, qs, hD12, hpr⟩
      rw [List.length_map, List.take_length] at hpr
      refine ⟨D0, qs, kT (ws.map fun x => (x, g)), rfl, SqL.of hD12, paired_imp (fun p kv e => SqT.of (cut_le _ _ e)) hpr, fun Tt hTt => ?_⟩
      rw [merge_id2 (by rw [kT_keys2]; exact inr_nd' tokA.nd)]
      have g13 := Same.new (o := .dK (kT (ws.map fun x => (x, g)))) hTt
      have hT13 : TurnsAt (L2.upd H12 Tt (.dK (kT (ws.map fun x => (x, g))))) Tt (ws.map fun x => (x, g)) := upd_same
      generalize L2.upd H12 Tt (.dK (kT (ws.map fun x => (x, g)))) = H13 at g13 hT13
      have s1013 := Same.trans s12 g13
      clear hpr hD12 hD0
      refine ⟨_, rfl, _, rfl, _, _, _, rfl, rfl, rfl, fun m hm => ⟨_, rfl, Lw, _, rfl, (hLw10.same s1013).sq, fun q hq => ⟨q, rfl, ?_⟩⟩⟩
      rw [cutV_map, cutL_to _ (by omega), Int.toNat_natCast]
      have lx : 1 ≤ (ws.take m).length ∧ (ws.take m).length ≤ 6 := by rw [List.length_take]; omega
      have xm : ∀ x ∈ ws.take m, x ∈ ws := fun x hx => List.mem_of_mem_take hx
      have ndx : (ws.take m).Nodup := List.Nodup.sublist (List.take_sublist _ _) ndw
      generalize ws.take m = xs at lx xm ndx hq
      have g14 := Same.new (o := .lst (xs.map V.str)) hq
      have hq14 : SL (L2.upd H13 q (.lst (xs.map V.str))) q xs := upd_same
      generalize L2.upd H13 q (.lst (xs.map V.str)) = H14 at g14 hq14
      have hT14 := hT13.same g14
      refine ⟨⟨_, hq14.sq⟩, fun Dq hD1 => ?_⟩
      refine lc_list (K := K) (a := q) (xs := xs.map V.str) (fun j H' => Same H14 H' ∧ ∃ qs : List Addr, H' Dq = some (.lst (qs.map V.ref)) ∧ Paired (fun a (kv : Key × V) => (cut [Dq] H') a = some (.tup [kV kv.1, kv.2])) qs (kT ((xs.take j).map fun x => (x, g)))) ⟨Same.new hD1, [], upd_same, .nil⟩ (fun j H' _ z => (hq14.same z.1).sq) ?_ ?_
      · rintro j v H15 hx0 ⟨sm, qs, hD5, hpr⟩
        obtain ⟨x, hxj, rfl⟩ := get_map hx0
        have xmm : x ∈ ws := xm x (List.mem_of_getElem? hxj)
        have vg : valV (kT (ws.map fun x => (x, g))) (.inr x) = some (.str g) := by
          rw [valV_goal (by rw [List.map_map]; exact List.mem_map.mpr ⟨x, xmm, rfl⟩), goal_all ndw xmm]
        refine ⟨rfl, ?_⟩
        dsimp only [tYes]
        rw [if_pos rfl]
        refine ⟨_, rfl, _, rfl, _, rfl, Tt, _, rfl, .inl ⟨kT (ws.map fun x => (x, g)), .inr x, .inl (hT14.same sm), rfl, vg.symm⟩, by show 2 ≤ sizeLine; decide, fun T1 hT1 => ?_⟩
        have gg := Same.new (o := .tup [.str x, .str g]) hT1
        have nT : T1 ≠ Dq := fun e => by rw [e, hD5] at hT1; cases hT1
        have lqs : qs.length ≤ 60 := by rw [paired_len hpr, kT, List.length_map, List.length_map, List.length_take]; omega
        refine ⟨_, gg _ _ hD5, by rw [List.length_map, sizeLine_eq]; omega, fun c u e => ?_, qs ++ [T1], by rw [upd_same, List.map_append]; rfl, ?_⟩
        · rw [upd_ne (ne_of_none e hD1)]; exact gg _ _ (sm _ _ e)
        · rw [cut_upd (by simp), take_succ_get hxj, List.map_append, kT_app]
          exact pair_app (paired_imp (fun p kv e => cut_same gg _ _ e) hpr) (by rw [cut_out (by simpa using nT)]; exact upd_same)
      rintro H16 ⟨s16, qs2, hD16, hpr⟩
      rw [List.length_map, List.take_length] at hpr
      have tokB : TOk (xs.map fun x => (x, g)) zz ws := TOk.all ndx xm gm
      have zne : (xs.map fun x => (x, g)) ≠ [] := fun e => by have := congrArg List.length e; rw [List.length_map] at this; rw [this] at lx; exact absurd lx.1 (by decide)
      refine ⟨Dq, qs2, kT (xs.map fun x => (x, g)), rfl, SqL.of hD16, paired_imp (fun p kv e => SqT.of (cut_le _ _ e)) hpr, fun Tb hTb => ?_⟩
      rw [merge_id2 (by rw [kT_keys2]; exact inr_nd' tokB.nd)]
      generalize (xs.map fun x => (x, g)) = zt at tokB zne hTb
      have g17 := Same.new (o := .dK (kT zt)) hTb
      have hT17 : TurnsAt (L2.upd H16 Tb (.dK (kT zt))) Tb zt := upd_same
      have s1016 : Same H10 H16 := Same.trans s1013 (Same.trans g14 s16)
      have nT1 : ∀ {d : Addr} {u : HO}, H10 d = some u → Tb ≠ d := fun h e => by rw [e, s1016 _ _ h] at hTb; cases hTb
      generalize L2.upd H16 Tb (.dK (kT zt)) = H17 at g17 hT17
      have s1017 : Same H10 H17 := Same.trans s1016 g17
      refine ⟨by show 2 ≤ sizeLine; decide, fun T1 hT1 => ?_⟩
      have nT2 : ∀ {d : Addr} {u : HO}, H10 d = some u → T1 ≠ d := fun h e => by rw [e, s1017 _ _ h] at hT1; cases hT1
      have g18 := Same.new (o := .tup [.str kd, .ref Tb]) hT1
      have e18 : (L2.upd H17 T1 (.tup [.str kd, .ref Tb])) T1 = some (.tup [.str kd, .ref Tb]) := upd_same
      generalize L2.upd H17 T1 (.tup [.str kd, .ref Tb]) = H18 at g18 e18
      have s1018 : Same H10 H18 := Same.trans s1017 g18
      have lkv : kv.length ≤ 6 := by rw [hR10.len, ← List.length_map (·.1), en, List.length_take]; omega
      have fresh : (Sum.inr si : Key) ∉ kv.map (·.1) := fun z => by
        rw [hR10.keys] at z
        obtain ⟨r0, hr0, e0⟩ := List.mem_map.mp z
        have e0 : r0.1 = si := Sum.inr.inj e0
        have nn := nd_take (ys := zz) ndz (i := i) (z := si) hsi
        exact nn (by rw [← en, ← e0]; exact List.mem_map_of_mem hr0)
      refine ⟨_, rfl, _, rfl, _, rfl, Z, _, _, _, rfl, rfl, (hS10.same s1018).sq, ix0 hsi, Gd, _, rfl, DPut.k (kvs := kv) (k := Sum.inr si) (s1018 _ _ hD10) (by rw [sizeLine_eq]; omega), ?_⟩
      rw [D1.putK_new fresh]
      have hRn : Rows (cut [Fd, Gd] (L2.upd H18 Gd (.dK (kv ++ [(Sum.inr si, .ref T1)])))) (kv ++ [(Sum.inr si, .ref T1)]) (cl ++ [((si, kd, zt) : RowD)]) := by
        rw [cut_upd (by simp)]
        refine pair_app (hR10.same (cut_same s1018)) ⟨rfl, T1, Tb, rfl, ?_, ?_⟩
        · rw [cut_out (by simp [nT2 hFx, nT2 hGx])]; exact e18
        · rw [TurnsAt, cut_out (by simp [nT1 hFx, nT1 hGx])]; exact g18 _ _ hT17
      refine ⟨_, _, _, _, rfl, fun c u e => ?_, upd_same, by rw [upd_ne nGF.symm]; exact s1018 _ _ hF10, by rw [cut_upd (by simp)]; exact hRF.same (cut_same s1018), hRn, by rw [List.map_append, en, take_succ_get hsi]; rfl, fun r hr => ?_⟩
      · rw [upd_ne fun z => by rw [z, hG0] at e; cases e]; exact s1018 _ _ (s10 _ _ e)
      · rcases List.mem_append.mp hr with z | z
        · exact rok r z
        · rw [List.mem_singleton.mp z]
          exact ⟨awz si (List.mem_of_getElem? hsi), .inr ⟨hkd, zne, tokB⟩⟩
    rintro σ X2 ⟨v9, v10, cl, kvG, rfl, s11, hG11, hF11, hRF11, hRG11, enG, rokG⟩
    rw [show zz.take 6 = zz from List.take_of_length_le (by omega)] at enG
    obtain ⟨s0, hs0⟩ : ∃ x, ss[0]? = some x := ⟨_, List.getElem?_eq_getElem (by omega)⟩
    obtain ⟨z0, hz0⟩ : ∃ x, zz[0]? = some x := ⟨_, List.getElem?_eq_getElem (by omega)⟩
    have wf1 : WF bk s0 ws := ⟨by rw [enF]; exact nds, by rw [enF]; exact rokF, by rw [enF]; exact List.mem_of_getElem? hs0, by rw [← List.length_map (·.1), enF]; omega⟩
    have wf2 : WF cl z0 ws := ⟨by rw [enG]; exact ndz, by rw [enG]; exact rokG, by rw [enG]; exact List.mem_of_getElem? hz0, by rw [← List.length_map (·.1), enG]; omega⟩
    have hS11 := hS9.same s11
    have hZ11 := hZ9.same s11
    have hL11 := hLw9.same s11
    have hp11 := hp9.same s11
    have bA : BookAt X2 Fd bk := ⟨kvF, hF11, hRF11.same cut_le⟩
    have bB : BookAt X2 Gd cl := ⟨kvG, hG11, hRG11.same cut_le⟩
    refine ⟨_, rfl, _, rfl, S, _, _, _, rfl, rfl, hS11.sq, atI_nat (j := 0) (by rw [List.getElem?_map, hs0]; rfl), by show 2 ≤ sizeLine; decide, fun A hA => ?_⟩
    have g12 := Same.new (o := .lst [.ref Fd, .str s0]) hA
    have e12 : (L2.upd X2 A (.lst [.ref Fd, .str s0])) A = some (.lst [.ref Fd, .str s0]) := upd_same
    generalize L2.upd X2 A (.lst [.ref Fd, .str s0]) = X3 at g12 e12
    refine ⟨_, rfl, _, rfl, Z, _, _, _, rfl, rfl, (hZ11.same g12).sq, atI_nat (j := 0) (by rw [List.getElem?_map, hz0]; rfl), by show 2 ≤ sizeLine; decide, fun B hB => ?_⟩
    have g13 := Same.new (o := .lst [.ref Gd, .str z0]) hB
    have e13 : (L2.upd X3 B (.lst [.ref Gd, .str z0])) B = some (.lst [.ref Gd, .str z0]) := upd_same
    generalize L2.upd X3 B (.lst [.ref Gd, .str z0]) = X4 at g13 e13
    refine ⟨_, rfl, by show 3 ≤ sizeLine; decide, fun R hR => ?_⟩
    have g14 := Same.new (o := .lst [.ref A, .ref B, .ref Lw]) hR
    have e14 : (L2.upd X4 R (.lst [.ref A, .ref B, .ref Lw])) R = some (.lst [.ref A, .ref B, .ref Lw]) := upd_same
    have hp13 := (hp11.same g12).same g13
    have nRp := hp13.ne hR
    generalize L2.upd X4 R (.lst [.ref A, .ref B, .ref Lw]) = X5 at g14 e14
    have s1214 := Same.trans g12 (Same.trans g13 g14)
    have hp14 := hp11.same s1214
    refine k X5 R A B Lw bk cl s0 z0 ws t8 (b09.trans (But.of (Same.trans s11 s1214))) ⟨by rw [cut_out (by simpa using nRp)]; exact e14, world_cut ⟨Fd, g14 _ _ (g13 _ _ e12), bA.same s1214⟩ hp14, world_cut ⟨Gd, g14 _ _ e13, bB.same s1214⟩ hp14, ?_⟩ wf1 wf2 wok hp14 tt9
    rw [SL, cut_out (by simpa using nLwp)]
    exact hL11.same s1214
end
end D1
end L2
namespace L2
namespace X5
open PySem PySem.Spec PyProof.Rows
section
variable {X : Cx} {k v : Expr} {tk tv : TE} {pos : Pos}
/-- a display of one pair, its key a tuple -/
def tDisp1T (tk tv : TE) : TE := fun σ H Q => ∀ p, H p = none → tk σ (upd H p (.dT [])) fun y H2 => tv σ H2 fun z H3 => H3 p = some (.dT []) ∧ ∃ (b : Addr) (ks : List Key), y = .ref b ∧ H3 b = some (.tup (ks.map kV)) ∧ Q (.ref p) (upd H3 p (.dT [(ks, z)]))
theorem pe_disp1T (hu : X.A.units < cLine) (hk : PE X k tk) (hv : PE X v tv) : PE X (.Dict [some k] [v] pos) (tDisp1T tk tv) := by
  refine ⟨fun pins s σ H Q I q => ?_⟩
  have hn := I.hok.fresh (Nat.le_refl s.heap.objs.size)
  have I1 := I.laid (a := s.heap.objs.size) (o := .dT []) (h' := s.heap.push { cls := .type "dict", data := .dict #[] }) (t' := s.toks) (fun _ _ q => Heap.get?_push_of_some _ q) (Nat.le_refl _) (dt_empty s.heap I.big)
  refine wpAny_Dict_any rfl rfl (fun z => by cases z) (by show 1 ≤ 15; decide) (thn ((pps_cons (pos := pos) hk hv pps_nil).run pins _ σ _ (fun ps H2 => match ps with
    | [(x, y)] => H2 s.heap.objs.size = some (.dT []) ∧ ∃ (b : Addr) (ks : List Key), x = .ref b ∧ H2 b = some (.tup (ks.map kV)) ∧ Q (.ref s.heap.objs.size) (upd H2 s.heap.objs.size (.dT [(ks, y)]))
    | _ => False) I1 (q _ hn)) fun ws s2 ⟨ps, H2, I2, rel, h2⟩ => ?_)
  match ps, rel, h2 with
  | [], _, h2 => exact h2.elim
  | _ :: _ :: _, _, h2 => exact h2.elim
  | [(x, y)], .cons (b := wv) ⟨r1, r2⟩ .nil, ⟨e, b, ks, ex, eb, q2⟩ =>
    subst ex
    obtain ⟨w1, w2⟩ := wv
    obtain rfl : w1 = Value.ref b := r1
    unfold storeAll
    rw [List.forIn_cons]
    refine wpAny_bind (wpAny_bind (put_tup hu I2 e (by rw [List.length_nil, sizeLine_eq]; omega) eb r2 fun s3 I3 => wpAny_pure ?_))
    dsimp only
    rw [List.forIn_nil]
    exact wpAny_pure ⟨V.ref s.heap.objs.size, _, I3, rfl, q2⟩
end
end X5
end L2
namespace L2
namespace D1
open PySem PySem.Spec PyProof.Rows D2 X5
theorem PRows.get {H : Hp} : ∀ {kvs : List (Key × V)} {ts : List (Str × Pr)}, PRows H kvs ts → (ts.map (·.1)).Nodup → ∀ {i : Nat} {t : Str × Pr}, ts[i]? = some t → ∃ z, valV kvs (.inr t.1) = some (.ref z) ∧ PAt H z t.2
  | _, _, .nil, _, i, t, e => by cases i <;> cases e
  | kv :: r, t' :: ts, .cons h p, nd, 0, t, e => by
    obtain rfl : t' = t := Option.some.inj e
    obtain ⟨e1, z, e2, e3⟩ := h
    exact ⟨z, by rw [valV_pos e1, e2], e3⟩
  | kv :: r, t' :: ts, .cons h p, nd, i + 1, t, e => by
    have n := List.nodup_cons.mp nd
    have m : t.1 ∈ ts.map (·.1) := List.mem_map.mpr ⟨t, List.mem_of_getElem? (by simpa using e), rfl⟩
    rw [valV_neg (fun q => n.1 (by
      have e0 : t.1 = t'.1 := Sum.inr.inj (q.symm.trans h.1)
      show t'.1 ∈ _
      rw [← e0]; exact m))]
    exact PRows.get p n.2 (i := i) (by simpa using e)
end D1
end L2
namespace L2
namespace D1
open PySem PySem.Spec PyProof.Rows D2 X5 X6
abbrev sLClosed : Stmt := top 51
end D1
end L2
namespace L2
namespace D1
open PySem PySem.Spec PyProof.Rows D2 X5 X6
theorem ord_all {bk cl : Bk} : ∀ q : Pr, InP (ordB bk) (ordB cl) q → q ∈ allP bk cl := fun q h => mem_allP (inP_ord.mp h)
end D1
end L2
namespace L2
namespace D1
open PySem PySem.Spec PyProof.Rows D2 X5 X6
abbrev sViable : Stmt := top 47
def trD (ss : List Str) : List (Key × V) := ss.map fun s => (Sum.inr s, V.bl true)
theorem trD_keys (ss : List Str) : (trD ss).map (·.1) = ss.map Sum.inr := by rw [trD, List.map_map]; rfl
theorem trD_put (ss : List Str) (s : Str) : putK (trD ss) (.inr s) (.bl true) = trD (if s ∈ ss then ss else ss ++ [s]) := by
  by_cases h : s ∈ ss
  · rw [if_pos h]
    unfold putK
    rw [if_pos (show ((trD ss).any fun kv => decide (kv.1 = Sum.inr s)) = true from List.any_eq_true.mpr ⟨(Sum.inr s, V.bl true), List.mem_map.mpr ⟨s, h, rfl⟩, decide_eq_true rfl⟩), trD, List.map_map]
    refine List.map_congr_left fun x _ => ?_
    show (if (Sum.inr x : Key) = Sum.inr s then (Sum.inr x, V.bl true) else (Sum.inr x, V.bl true)) = _
    split <;> rfl
  · rw [if_neg h, D1.putK_new, trD, trD, List.map_append]
    · rfl
    · rw [trD_keys]
      exact fun m => by obtain ⟨x, hx, e⟩ := List.mem_map.mp m; exact h (Sum.inr.inj e ▸ hx)
theorem pigeonS : ∀ (l ns : List Str), l.Nodup → (∀ x ∈ l, x ∈ ns) → l.length ≤ ns.length := fun l ns nd h => pigeon l ns nd h
def spViable : Sp := fun vs H Q _ => ∃ (W : Addr) (bk : Bk) (st : Str), vs = [.ref W] ∧ WorldAt H W bk st ∧ DOk bk st ∧ ∀ H' R xs, Same H H' → H R = none → SL H' R xs → xs.length ≤ 60 → Q (.ref R) H'
abbrev viN : List Str := ["_law_world_here", "_law_kept", "_law_turn", "_law_near", "_law_many", "_law_state", "_law_kind", "_law_turns_here", "_law_goals", "_law_is_near", "_law_word_here", "_law_goal"]
def tVt : TT := fun σ H Q => ∃ (W Kp N GL : Addr) (v2 v7 : Option V) (many : Int) (s k : Str) (b : Bool) (gs ks : List Str), σ = [some (.ref W), some (.ref Kp), v2, some (.ref N), some (.int many), some (.str s), some (.str k), v7, some (.ref GL), some (.bl b), none, none] ∧ SL H GL gs ∧ gs.length ≤ 60 ∧ H Kp = some (.dK (trD ks)) ∧ ∀ b H', Same H H' → Q b H'
section
variable {P : Program} {w : World} {K : PySem.W.Frag} {mg : Str → Option Value} {base : Heap}
theorem scVi : FnScope viN ["_law_world_here"] (defScope sViable) := ⟨rfl, rfl, rfl, by decide +kernel, rfl, by decide +kernel, by decide +kernel⟩
theorem ok_viable {f : Addr} {fd : FuncData} (F : Fun K "_law_viable" "_law_viable" sViable f fd) (T : Free4 mg) : FnOk P w K mg base CX0 1 f fd ["_law_world_here"] spViable := by
  refine F.ok scVi (fun vs H Q E h => ?_) (fun cdv A outer s H vs Q E0' hr h => ?_)
  · obtain ⟨W, bk, st, rfl, _⟩ := h; rfl
  · obtain ⟨W, bk, st, rfl, ⟨b, hW, kvs, hb, hR⟩, ok, k⟩ := h
    have hu := hu_of hr
    refine ⟨_, pss_cons (ps_set (i := 1) scVi.nd rfl (Or.inr rfl) (pe_callTy (call_dictP rfl) (by rfl) T.dict (by decide +kernel) (pa_cons (pe_lock (pe_lc (own := [("_law_state", 5)]) (g := gName 5) (tt := tYes) (te := tTup (tCons (tVar 5) (tCons (tC (.bl true)) tNil))) rfl scVi.nd (pi_keys (pe_ix ix_list (pv 0) pe_int (fun _ _ => rfl)))
        (blkOk_by (N := viN) (sc := defScope sViable) (by decide +kernel)) (fun _ _ _ _ _ => pg_name (i := 5) scVi.nd rfl (Or.inl rfl)) (fun _ _ _ _ _ => pts_nil) (fun _ _ _ _ _ => pe_tup (pa_cons (pv 5) (pa_cons pe_bl pa_nil))))) pa_nil)))
      (pss_cons (ps_for PassesOwn.never rfl (pi_range1 rfl T.range (pa_cons (pe_op op_add (pe_callB call_lenD (by rfl) T.len PySem.boot_len (pa_cons (pe_ix ix_list (pv 0) pe_int (fun _ _ => rfl)) pa_nil)) pe_int) pa_nil)) (pg_name (i := 2) scVi.nd rfl (Or.inl rfl))
        (pss_cons (ps_asg (pe_tup (pa_cons pe_dnewK (pa_cons (pe_un un_neg pe_int) pa_nil))) (pg_tup rfl (pgs_cons (pg_name (i := 3) scVi.nd rfl (Or.inr rfl)) (pgs_cons (pg_name (i := 4) scVi.nd rfl (Or.inl rfl)) pgs_nil))))
        (pss_cons (ps_while PassesOwn.never (pt_cmpR op_lt (pv 4) (pe_callB call_lenD (by rfl) T.len PySem.boot_len (pa_cons (pv 3) pa_nil)) (nomark _))
          (pss_cons (ps_set (i := 4) scVi.nd rfl (Or.inl rfl) (pe_callB call_lenD (by rfl) T.len PySem.boot_len (pa_cons (pv 3) pa_nil)))
          (pss_one (ps_for PassesOwn.never rfl (pi_list (pe_lock (pe_lc (own := [("_law_state", 5)]) (g := gName 5) (tt := tTest (tDNotIn (tVar 5) (tVar 3))) (te := tVar 5) rfl scVi.nd (pi_keys (pv 1))
              (blkOk_by (N := viN) (sc := defScope sViable) (by decide +kernel)) (fun _ _ _ _ _ => pg_name (i := 5) scVi.nd rfl (Or.inl rfl)) (fun _ _ _ _ _ => pts_one (pt_cmp (pc_dnotin hu (pv 5) (pv 3)) rfl)) (fun _ _ _ _ _ => pv 5)))) (pg_name (i := 5) scVi.nd rfl (Or.inl rfl))
            (pss_cons (ps_asg (pe_dget hu (pe_ix ix_list (pv 0) pe_int (fun _ _ => rfl)) (pv 5) (fun _ _ => rfl)) (pg_tup rfl (pgs_cons (pg_name (i := 6) scVi.nd rfl (Or.inl rfl)) (pgs_cons (pg_name (i := 7) scVi.nd rfl (Or.inr rfl)) pgs_nil))))
            (pss_cons (ps_lock (ps_setLc (i := 8) (own := [("_law_word_here", 10)]) (g := gName 10) (tt := tYes) (te := tDGet (tVar 7) (tVar 10)) rfl scVi.nd rfl rfl (sw_true rfl rfl rfl rfl) (pi_keys (pv 7))
              (blkOk_by (N := viN) (sc := defScope sViable) (by decide +kernel)) (fun _ _ _ _ _ => pg_name (i := 10) scVi.nd rfl (Or.inl rfl)) (fun _ _ _ _ _ => pts_nil) (fun _ _ _ _ _ => pe_dget hu (pv 7) (pv 10) (fun _ _ => rfl))))
            (pss_cons (ps_set (i := 9) scVi.nd rfl (Or.inl rfl) (pe_callB (cr_any rfl) (by rfl) T.any (by decide +kernel) (pa_cons (pe_lc (own := [("_law_goal", 11)]) (g := gName 11) (tt := tYes) (te := tDIn (tVar 11) (tVar 3)) rfl scVi.nd (pi_list (pv 8))
              (blkOk_by (N := viN) (sc := defScope sViable) (by decide +kernel)) (fun _ _ _ _ _ => pg_name (i := 11) scVi.nd rfl (Or.inl rfl)) (fun _ _ _ _ _ => pts_nil) (fun _ _ _ _ _ => pe_cmp (pc_din hu (pv 11) (pv 3)) rfl)) pa_nil)))
            (pss_one (ps_if (pt_imp (t' := tVt) (PW.pt (pw_or (pt_cmpR op_eq (pv 6) pe_str (nomark _)) (pw_or1 (PW.pt (pw_and (pt_val (pv 9)) (pw_and1 (PW.pt (pw_or (pt_cmpR op_eq (pv 6) pe_str (nomark _)) (pw_or1 (pt_val (pe_callB (cr_all rfl) (by rfl) T.all (by decide +kernel) (pa_cons (pe_lc (own := [("_law_goal", 11)]) (g := gName 11) (tt := tYes) (te := tDIn (tVar 11) (tVar 1)) rfl scVi.nd (pi_list (pv 8))
              (blkOk_by (N := viN) (sc := defScope sViable) (by decide +kernel)) (fun _ _ _ _ _ => pg_name (i := 11) scVi.nd rfl (Or.inl rfl)) (fun _ _ _ _ _ => pts_nil) (fun _ _ _ _ _ => pe_cmp (pc_din hu (pv 11) (pv 1)) rfl)) pa_nil)))))))))))) ?sub1)
              (pss_one (ps_dput hu (pv 3) (pv 5) pe_bl rfl)) pss_nil)))))))))
        (pss_cons (ps_if (pt_cmpR op_eq (pe_callB call_lenD (by rfl) T.len PySem.boot_len (pa_cons (pv 3) pa_nil)) (pe_callB call_lenD (by rfl) T.len PySem.boot_len (pa_cons (pv 1) pa_nil)) (nomark _)) (pss_one (ps_ret (pe_callB (call_sortedD rfl) (by rfl) T.sorted (by decide +kernel) (pa_cons (pv 3) pa_nil)))) pss_nil)
        (pss_one (ps_set (i := 1) scVi.nd rfl (Or.inr rfl) (pv 3)))))))
      (pss_one (ps_ret (pe_callB (call_sortedD rfl) (by rfl) T.sorted (by decide +kernel) (pa_cons (pv 1) pa_nil))))), ?_⟩
    case sub1 =>
      rintro σ H Q ⟨W, Kp, N, GL, v2, v7, many, s, kd, b, gs, ks, rfl, hL, lg, hK, k⟩
      refine ⟨_, rfl, rfl, _, rfl, ite2 (fun _ => k _ _ (Same.refl _)) (fun _ => ⟨_, rfl, b, rfl, ite2 (fun _ => ⟨_, rfl, rfl, _, rfl, ite2 (fun _ => k _ _ (Same.refl _)) (fun _ => ⟨_, rfl, GL, rfl, ⟨_, hL.sq⟩, fun M hM => ?_⟩)⟩) (fun _ => k _ _ (Same.refl _))⟩)⟩
      refine lc_list (K := K) (a := GL) (xs := gs.map V.str) (fun i H' => Same H H' ∧ ∃ bs : List Bool, bs.length = i ∧ H' M = some (.lst (bs.map V.bl))) ⟨Same.new hM, [], rfl, upd_same⟩ (fun i H' _ z => (hL.same z.1).sq) ?_ ?_
      · rintro i x H2 hx ⟨s2, bs, lb, hM2⟩
        obtain ⟨g, hg, rfl⟩ := D1.get_map hx
        have li : i < gs.length := (List.getElem?_eq_some_iff.mp hg).1
        refine ⟨rfl, ?_⟩
        dsimp only [tYes]
        rw [if_pos rfl]
        refine ⟨_, rfl, _, rfl, Kp, _, rfl, .inl ⟨trD ks, .inr g, .inl (s2 _ _ hK), rfl, rfl⟩, _, hM2, by rw [List.length_map, sizeLine_eq]; omega, fun c u e => ?_, bs ++ [_], by rw [List.length_append, lb]; rfl, by rw [upd_same, List.map_append]; rfl⟩
        rw [upd_ne (ne_of_none e hM)]; exact s2 _ _ e
      · rintro H2 ⟨s2, bs, lb, hM2⟩
        exact ⟨M, bs, rfl, SqL.of hM2, _, rfl, k _ _ s2⟩
    have l60 := ok.len
    have ekv : kvs.map (·.1) = (bk.map (·.1)).map Sum.inr := by rw [hR.keys, List.map_map]; rfl
    have lkv : kvs.length = bk.length := hR.len
    -- the first dict
    refine ⟨b, _, hb, trivial, fun od => ?_⟩
    have nWb : W ≠ b := fun e => by rw [e, hb] at hW; cases hW
    have hWL : (L2.upd H b (.frz od (.dK kvs))) W = some (.lst [.ref b, .str st]) := by rw [upd_ne nWb]; exact hW
    refine ⟨_, rfl, W, _, _, _, rfl, rfl, SqL.of hWL, atI_nat (j := 0) rfl, b, od, rfl, .inl ⟨kvs, upd_same, fun M hM => ?_⟩⟩
    have nM : M ≠ b := fun e => by rw [e, upd_same] at hM; cases hM
    refine lc_it (walk_keys (d := b) (o := od) (kvs := kvs)) (fun i H' => Same (L2.upd H b (.frz od (.dK kvs))) H' ∧ ∃ ps : List Addr, H' M = some (.lst (ps.map V.ref)) ∧ Paired (fun p (kv : Key × V) => (cut [M] H') p = some (.tup [kV kv.1, kv.2])) ps (trD ((bk.map (·.1)).take i))) ⟨Same.new hM, [], upd_same, .nil⟩ (fun i H' _ z => z.1 _ _ upd_same) ?_ ?_
    · rintro i x H2 H3 hi ⟨sm, ps, hM2, hps⟩ ⟨rfl, kk, v0, hkv, rfl⟩
      obtain ⟨r, hr', rfl, _⟩ := hR.at hkv
      have hs : (bk.map (·.1))[i]? = some r.1 := by rw [List.getElem?_map, hr']; rfl
      have hil : i < bk.length := (List.getElem?_eq_some_iff.mp hr').1
      refine ⟨rfl, ?_⟩
      dsimp only [tYes]
      rw [if_pos rfl]
      refine ⟨_, rfl, by show 2 ≤ sizeLine; decide, fun T1 hT1 => ?_⟩
      have g := Same.new (o := .tup [kV (Sum.inr r.1), .bl true]) hT1
      have nT : T1 ≠ M := fun e => by rw [e, hM2] at hT1; cases hT1
      have lps : ps.length = i := by
        have := paired_len hps
        rw [trD, List.length_map, List.length_take, List.length_map] at this
        omega
      refine ⟨_, g _ _ hM2, by rw [List.length_map, sizeLine_eq]; omega, fun c u e => ?_, ps ++ [T1], by rw [upd_same, List.map_append]; rfl, ?_⟩
      · rw [upd_ne (ne_of_none e hM)]; exact g _ _ (sm _ _ e)
      · rw [cut_upd (by simp), take_succ_get hs, trD, List.map_append]
        have hp' := paired_imp (fun p (kv : Key × V) (e : (cut [M] H3) p = some (.tup [kV kv.1, kv.2])) => cut_same g _ _ e) hps
        exact pair_app hp' (by rw [cut_out (by simpa using nT)]; exact upd_same)
    rintro H2 ⟨sm, ps, hM2, hps⟩
    rw [lkv, ← List.length_map (·.1), List.take_length] at hps
    have su := Same.unlock hb sm
    have hp3 : Paired (fun p (kv : Key × V) => SqT K (L2.upd H2 b (.dK kvs)) p [kV kv.1, kv.2]) ps (trD (bk.map (·.1))) := paired_imp (fun p kv e => SqT.of (unl_at (sm _ _ upd_same) (cut_le _ _ e))) hps
    refine ⟨sm _ _ upd_same, M, ps, _, rfl, SqL.of (by rw [upd_ne nM]; exact hM2), hp3, fun K0 hK0 => ?_⟩
    rw [merge_id2 (by rw [trD_keys]; exact inr_nd' ok.nd)]
    have s3 := Same.trans su (Same.new (o := .dK (trD (bk.map (·.1)))) hK0)
    have eK3 : (L2.upd (L2.upd H2 b (.dK kvs)) K0 (.dK (trD (bk.map (·.1))))) K0 = some (.dK (trD (bk.map (·.1)))) := upd_same
    have nK0 : H K0 = none := su.free hK0
    generalize L2.upd (L2.upd H2 b (.dK kvs)) K0 (.dK (trD (bk.map (·.1)))) = H3 at s3 eK3
    clear hps hp3 hM2 su sm hWL hM
    -- the end of either return
    have fin : ∀ (H' : Hp) (D : Addr) (ss : List Str), Same H H' → H' D = some (.dK (trD ss)) → ss.Nodup → (∀ x ∈ ss, x ∈ bk.map (·.1)) → ∃ (a : Addr) (kvs : List (Key × V)) (ks : List Str), [V.ref D] = [.ref a] ∧ Rd H' a (.dK kvs) ∧ kvs.map (·.1) = ks.map Sum.inr ∧ ks.length < 64 ∧ ∀ ys q, ys.Perm ks → sortedS ys = true → H' q = none → Q (.ref q) (L2.upd H' q (.lst (ys.map V.str))) := fun H' D ss s hD nd sub => by
      have l := pigeonS ss _ nd sub
      rw [List.length_map] at l
      refine ⟨D, _, ss, rfl, .inl hD, trD_keys ss, by omega, fun ys q pm so hq => ?_⟩
      exact k _ q ys (Same.trans s (Same.new hq)) (s.free hq) upd_same (by rw [pm.length_eq]; omega)
    refine ⟨_, rfl, W, _, _, _, rfl, rfl, SqL.of (s3 _ _ hW), atI_nat (j := 0) rfl, b, kvs, rfl, s3 _ _ hb, _, _, rfl, rfl, (kvs.length : Int) + 1, rfl, by omega, by omega, ?_⟩
    refine for_range (n := ((kvs.length : Int) + 1).toNat) (fun i σ H' => ∃ (Kp : Addr) (ks : List Str) (v2 v3 v4 v5 v6 v7 v8 v9 : Option V), σ = [some (.ref W), some (.ref Kp), v2, v3, v4, v5, v6, v7, v8, v9, none, none] ∧ Same H H' ∧ H Kp = none ∧ H' Kp = some (.dK (trD ks)) ∧ ks.Nodup ∧ (∀ x ∈ ks, x ∈ bk.map (·.1)))
      ⟨K0, _, none, none, none, none, none, none, none, none, rfl, s3, nK0, eK3, ok.nd, fun x hx => hx⟩ ?_ ?_
    · rintro i σ H4 hi ⟨Kp, ks, v2, v3, v4, v5, v6, v7, v8, v9, rfl, s4, nK, hK, ndk, subk⟩
      have lks : ks.length ≤ 60 := by have := pigeonS ks _ ndk subk; rw [List.length_map] at this; omega
      refine fun N hN => ⟨_, rfl, by show 2 ≤ sizeLine; decide, fun T0 hT0 => ⟨T0, _, rfl, SqT.of upd_same, rfl, _, _, rfl, _, _, rfl, rfl, ?_⟩⟩
      have nKN : Kp ≠ N := ne_of_none hK hN
      have hN0 : H N = none := s4.free hN
      have g1 := Same.new (o := .dK []) hN
      have eN1 : (L2.upd H4 N (.dK [])) N = some (.dK (trD [])) := upd_same
      generalize L2.upd H4 N (.dK []) = H5 at g1 eN1 hT0
      have g2 := Same.new (o := .tup [.ref N, .int (-1)]) hT0
      have eN2 := g2 _ _ eN1
      generalize L2.upd H5 T0 (.tup [.ref N, .int (-1)]) = H6 at g2 eN2
      have s6 : Same H4 (cut [N] H6) := fun c u e => by
        have n := ne_of_none e hN
        rw [cut_out (by simpa using n)]; exact g2 _ _ (g1 _ _ e)
      clear g1 g2 eN1 hT0
      refine ⟨fun m σ H' => ∃ (many : Int) (ns : List Str) (v5 v6 v7 v8 v9 : Option V), σ = [some (.ref W), some (.ref Kp), some (.int (0 + (i : Int))), some (.ref N), some (.int many), v5, v6, v7, v8, v9, none, none] ∧ Same H4 (cut [N] H') ∧ H' N = some (.dK (trD ns)) ∧ ns.Nodup ∧ (∀ x ∈ ns, x ∈ bk.map (·.1)) ∧ m = (61 - many).toNat,
        ⟨_, -1, [], v5, v6, v7, v8, v9, rfl, s6, eN2, List.nodup_nil, fun x hx => (by cases hx), rfl⟩, ?_⟩
      rintro m σ H7 ⟨many, ns, v5, v6, v7, v8, v9, rfl, s7, hN7, ndn, subn, rfl⟩
      have lns : ns.length ≤ 60 := by have := pigeonS ns _ ndn subn; rw [List.length_map] at this; omega
      have ltr : ∀ ss : List Str, (trD ss).length = ss.length := fun ss => by rw [trD, List.length_map]
      refine ⟨_, rfl, _, rfl, N, _, rfl, hN7, _, _, rfl, rfl, _, rfl, ?_⟩
      rw [ltr]
      rcases (Classical.em (many < ns.length)).symm with hm | hm
      · refine (if_neg (by rw [decide_eq_false hm]; decide)).mpr ⟨_, rfl, N, _, rfl, hN7, _, rfl, Kp, _, rfl, cut_le _ _ (s7 _ _ hK), rfl, _, rfl, ite2 (fun _ => ?_) (fun _ => ?_)⟩
        · exact ⟨_, rfl, fin _ _ _ (Same.trans s4 (Same.trans s7 cut_le)) hN7 ndn subn⟩
        · exact ⟨_, rfl, N, ns, _, _, _, _, _, _, _, _, rfl, Same.trans s4 (Same.trans s7 cut_le), hN0, hN7, ndn, subn⟩
      refine (if_pos (decide_eq_true hm)).mpr ⟨_, fun σ' H' h => h, ?_⟩
      refine ⟨_, rfl, N, _, rfl, hN7, ?_⟩
      rw [ltr]
      have hK7c := s7 _ _ hK
      obtain ⟨nKc, hK7⟩ := cut_some hK7c
      refine ⟨Kp, _, hK7, trivial, fun od => ?_⟩
      have hNL : (L2.upd H7 Kp (.frz od (.dK (trD ks)))) N = some (.dK (trD ns)) := by rw [upd_ne nKN.symm]; exact hN7
      refine ⟨_, rfl, Kp, od, rfl, .inl ⟨trD ks, upd_same, fun M hM => ?_⟩⟩
      have nM : M ≠ Kp := fun e => by rw [e, upd_same] at hM; cases hM
      have hM7 : H7 M = none := by rw [upd_ne nM] at hM; exact hM
      refine lc_it (walk_keys (d := Kp) (o := od) (kvs := trD ks)) (fun j H' => Same (L2.upd H7 Kp (.frz od (.dK (trD ks)))) H' ∧ ∃ xs : List Str, SL H' M xs ∧ (∀ x ∈ xs, x ∈ ks) ∧ xs.length ≤ j) ⟨Same.new hM, [], upd_same, fun x hx => (by cases hx), Nat.le_refl _⟩ (fun j H' _ z => z.1 _ _ upd_same) ?_ ?_
      · rintro j x H8 H9 hj ⟨sm, xs, hM8, sub, lx⟩ ⟨rfl, kk, v0, hkv, rfl⟩
        rw [trD, List.getElem?_map] at hkv
        obtain ⟨sx, hs, e⟩ := Option.map_eq_some_iff.mp hkv
        cases e
        rw [ltr] at hj
        refine ⟨rfl, _, rfl, _, rfl, N, _, rfl, .inl ⟨trD ns, .inr sx, .inl (sm _ _ hNL), rfl, rfl⟩, _, rfl, ite2 (fun _ => ?_) (fun _ => ⟨sm, xs, hM8, sub, by omega⟩)⟩
        refine ⟨_, rfl, _, hM8, by rw [List.length_map, sizeLine_eq]; omega, fun c u e => ?_, xs ++ [sx], by rw [SL, upd_same, List.map_append]; rfl, fun x hx => ?_, by rw [List.length_append]; show xs.length + 1 ≤ j + 1; omega⟩
        · rw [upd_ne (ne_of_none e hM)]; exact sm _ _ e
        · rcases List.mem_append.mp hx with z | z
          · exact sub x z
          · rw [List.mem_singleton.mp z]; exact List.mem_of_getElem? hs
      rintro H8 ⟨sm, xs, hM8, sub, lx⟩
      rw [ltr] at lx
      have su := Same.unlock hK7 sm
      have hM9 : SL (L2.upd H8 Kp (.dK (trD ks))) M xs := by rw [SL, upd_ne nM]; exact hM8
      refine ⟨sm _ _ upd_same, M, rfl, ⟨_, hM9.sq⟩, ?_⟩
      have hN9 : (L2.upd H8 Kp (.dK (trD ks))) N = some (.dK (trD ns)) := su _ _ hN7
      generalize L2.upd H8 Kp (.dK (trD ks)) = H9 at su hM9 hN9
      have nMN : M ≠ N := fun e => by rw [e, hN7] at hM7; cases hM7
      have s9 : Same H4 (cut [N] H9) := Same.trans s7 (cut_same su)
      have hM9c : SL (cut [N] H9) M xs := by rw [SL, cut_out (by simpa using nMN)]; exact hM9
      refine for_list (K := K) (a := M) (xs := xs.map V.str) (fun j σ H' => ∃ (ns2 : List Str) (v5 v6 v7 v8 v9 : Option V), σ = [some (.ref W), some (.ref Kp), some (.int (0 + (i : Int))), some (.ref N), some (.int ns.length), v5, v6, v7, v8, v9, none, none] ∧ Same (cut [N] H9) (cut [N] H') ∧ H' N = some (.dK (trD ns2)) ∧ ns2.Nodup ∧ (∀ x ∈ ns2, x ∈ bk.map (·.1)))
        ⟨ns, _, _, _, _, _, rfl, Same.refl _, hN9, ndn, subn⟩ (fun j σ H' _ ⟨_, _, _, _, _, _, _, z, _⟩ => (SL.same (SL.same hM9c z) cut_le).sq) ?_ ?_
      · rintro j x σ H10 hx ⟨ns2, v5, v6, v7, v8, v9, rfl, s10, hN10, nd2, sub2⟩
        obtain ⟨sx, hs, rfl⟩ := D1.get_map hx
        have snm := subk _ (sub _ (List.mem_of_getElem? hs))
        have sH : Same H (cut [N] H10) := Same.trans s4 (Same.trans s9 s10)
        have hW10 := cut_le _ _ (sH _ _ hW)
        have hb10 := cut_le _ _ (sH _ _ hb)
        have hR10 := (hR.same sH)
        obtain ⟨v, ev, ⟨t1, a1, rfl, ht1, h1⟩, m1⟩ := hR10.look snm
        have lts : (rowOf bk sx).2.length ≤ 60 := ok.len2 _ m1
        refine ⟨_, rfl, W, _, _, _, rfl, rfl, SqL.of hW10, atI_nat (j := 0) rfl, _, rfl, b, _, rfl, .inl ⟨kvs, .inr sx, .inl hb10, rfl, ev.symm⟩, t1, _, rfl, SqT.of (cut_le _ _ ht1), rfl, _, _, rfl, _, _, rfl, rfl, ?_⟩
        obtain ⟨n1, h1'⟩ := cut_some h1
        have n1N : a1 ≠ N := fun e => n1 (by simp [e])
        have h1a : TurnsAt H10 a1 (rowOf bk sx).2 := h1'
        refine ⟨a1, _, h1a, trivial, fun od2 => ⟨_, rfl, a1, od2, rfl, .inl ⟨kT (rowOf bk sx).2, upd_same, fun GL hGL => ?_⟩⟩⟩
        have nGL : GL ≠ a1 := fun e => by rw [e, upd_same] at hGL; cases hGL
        refine lc_it (walk_keys (d := a1) (o := od2) (kvs := kT (rowOf bk sx).2)) (fun j H' => Same (L2.upd H10 a1 (.frz od2 (.dK (kT (rowOf bk sx).2)))) H' ∧ ∃ gs : List Str, SL H' GL gs ∧ gs.length = j) ⟨Same.new hGL, [], upd_same, rfl⟩ (fun j H' _ z => z.1 _ _ upd_same) ?_ ?_
        · rintro j x H11 H12 hj ⟨sm2, gs, hG11, lg⟩ ⟨rfl, kk, v0, hkv, rfl⟩
          obtain ⟨u, hu1, rfl⟩ := kT_at hkv
          have lj := kT_lt hkv
          refine ⟨rfl, ?_⟩
          dsimp only [tYes]
          rw [if_pos rfl]
          refine ⟨_, rfl, _, rfl, a1, _, rfl, .inl ⟨kT (rowOf bk sx).2, .inr u.1, .inr ⟨od2, sm2 _ _ upd_same⟩, rfl, (valV_goal (List.mem_map_of_mem (List.mem_of_getElem? hu1))).symm⟩, _, hG11, by rw [List.length_map, sizeLine_eq]; omega, fun c w e => ?_, gs ++ [_], by rw [SL, upd_same, List.map_append]; rfl, by rw [List.length_append, lg]; rfl⟩
          rw [upd_ne (ne_of_none e hGL)]; exact sm2 _ _ e
        rintro H11 ⟨sm2, gs, hG11, lg⟩
        rw [show (kT (rowOf bk sx).2).length = (rowOf bk sx).2.length by rw [kT, List.length_map]] at lg
        have su2 := Same.unlock h1a sm2
        refine ⟨sm2 _ _ upd_same, ?_⟩
        have hG12 : SL (L2.upd H11 a1 (.dK (kT (rowOf bk sx).2))) GL gs := by rw [SL, upd_ne nGL]; exact hG11
        generalize L2.upd H11 a1 (.dK (kT (rowOf bk sx).2)) = H12 at su2 hG12
        have hN12 := su2 _ _ hN10
        refine ⟨_, rfl, GL, rfl, ⟨_, hG12.sq⟩, fun M2 hM2 => ?_⟩
        refine lc_list (K := K) (a := GL) (xs := gs.map V.str) (fun i H' => Same H12 H' ∧ ∃ bs : List Bool, bs.length = i ∧ H' M2 = some (.lst (bs.map V.bl))) ⟨Same.new hM2, [], rfl, upd_same⟩ (fun i H' _ z => (hG12.same z.1).sq) ?_ ?_
        · rintro i2 x H13 hx ⟨s13, bs, lb, hM13⟩
          obtain ⟨g, hg, rfl⟩ := D1.get_map hx
          have li : i2 < gs.length := (List.getElem?_eq_some_iff.mp hg).1
          refine ⟨rfl, ?_⟩
          dsimp only [tYes]
          rw [if_pos rfl]
          refine ⟨_, rfl, _, rfl, N, _, rfl, .inl ⟨trD ns2, .inr g, .inl (s13 _ _ hN12), rfl, rfl⟩, _, hM13, by rw [List.length_map, sizeLine_eq]; omega, fun c u e => ?_, bs ++ [_], by rw [List.length_append, lb]; rfl, by rw [upd_same, List.map_append]; rfl⟩
          rw [upd_ne (ne_of_none e hM2)]; exact s13 _ _ e
        rintro H13 ⟨s13, bs, lb, hM13⟩
        have sA := Same.trans su2 s13
        refine ⟨M2, bs, rfl, SqL.of hM13, ?_⟩
        refine ⟨W, Kp, N, GL, _, _, _, sx, _, _, gs, ks, rfl, hG12.same s13, by omega, sA _ _ (cut_le _ _ (s10 _ _ (s9 _ _ hK))), fun q H14 s14 => ?_⟩
        have sB := Same.trans sA s14
        have hN14 := sB _ _ hN10
        refine ite2 (fun _ => ?_) (fun _ => ⟨ns2, _, _, _, _, _, rfl, Same.trans s10 (cut_same sB), hN14, nd2, sub2⟩)
        have l2 : ns2.length ≤ 60 := by have := pigeonS ns2 _ nd2 sub2; rw [List.length_map] at this; omega
        refine ⟨_, rfl, _, rfl, N, _, rfl, DPut.k (kvs := trD ns2) (k := Sum.inr sx) hN14 (by rw [ltr, sizeLine_eq]; omega), ?_⟩
        rw [trD_put]
        refine ⟨_, _, _, _, _, _, rfl, by rw [cut_upd (by simp)]; exact Same.trans s10 (cut_same sB), upd_same, ?_, ?_⟩
        · split
          · exact nd2
          · rename_i c; exact nodup_app nd2 c
        · intro x hx
          split at hx
          · exact sub2 x hx
          · rcases List.mem_append.mp hx with z | z
            · exact sub2 x z
            · rw [List.mem_singleton.mp z]; exact snm
      · rintro σ H10 ⟨ns2, v5, v6, v7, v8, v9, rfl, s10, hN10, nd2, sub2⟩
        exact ⟨_, by omega, _, ns2, _, _, _, _, _, rfl, Same.trans s9 s10, hN10, nd2, sub2, rfl⟩
    · rintro σ H4 ⟨Kp, ks, v2, v3, v4, v5, v6, v7, v8, v9, rfl, s4, nK, hK, ndk, subk⟩
      exact ⟨_, rfl, fin _ _ _ s4 hK ndk subk⟩
end
end D1
end L2
namespace L2
namespace D1
open PySem PySem.Spec PyProof.Rows D2 X5 X6
abbrev sSay : Stmt := top 48
def spSay : Sp := fun vs H Q _ => ∃ (W : Addr) (bk : Bk) (st s : Str), vs = [.ref W, .str s] ∧ WorldAt H W bk st ∧ DOk bk st ∧ s ∈ bk.map (·.1) ∧ ∀ H' R xs, Same H H' → H R = none → SL H' R xs → xs.Nodup → (∀ x ∈ xs, x ∈ (rowOf bk s).2.map (·.1)) → Q (.ref R) H'
section
variable {P : Program} {w : World} {K : PySem.W.Frag} {mg : Str → Option Value} {base : Heap}
abbrev CViable (P : Program) (w : World) (K : PySem.W.Frag) (mg : Str → Option Value) (base : Heap) := Cal P w K mg base "_law_viable" 1 ["_law_world_here"] spViable
abbrev sayN : List Str := ["_law_world_here", "_law_state", "_law_kind", "_law_turns_here", "_law_viable_here", "_law_word_here"]
theorem scSay : FnScope sayN ["_law_world_here", "_law_state"] (defScope sSay) := ⟨rfl, rfl, rfl, by decide +kernel, rfl, by decide +kernel, by decide +kernel⟩
theorem ok_say {f : Addr} {fd : FuncData} (F : Fun K "_law_sayable" "_law_sayable" sSay f fd) (T : Free4 mg) (CV : CViable P w K mg base) : FnOk P w K mg base CX0 2 f fd ["_law_world_here", "_law_state"] spSay := by
  refine F.ok scSay (fun vs H Q E h => ?_) (fun cdv A outer s H vs Q E0' hr h => ?_)
  · obtain ⟨W, bk, st, s, rfl, _⟩ := h; rfl
  · obtain ⟨W, bk, st, sx, rfl, wa, ok, hs, k⟩ := h
    have hu := hu_of hr
    refine ⟨_, pss_cons (ps_asg (pe_dget hu (pe_ix ix_list (pv 0) pe_int (fun _ _ => rfl)) (pv 1) (fun _ _ => rfl)) (pg_tup rfl (pgs_cons (pg_name (i := 2) scSay.nd rfl (Or.inl rfl)) (pgs_cons (pg_name (i := 3) scSay.nd rfl (Or.inr rfl)) pgs_nil))))
      (pss_cons (ps_if (pt_cmpR op_eq (pv 2) pe_str (nomark _))
        (pss_cons (ps_set (i := 4) scSay.nd rfl (Or.inr rfl) (pe_cal CV (hr.mono (by decide)) rfl (pa_cons (pv 0) pa_nil)))
        (pss_one (ps_ret (pe_callB cr_sortedS (by rfl) T.sorted (by decide +kernel) (pa_cons (pe_lock (pe_lc (own := [("_law_word_here", 5)]) (g := gName 5) (tt := tTest (tOp (rIn K false) (tDGet (tVar 3) (tVar 5)) (tVar 4))) (te := tVar 5) rfl scSay.nd (pi_keys (pv 3))
          (blkOk_by (N := sayN) (sc := defScope sSay) (by decide +kernel)) (fun _ _ _ _ _ => pg_name (i := 5) scSay.nd rfl (Or.inl rfl)) (fun _ _ _ _ _ => pts_one (pt_cmpR op_in_seq (pe_dget hu (pv 3) (pv 5) (fun _ _ => rfl)) (pv 4) rfl)) (fun _ _ _ _ _ => pv 5))) pa_nil))))) pss_nil)
      (pss_one (ps_ret (pe_callB (call_sortedD rfl) (by rfl) T.sorted (by decide +kernel) (pa_cons (pv 3) pa_nil))))), ?_⟩
    obtain ⟨b, hW, kvs, hb, hR⟩ := id wa
    obtain ⟨v, ev, ⟨t1, a1, rfl, ht1, h1⟩, m1⟩ := hR.look hs
    have lts : (rowOf bk sx).2.length ≤ 60 := ok.len2 _ m1
    have nd : ((rowOf bk sx).2.map (·.1)).Nodup := ok.tk _ m1
    have ek : (kT (rowOf bk sx).2).map (·.1) = ((rowOf bk sx).2.map (·.1)).map Sum.inr := by rw [kT, List.map_map, List.map_map]; rfl
    refine ⟨_, rfl, W, _, _, _, rfl, rfl, SqL.of hW, atI_nat (j := 0) rfl, _, rfl, b, _, rfl, .inl ⟨kvs, .inr sx, .inl hb, rfl, ev.symm⟩, t1, _, rfl, SqT.of ht1, rfl, _, _, rfl, _, _, rfl, rfl, ?_⟩
    refine ⟨_, rfl, rfl, _, rfl, ite2 (fun _ => ?_) (fun _ => ?_)⟩
    · refine ⟨_, rfl, W, bk, st, rfl, wa, ok, fun H1 R xs g1 nR hL lx => ?_⟩
      have h1a : TurnsAt H1 a1 (rowOf bk sx).2 := h1.same g1
      refine ⟨a1, _, h1a, trivial, fun od => ⟨_, rfl, a1, od, rfl, .inl ⟨kT (rowOf bk sx).2, upd_same, fun M hM => ?_⟩⟩⟩
      have nM : M ≠ a1 := fun e => by rw [e, upd_same] at hM; cases hM
      have nRa : R ≠ a1 := fun e => by rw [TurnsAt, ← e, hL] at h1a; cases h1a
      have hLL : SL (L2.upd H1 a1 (.frz od (.dK (kT (rowOf bk sx).2)))) R xs := by rw [SL, upd_ne nRa]; exact hL
      refine lc_it (walk_keys (d := a1) (o := od) (kvs := kT (rowOf bk sx).2)) (fun j H' => Same (L2.upd H1 a1 (.frz od (.dK (kT (rowOf bk sx).2)))) H' ∧ ∃ ys : List Str, SL H' M ys ∧ ys.Sublist (((rowOf bk sx).2.map (·.1)).take j)) ⟨Same.new hM, [], upd_same, List.nil_sublist _⟩ (fun j H' _ z => z.1 _ _ upd_same) ?_ ?_
      · rintro j x H2 H3 hj ⟨sm, ys, hM2, sl⟩ ⟨rfl, kk, v0, hkv, rfl⟩
        obtain ⟨u, hu1, rfl⟩ := kT_at hkv
        have lj := kT_lt hkv
        have hk1 : ((rowOf bk sx).2.map (·.1))[j]? = some u.1 := by rw [List.getElem?_map, hu1]; rfl
        have ly : ys.length ≤ j := by have := sl.length_le; rw [List.length_take] at this; omega
        rw [take_succ_get hk1]
        refine ⟨rfl, _, rfl, _, rfl, a1, _, rfl, .inl ⟨kT (rowOf bk sx).2, .inr u.1, .inr ⟨od, sm _ _ upd_same⟩, rfl, (valV_goal (List.mem_map_of_mem (List.mem_of_getElem? hu1))).symm⟩, _, rfl, R, _, rfl, .inl ((hLL.same sm).sq), rfl, flat_strs xs, _, rfl, ite2 (fun _ => ?_) (fun _ => ⟨sm, ys, hM2, sl.trans (List.sublist_append_left _ _)⟩)⟩
        refine ⟨_, rfl, _, hM2, by rw [List.length_map, sizeLine_eq]; omega, fun c w e => ?_, ys ++ [u.1], by rw [SL, upd_same, List.map_append]; rfl, sl.append (List.Sublist.refl _)⟩
        rw [upd_ne (ne_of_none e hM)]; exact sm _ _ e
      rintro H2 ⟨sm, ys, hM2, sl⟩
      rw [show (kT (rowOf bk sx).2).length = ((rowOf bk sx).2.map (·.1)).length by rw [kT, List.length_map, List.length_map], List.take_length] at sl
      have su := Same.unlock h1a sm
      have ly : ys.length ≤ 60 := by have := sl.length_le; rw [List.length_map] at this; omega
      refine ⟨sm _ _ upd_same, M, ys, rfl, SqL.of (by rw [upd_ne nM]; exact hM2), by omega, fun zs q pm so hq => ?_⟩
      have s1 := Same.trans g1 su
      refine k _ q zs (Same.trans s1 (Same.new hq)) (s1.free hq) upd_same (pm.nodup_iff.mpr (sl.nodup nd)) fun x hx => sl.subset (pm.mem_iff.mp hx)
    · refine ⟨_, rfl, a1, kT (rowOf bk sx).2, (rowOf bk sx).2.map (·.1), rfl, .inl h1, ek, by rw [List.length_map]; omega, fun ys q pm so hq => ?_⟩
      exact k _ q ys (Same.new hq) hq upd_same (pm.nodup_iff.mpr nd) fun x hx => pm.mem_iff.mp hx
end
end D1
end L2
namespace L2
namespace D1
open PySem PySem.Spec PyProof.Rows D2 X5 X6
def num : List Str → Str → Nat
  | [], _ => 0
  | x :: r, s => if x = s then 0 else num r s + 1
theorem num_get : ∀ {l : List Str} {s : Str}, s ∈ l → l[num l s]? = some s
  | [], _, h => by cases h
  | x :: r, s, h => by
    unfold num
    by_cases c : x = s
    · rw [if_pos c, c]; rfl
    · rw [if_neg c]
      exact num_get (l := r) ((List.mem_cons.mp h).resolve_left fun q => c q.symm)
theorem num_lt {l : List Str} {s : Str} (h : s ∈ l) : num l s < l.length := (List.getElem?_eq_some_iff.mp (num_get h)).1
theorem num_inj {l : List Str} {s t : Str} (hs : s ∈ l) (ht : t ∈ l) (e : num l s = num l t) : s = t := by
  have := num_get hs
  rw [e, num_get ht] at this
  exact (Option.some.inj this).symm
theorem num_at {l : List Str} (nd : l.Nodup) {i : Nat} {s : Str} (h : l[i]? = some s) : num l s = i := by
  have m := List.mem_of_getElem? h
  have h2 := num_get m
  exact (List.getElem?_inj (num_lt m) nd).mp (h2.trans h.symm)
abbrev Cp := Str × Nat
def kQ (q : Cp) : List Key := [.inr q.1, .inl (q.2 : Int)]
theorem kQ_inj {p q : Cp} (h : kQ p = kQ q) : p = q := by
  have h1 : p.1 = q.1 := Sum.inr.inj (List.cons.inj h).1
  have h2 : (p.2 : Int) = (q.2 : Int) := Sum.inl.inj (List.cons.inj (List.cons.inj h).2).1
  exact Prod.ext h1 (by omega)
def nmC (ss : List Str) (n : Nat) (q : Cp) : Str := nameP (num ss q.1 * n + q.2)
def pairsC (ss : List Str) (n : Nat) : List Cp := ss.flatMap fun s => (List.range n).map fun c => (s, c)
theorem pairsC_snoc (ss : List Str) (n : Nat) (s : Str) : pairsC (ss ++ [s]) n = pairsC ss n ++ (List.range n).map fun c => (s, c) := by
  rw [pairsC, List.flatMap_append, List.flatMap_cons, List.flatMap_nil, List.append_nil]; rfl
theorem mem_pairsC {ss : List Str} {n : Nat} {q : Cp} : q ∈ pairsC ss n ↔ q.1 ∈ ss ∧ q.2 < n := by
  unfold pairsC
  rw [List.mem_flatMap]
  constructor
  · rintro ⟨s, hs, h⟩
    obtain ⟨t, ht, rfl⟩ := List.mem_map.mp h
    exact ⟨hs, List.mem_range.mp ht⟩
  · rintro ⟨a, b⟩
    exact ⟨q.1, a, List.mem_map.mpr ⟨q.2, List.mem_range.mpr b, rfl⟩⟩
theorem pairsC_len (ss : List Str) (n : Nat) : (pairsC ss n).length = ss.length * n := by
  unfold pairsC
  exact len_flat _ n _ fun x _ => by rw [List.length_map, List.length_range]
theorem pairsC_nd {n : Nat} : ∀ {ss : List Str}, ss.Nodup → (pairsC ss n).Nodup
  | [], _ => List.nodup_nil
  | s :: r, h => by
    have h' := List.nodup_cons.mp h
    show ((List.range n).map (fun c => (s, c)) ++ pairsC r n).Nodup
    refine List.nodup_append.mpr ⟨?_, pairsC_nd h'.2, fun x hx y hy e => ?_⟩
    · exact List.Pairwise.map (fun t => (s, t)) (fun a b n e => n (Prod.ext_iff.mp e).2) List.nodup_range
    · obtain ⟨t, ht, rfl⟩ := List.mem_map.mp hx
      have := (mem_pairsC.mp hy).1
      rw [← e] at this
      exact h'.1 this
theorem name_wd (i : Fin 6) : Wd (nameP i.val) := by
  refine ⟨?_, ?_, ?_⟩ <;> revert i <;> decide +kernel
theorem name_inj : ∀ i j : Fin 6, nameP i.val = nameP j.val → i = j := by decide +kernel
section
variable {ss : List Str} {n : Nat}
theorem nm_lt (h6 : n * ss.length ≤ 6) {q : Cp} (h : q ∈ pairsC ss n) : num ss q.1 * n + q.2 < 6 := by
  obtain ⟨a, b⟩ := mem_pairsC.mp h
  have l := num_lt a
  have : (num ss q.1 + 1) * n ≤ ss.length * n := Nat.mul_le_mul_right _ l
  rw [Nat.add_mul, Nat.one_mul] at this
  rw [Nat.mul_comm] at h6
  omega
theorem nm_wd (h6 : n * ss.length ≤ 6) {q : Cp} (h : q ∈ pairsC ss n) : Wd (nmC ss n q) := name_wd ⟨_, nm_lt h6 h⟩
theorem nm_inj (h6 : n * ss.length ≤ 6) {p q : Cp} (hp : p ∈ pairsC ss n) (hq : q ∈ pairsC ss n) (e : nmC ss n p = nmC ss n q) : p = q := by
  have e1 := Fin.mk.inj_iff.mp (name_inj ⟨_, nm_lt h6 hp⟩ ⟨_, nm_lt h6 hq⟩ e)
  obtain ⟨a, b⟩ := mem_pairsC.mp hp
  obtain ⟨c, d⟩ := mem_pairsC.mp hq
  have d1 : (num ss p.1 * n + p.2) / n = num ss p.1 := by
    rw [Nat.mul_comm, Nat.mul_add_div (by omega), Nat.div_eq_of_lt b, Nat.add_zero]
  have d2 : (num ss q.1 * n + q.2) / n = num ss q.1 := by
    rw [Nat.mul_comm, Nat.mul_add_div (by omega), Nat.div_eq_of_lt d, Nat.add_zero]
  have e2 : num ss p.1 = num ss q.1 := by rw [← d1, ← d2, e1]
  rw [e2] at e1
  exact Prod.ext (num_inj a c e2) (by omega)
theorem nm_nd (h6 : n * ss.length ≤ 6) (nd : ss.Nodup) : ((pairsC ss n).map (nmC ss n)).Nodup := by
  have : ∀ l : List Cp, (∀ x ∈ l, x ∈ pairsC ss n) → l.Nodup → (l.map (nmC ss n)).Nodup := fun l => by
    induction l with
    | nil => exact fun _ _ => List.nodup_nil
    | cons x r ih =>
      intro h hn
      have hn := List.nodup_cons.mp hn
      rw [List.map_cons]
      refine List.nodup_cons.mpr ⟨fun m => ?_, ih (fun y hy => h y (List.mem_cons_of_mem _ hy)) hn.2⟩
      obtain ⟨y, hy, e⟩ := List.mem_map.mp m
      rw [nm_inj h6 (h y (List.mem_cons_of_mem _ hy)) (h x List.mem_cons_self) e] at hy
      exact hn.1 hy
  exact this _ (fun x hx => hx) (pairsC_nd nd)
end
end D1
end L2
namespace L2
namespace D1
open PySem PySem.Spec PyProof.Rows D2 X5 X6
abbrev sPart : Stmt := top 50
def spPart : Sp := fun vs H Q _ => ∃ (p W : Addr) (bk : Bk) (st : Str) (ws : List Str) (n : Nat) (t : Int), vs = [.ref p, .ref W, .int (n : Int)] ∧ Purse H p t ∧ WorldAt (cut [p] H) W bk st ∧ WF bk st ws ∧ WsOk ws ∧ 1 ≤ n ∧ n * bk.length ≤ 6 ∧ t < 2 ^ 25 ∧
  ∀ (H' : Hp) (R : Addr) (cl : Bk) (st' : Str) (t' : Int), But p H H' → H R = none → WorldAt (cut [p] H') R cl st' → WF cl st' ws → Purse H' p t' → t' ≤ t + 100 → Q (.ref R) H'
theorem ps_imp {X : Cx} {st : Stmt} {t t' : TS} (h : PS X st t) (i : ∀ D σ H, t' D σ H → t D σ H) : PS X st t' := ⟨fun pins s σ H D I q => h.run pins s σ H D I (i _ _ _ q)⟩
def NKf (nm : Cp → Str) (ls : List Cp) : List (List Key × V) := ls.map fun q => (kQ q, .str (nm q))
theorem NKf_val {nm : Cp → Str} : ∀ {ls : List Cp} {q : Cp}, q ∈ ls → valV (NKf nm ls) (kQ q) = some (.str (nm q))
  | [], _, h => by cases h
  | x :: r, q, h => by
    by_cases c : x = q
    · subst c; exact valV_pos rfl
    · show valV ((kQ x, V.str (nm x)) :: NKf nm r) (kQ q) = _
      rw [valV_neg (fun e => c (kQ_inj e))]
      exact NKf_val ((List.mem_cons.mp h).resolve_left fun e => c e.symm)
theorem NKf_none {nm : Cp → Str} {ls : List Cp} {q : Cp} (h : q ∉ ls) : valV (NKf nm ls) (kQ q) = none := by
  induction ls with
  | nil => rfl
  | cons x r ih =>
    show valV ((kQ x, V.str (nm x)) :: NKf nm r) (kQ q) = _
    rw [valV_neg (fun e => h (by rw [kQ_inj e]; exact List.mem_cons_self))]
    exact ih fun m => h (List.mem_cons_of_mem _ m)
theorem NKf_put {nm : Cp → Str} {ls : List Cp} {q : Cp} (h : q ∉ ls) : putK (NKf nm ls) (kQ q) (.str (nm q)) = NKf nm (ls ++ [q]) := by
  rw [L2.putK_new _ (NKf_none h), NKf, NKf, List.map_append]; rfl
theorem names_ex {ss : List Str} {n : Nat} (h6 : n * ss.length ≤ 6) (nd : ss.Nodup) : ∃ nm : Cp → Str, (∀ {i : Nat} {s : Str} {j : Nat}, ss[i]? = some s → nm (s, j) = nameP (i * n + j)) ∧ (∀ q, q ∈ pairsC ss n → Wd (nm q)) ∧ (∀ q u, q ∈ pairsC ss n → u ∈ pairsC ss n → nm q = nm u → q = u) ∧ ((pairsC ss n).map nm).Nodup := by
  refine ⟨nmC ss n, ?_, fun q h => nm_wd h6 h, fun q u h1 h2 e => nm_inj h6 h1 h2 e, nm_nd h6 nd⟩
  intro i s j h
  unfold nmC
  dsimp only
  rw [num_at nd h]
theorem lt6_of {i n j L : Nat} (il : i < L) (hj : j < n) (h6 : n * L ≤ 6) : i * n + j < 6 := by
  have : (i + 1) * n ≤ L * n := Nat.mul_le_mul_right _ il
  rw [Nat.add_mul, Nat.one_mul] at this
  rw [Nat.mul_comm] at h6
  omega
theorem sz6 {k : Nat} (h : k ≤ 6) : k < sizeLine := by rw [sizeLine_eq]; omega
theorem tt_of {t t8 t10 t11 : Int} {c u : Nat} (h8 : t8 ≤ t + 13 * (c : Nat)) (h10 : t10 ≤ t8 + 7) (h11 : t11 ≤ t10 + (u : Nat)) (hu : u ≤ 6) : t11 ≤ t + 13 * ((c + 1 : Nat) : Int) := by omega
theorem nat_lt {j n : Nat} (h : j < ((n : Int)).toNat) : j < n := by omega
/-- some of the words of a row, at least one where there is one -/
def tPick : TS := fun D σ H => ∃ (p W B S N a1 Gd L : Addr) (n : Int) (v7 v12 : Option V) (sx kd : Str) (ks gd : List Str) (t : Int), σ = [some (.ref p), some (.ref W), some (.int n), some (.ref B), some (.ref S), some (.ref N), some (.str sx), v7, some (.str kd), some (.ref a1), some (.ref Gd), some (.ref L), v12, none] ∧
  Purse H p t ∧ SL H Gd gd ∧ Gd ≠ p ∧ SL H L ks ∧ L ≠ p ∧ gd.Nodup ∧ (∀ x ∈ gd, x ∈ ks) ∧ ks.Nodup ∧ ks.length ≤ 6 ∧ (∀ x ∈ ks, Wd x) ∧ t < 2 ^ 26 ∧
  ∀ (H' : Hp) (L' : Addr) (us : List Str) (t' : Int), But p H H' → (H L' = none ∨ L' = L) → SL H' L' us → us.Nodup → (∀ x ∈ us, x ∈ ks) → (ks ≠ [] → us ≠ []) → Purse H' p t' → t' ≤ t + 7 →
    D.nx [some (.ref p), some (.ref W), some (.int n), some (.ref B), some (.ref S), some (.ref N), some (.str sx), v7, some (.str kd), some (.ref a1), some (.ref Gd), some (.ref L'), v12, none] H'
section
variable {P : Program} {w : World} {K : PySem.W.Frag} {mg : Str → Option Value} {base : Heap}
abbrev CLName (P : Program) (w : World) (K : PySem.W.Frag) (mg : Str → Option Value) (base : Heap) := Cal P w K mg base "_law_name" 1 ["_law_number"] spName
abbrev CSay (P : Program) (w : World) (K : PySem.W.Frag) (mg : Str → Option Value) (base : Heap) := Cal P w K mg base "_law_sayable" 2 ["_law_world_here", "_law_state"] spSay
abbrev paN : List Str := ["_law_purse_here", "_law_world_here", "_law_copies", "_law_book", "_law_states", "_law_names", "_law_state", "_law_copy", "_law_kind", "_law_turns_here", "_law_good", "_law_words_here", "_law_goals", "_law_word_here"]
theorem scPar : FnScope paN ["_law_purse_here", "_law_world_here", "_law_copies"] (defScope sPart) := ⟨rfl, rfl, rfl, by decide +kernel, rfl, by decide +kernel, by decide +kernel⟩
theorem ok_partner {f : Addr} {fd : FuncData} (F : Fun K "_law_partner" "_law_partner" sPart f fd) (T : Free4 mg) (CN : CLName P w K mg base) (CY : CSay P w K mg base) (CD : CDraw P w K mg base) (CS : CShuf P w K mg base) : FnOk P w K mg base CX0 4 f fd ["_law_purse_here", "_law_world_here", "_law_copies"] spPart := by
  refine F.ok scPar (fun vs H Q E h => ?_) (fun cdv A outer s H vs Q E0' hr h => ?_)
  · obtain ⟨p, W, bk, st, ws, n, t, rfl, _⟩ := h; rfl
  · obtain ⟨p, W, bk, st, ws, n, t, rfl, hp, wa, wf, wok, n1, n6, t1, k⟩ := h
    have hu := hu_of hr
    refine ⟨_, pss_cons (ps_asg (pe_tup (pa_cons pe_dnewK (pa_cons (pe_callTy (call_listD rfl) (by rfl) T.list (by decide +kernel) (pa_cons (pe_ix ix_list (pv 1) pe_int (fun _ _ => rfl)) pa_nil)) (pa_cons pe_dnewT pa_nil)))) (pg_tup rfl (pgs_cons (pg_name (i := 3) scPar.nd rfl (Or.inl rfl)) (pgs_cons (pg_name (i := 4) scPar.nd rfl (Or.inl rfl)) (pgs_cons (pg_name (i := 5) scPar.nd rfl (Or.inr rfl)) pgs_nil)))))
      (pss_cons (ps_for PassesOwn.never rfl (pi_list (pv 4)) (pg_name (i := 6) scPar.nd rfl (Or.inl rfl))
        (pss_one (ps_for PassesOwn.never rfl (pi_range1 rfl T.range (pa_cons (pv 2) pa_nil)) (pg_name (i := 7) scPar.nd rfl (Or.inl rfl))
          (pss_one (ps_dput hu (pv 5) (pe_tup (pa_cons (pv 6) (pa_cons (pv 7) pa_nil))) (pe_cal CN (hr.mono (by decide)) rfl (pa_cons (pe_callB call_len_dT (by rfl) T.len PySem.boot_len (pa_cons (pv 5) pa_nil)) pa_nil)) rfl)))))
      (pss_cons (ps_for PassesOwn.never rfl (pi_list (pv 4)) (pg_name (i := 6) scPar.nd rfl (Or.inl rfl))
        (pss_cons (ps_asg (pe_dget hu (pe_ix ix_list (pv 1) pe_int (fun _ _ => rfl)) (pv 6) (fun _ _ => rfl)) (pg_tup rfl (pgs_cons (pg_name (i := 8) scPar.nd rfl (Or.inl rfl)) (pgs_cons (pg_name (i := 9) scPar.nd rfl (Or.inr rfl)) pgs_nil))))
        (pss_cons (ps_set (i := 10) scPar.nd rfl (Or.inl rfl) (pe_cal CY (hr.mono (by decide)) rfl (pa_cons (pv 1) (pa_cons (pv 6) pa_nil))))
        (pss_one (ps_for PassesOwn.never rfl (pi_range1 rfl T.range (pa_cons (pv 2) pa_nil)) (pg_name (i := 7) scPar.nd rfl (Or.inl rfl))
          (pss_cons (ps_set (i := 11) scPar.nd rfl (Or.inl rfl) (pe_callTy (call_listD rfl) (by rfl) T.list (by decide +kernel) (pa_cons (pv 9) pa_nil)))
          (pss_cons (ps_imp (t' := tPick) (ps_if (PW.pt (pw_and (pt_cmpR op_eq (pv 8) pe_str (nomark _)) (pw_and1 (pt_cmpR (op_neD hr.units) (pv 10) (pe_lst pa_nil) (by rfl)))))
              (pss_one (ps_set (i := 11) scPar.nd rfl (Or.inl rfl) (pe_slice sl_list (pe_cal CS (hr.mono (by decide)) rfl (pa_cons (pv 0) (pa_cons (pv 10) pa_nil))) po_none (po_some (pe_op op_add pe_int (pe_cal CD (hr.mono (by decide)) rfl (pa_cons (pv 0) (pa_cons (pe_callB call_len_seq (by rfl) T.len PySem.boot_len (pa_cons (pv 10) pa_nil)) pa_nil)))))))) pss_nil) ?sub1)
          (pss_cons (ps_set (i := 12) scPar.nd rfl (Or.inl rfl) (pe_callTy (call_dictP rfl) (by rfl) T.dict (by decide +kernel) (pa_cons (pe_lc (own := [("_law_word_here", 13)]) (g := gName 13) (tt := tYes)
              (te := tTup (tCons (tVar 13) (tCons (tDGet (tVar 5) (tTup (tCons (tDGet (tVar 9) (tVar 13)) (tCons (tCall spDraw [] E0 (tCons (tVar 0) (tCons (tVar 2) tNil))) tNil)))) tNil)))
              rfl scPar.nd (pi_list (pv 11)) (blkOk_by (N := paN) (sc := defScope sPart) (by decide +kernel)) (fun _ _ _ _ _ => pg_name (i := 13) scPar.nd rfl (Or.inl rfl)) (fun _ _ _ _ _ => pts_nil)
              (fun _ _ _ _ _ => pe_tup (pa_cons (pv 13) (pa_cons (pe_dget hu (pv 5) (pe_tup (pa_cons (pe_dget hu (pv 9) (pv 13) (fun _ _ => rfl)) (pa_cons (pe_cal CD (hr.mono (by decide)) rfl (pa_cons (pv 0) (pa_cons (pv 2) pa_nil))) pa_nil))) (fun _ _ => rfl)) pa_nil)))) pa_nil)))
          (pss_one (ps_dput hu (pv 3) (pe_dget hu (pv 5) (pe_tup (pa_cons (pv 6) (pa_cons (pv 7) pa_nil))) (fun _ _ => rfl))
              (pe_tup (pa_cons (pe_dget hu (pe_disp (pps_cons pe_str pe_str (pps_cons pe_str pe_str (pps_cons pe_str pe_str pps_nil))) (by rfl) (by rfl) (fun z => by cases z) (by show 3 ≤ 15; decide)) (pv 8) (fun _ _ => rfl)) (pa_cons (pv 12) pa_nil))) rfl))))))))))
      (pss_one (ps_ret (pe_lst (pa_cons (pv 3) (pa_cons (pe_dget hu (pv 5) (pe_tup (pa_cons (pe_ix ix_list (pv 1) pe_int (fun _ _ => rfl)) (pa_cons pe_int pa_nil))) (fun _ _ => rfl)) pa_nil))))))), ?_⟩
    case sub1 =>
      rintro D σ H ⟨p, W, B, S, N, a1, Gd, L, n, v7, v12, sx, kd, ks, gd, t, rfl, hp, hG, nG, hL, nL, ndg, gin, ndk, l6, wd, t1, k⟩
      refine ⟨_, rfl, rfl, _, rfl, ite2 (fun _ => ?_) (fun _ => k H L ks t (fun _ _ _ e => e) (.inr rfl) hL ndk (fun x h => h) (fun h => h) hp (by omega))⟩
      refine ⟨_, rfl, by show 0 ≤ sizeLine; decide, fun E hE => ?_⟩
      have g1 := Same.new (o := .lst []) hE
      have eE : SL (L2.upd H E (.lst [])) E [] := upd_same
      have hp1 := hp.new (o := .lst []) hE
      generalize L2.upd H E (.lst []) = H1 at g1 eE hp1
      have lgd : gd.length ≤ 6 := Nat.le_trans (pigeon gd ks ndg gin) l6
      refine ⟨dW gd, dW [], dp_words (hG.same g1), dp_words eE, sh_words fun x hx => wd x (gin x hx), sh_words (fun _ h => by cases h), _, rfl, ?_⟩
      rw [eqv_nil]
      refine ite2 (fun c => ?_) (fun _ => k H1 L ks t (But.of g1) (.inr rfl) (hL.same g1) ndk (fun x h => h) (fun h => h) hp1 (by omega))
      have gne : gd ≠ [] := fun e => by rw [e] at c; exact absurd c (by decide)
      have gpos := List.length_pos_iff.mpr gne
      refine ⟨_, rfl, _, rfl, p, Gd, _, t, rfl, hp1, hG.same g1, nG, by rw [List.length_map]; omega, by omega, fun H2 R ys t2 b2 nR hR pm hp2 tt2 => ?_⟩
      obtain ⟨zs, rfl, pz⟩ := perm_str pm
      rw [List.length_map] at tt2
      have lz := pz.length_eq
      refine ⟨_, rfl, _, rfl, Gd, _, rfl, .inl (SqL.of (b2 _ _ nG (g1 _ _ hG))), p, _, t2, rfl, hp2, by rw [List.length_map]; omega, by rw [List.length_map]; omega, by omega, fun r t3 o3 r0 r1 tt3 hp3 => ?_⟩
      have nRp : R ≠ p := hp1.ne nR
      refine ⟨_, _, rfl, rfl, 1 + r, rfl, R, _, rfl, SqL.of (by rw [upd_ne nRp]; exact hR), fun q hq => ?_⟩
      rw [cutV_map, cutL_to _ (by omega)]
      have b3 := (But.of g1).trans (b2.trans (But.upd p H2 o3))
      have nqp := hp3.ne hq
      refine k _ q _ t3 (b3.newt hq) (.inl (b3.fr hq nqp)) upd_same ?_ ?_ ?_ (hp3.new hq) (by omega)
      · exact (List.take_sublist _ _).nodup (pz.nodup_iff.mpr ndg)
      · exact fun x hx => gin x (pz.mem_iff.mp (List.mem_of_mem_take hx))
      · intro _ e
        have := congrArg List.length e
        rw [List.length_take, List.length_nil] at this
        omega
    have ok := wf.dok wok
    obtain ⟨b, hWc, kvs, hbc, hRc⟩ := id wa
    have hW := cut_le _ _ hWc
    have hb := cut_le _ _ hbc
    have nWp : W ≠ p := fun e => by rw [e, cut_in (by simp)] at hWc; cases hWc
    have lb := wf.len
    have h6 : n * (bk.map (·.1)).length ≤ 6 := by rw [List.length_map]; exact n6
    have n6' : n ≤ 6 := by
      have : 1 ≤ bk.length := List.length_pos_iff.mpr ok.ne
      have : n * 1 ≤ n * bk.length := Nat.mul_le_mul_left _ this
      omega
    have snd := ok.nd
    have rof := fun r hr => (wf.rs r hr)
    have stm := wf.st
    have ek : kvs.map (fun kv => kV kv.1) = (bk.map (·.1)).map V.str := by
      have := congrArg (List.map kV) hRc.keys
      rw [List.map_map, List.map_map] at this
      rw [List.map_map]; exact this
    obtain ⟨nm, nm1, nm2, nm3, nm4⟩ := names_ex h6 snd
    have lss : (bk.map (·.1)).length ≤ 6 := by rw [List.length_map]; exact lb
    refine fun B hB => ?_
    have g1 := Same.new (o := .dK []) hB
    have eB1 : (L2.upd H B (.dK [])) B = some (.dK []) := upd_same
    have hp1 := hp.new (o := .dK []) hB
    have nBp := hp.ne hB
    generalize L2.upd H B (.dK []) = H1 at g1 eB1 hp1
    refine ⟨_, rfl, W, _, _, _, rfl, rfl, SqL.of (g1 _ _ hW), atI_nat (j := 0) rfl, b, kvs, rfl, .inl (g1 _ _ hb), fun S hS => ?_⟩
    rw [ek]
    have g2 := Same.new (o := .lst ((bk.map (·.1)).map V.str)) hS
    have eS2 : SL (L2.upd H1 S (.lst ((bk.map (·.1)).map V.str))) S (bk.map (·.1)) := upd_same
    have hp2 := hp1.new (o := .lst ((bk.map (·.1)).map V.str)) hS
    have nSp := hp1.ne hS
    have nBS : B ≠ S := ne_of_none eB1 hS
    generalize L2.upd H1 S (.lst ((bk.map (·.1)).map V.str)) = H2 at g2 eS2 hp2
    refine fun N hN => ?_
    have g3 := Same.new (o := .dT []) hN
    have eN3 : (L2.upd H2 N (.dT [])) N = some (.dT []) := upd_same
    have hp3 := hp2.new (o := .dT []) hN
    have nNp := hp2.ne hN
    have nBN : B ≠ N := ne_of_none (g2 _ _ eB1) hN
    have nSN : S ≠ N := ne_of_none eS2 hN
    have hN0 : H N = none := (Same.trans g1 g2).free hN
    generalize L2.upd H2 N (.dT []) = H3 at g3 eN3 hp3
    refine ⟨by show 3 ≤ sizeLine; decide, fun T0 hT0 => ⟨T0, _, rfl, SqT.of upd_same, rfl, _, _, rfl, _, _, rfl, _, _, rfl, rfl, ?_⟩⟩
    have g4 := Same.new (o := .tup [.ref B, .ref S, .ref N]) hT0
    have hp4 := hp3.new (o := .tup [.ref B, .ref S, .ref N]) hT0
    generalize L2.upd H3 T0 (.tup [.ref B, .ref S, .ref N]) = H4 at g4 hp4
    have s04 : Same H H4 := Same.trans (Same.trans g1 g2) (Same.trans g3 g4)
    have eB4 : H4 B = some (.dK []) := g4 _ _ (g3 _ _ (g2 _ _ eB1))
    have eS4 : SL H4 S (bk.map (·.1)) := g4 _ _ (g3 _ _ eS2)
    have eN4 : H4 N = some (.dT (NKf nm [])) := g4 _ _ eN3
    clear g1 g2 g3 g4 eB1 eS2 eN3 hp1 hp2 hp3 hT0 hN hS
    refine ⟨_, rfl, S, rfl, ⟨_, eS4.sq⟩, ?_⟩
    refine for_list (K := K) (a := S) (xs := (bk.map (·.1)).map V.str) (fun i σ H' => ∃ (v6 v7 : Option V), σ = [some (.ref p), some (.ref W), some (.int (n : Int)), some (.ref B), some (.ref S), some (.ref N), v6, v7, none, none, none, none, none, none] ∧ Same (cut [N] H4) (cut [N] H') ∧ H' N = some (.dT (NKf nm (pairsC ((bk.map (·.1)).take i) n))))
      ⟨none, none, rfl, Same.refl _, eN4⟩ (fun i σ H' _ ⟨_, _, _, z, _⟩ => SqL.of (cut_le _ _ (z S _ (by rw [cut_out (by simpa using nSN)]; exact eS4)))) ?_ ?_
    · rintro i x σ H5 hx ⟨v6, v7, rfl, s5, eN5⟩
      obtain ⟨sx, hs, rfl⟩ := D1.get_map hx
      have il : i < (bk.map (·.1)).length := (List.getElem?_eq_some_iff.mp hs).1
      refine ⟨_, rfl, (n : Int), rfl, by omega, by omega, ?_⟩
      refine for_range (n := (n : Int).toNat) (fun j σ H' => ∃ (v7 : Option V), σ = [some (.ref p), some (.ref W), some (.int (n : Int)), some (.ref B), some (.ref S), some (.ref N), some (.str sx), v7, none, none, none, none, none, none] ∧ Same (cut [N] H4) (cut [N] H') ∧ H' N = some (.dT (NKf nm (pairsC ((bk.map (·.1)).take i) n ++ (List.range j).map fun c => (sx, c)))))
        ⟨v7, rfl, s5, by rw [List.range_zero, List.map_nil, List.append_nil]; exact eN5⟩ ?_ ?_
      · rintro j σ H6 hj ⟨v7, rfl, s6, eN6⟩
        have lN : (NKf nm (pairsC ((bk.map (·.1)).take i) n ++ (List.range j).map fun c => (sx, c))).length = i * n + j := by
          rw [NKf, List.length_map, List.length_append, pairsC_len, List.length_map, List.length_range, List.length_take]
          rw [Nat.min_eq_left (Nat.le_of_lt il)]
        have lt6 : i * n + j < 6 := lt6_of il (nat_lt hj) h6
        refine ⟨_, rfl, N, _, rfl, eN6, i * n + j, by rw [lN]; rfl, by omega, ?_⟩
        rw [show (0 : Int) + (j : Int) = (j : Int) from Int.zero_add _]
        refine ⟨_, rfl, _, rfl, _, rfl, by show 2 ≤ sizeLine; decide, fun T1 hT1 => ?_⟩
        have g := Same.new (o := .tup ((kQ (sx, j)).map kV)) hT1
        have eT1 : (L2.upd H6 T1 (.tup ((kQ (sx, j)).map kV))) T1 = some (.tup ((kQ (sx, j)).map kV)) := upd_same
        have eN7 := g _ _ eN6
        refine ⟨N, _, rfl, DPut.t (k := kQ (sx, j)) eN7 eT1 (by rw [lN, sizeLine_eq]; omega), ?_⟩
        have fresh : (sx, j) ∉ pairsC ((bk.map (·.1)).take i) n ++ (List.range j).map fun c => (sx, c) := fun m => by
          rcases List.mem_append.mp m with m | m
          · exact nd_take snd hs (mem_pairsC.mp m).1
          · obtain ⟨c, hc, e⟩ := List.mem_map.mp m
            have e : c = j := (Prod.ext_iff.mp e).2
            have := List.mem_range.mp hc
            omega
        have en : nameP (i * n + j) = nm (sx, j) := (nm1 hs).symm
        rw [en, NKf_put fresh]
        refine ⟨_, rfl, by rw [cut_upd (by simp)]; exact Same.trans s6 (cut_same g), ?_⟩
        rw [upd_same, List.range_succ, List.map_append, ← List.append_assoc]; rfl
      · rintro σ H6 ⟨v7, rfl, s6, eN6⟩
        refine ⟨_, _, rfl, s6, ?_⟩
        rw [take_succ_get hs, pairsC_snoc]; exact eN6
    rintro σ H5 ⟨v6, v7, rfl, s45, eN5⟩
    rw [List.length_map, List.take_length] at eN5
    have s5 : ∀ {c : Addr} {u : HO}, c ≠ N → H4 c = some u → H5 c = some u := fun {c u} nc e => cut_le _ _ (s45 c u (by rw [cut_out (by simpa using nc)]; exact e))
    have s05 : Same H H5 := fun c u e => s5 (ne_of_none e hN0) (s04 _ _ e)
    have hp5 : Purse H5 p t := by
      obtain ⟨g, b', z, e, r⟩ := hp4
      exact ⟨g, b', z, s5 nNp.symm e, r⟩
    have eB5 := s5 nBN eB4
    have eS5 : SL H5 S (bk.map (·.1)) := s5 nSN eS4
    have sP : Same (cut [p] H) (cut [p, B] H5) := fun c u e => by
      obtain ⟨n1, e⟩ := cut_some e
      have n1 : c ≠ p := fun z => n1 (by simp [z])
      have n2 := ne_of_none e hB
      rw [cut_out (by simp [n1, n2])]; exact s05 _ _ e
    have cN5 : (cut [p, B] H5) N = some (.dT (NKf nm (pairsC (bk.map (·.1)) n))) := by rw [cut_out (by simp [nNp, nBN.symm])]; exact eN5
    have cS5 : SL (cut [p, B] H5) S (bk.map (·.1)) := by rw [SL, cut_out (by simp [nSp, nBS.symm])]; exact eS5
    clear s45 s5 eB4 eS4 eN4 hp4 s04
    refine ⟨_, rfl, S, rfl, ⟨_, eS5.sq⟩, ?_⟩
    refine for_list (K := K) (a := S) (xs := (bk.map (·.1)).map V.str) (fun i σ H' => ∃ (v6 v7 v8 v9 v10 v11 v12 : Option V) (cl : Bk) (kv' : List (Key × V)) (t' : Int), σ = [some (.ref p), some (.ref W), some (.int (n : Int)), some (.ref B), some (.ref S), some (.ref N), v6, v7, v8, v9, v10, v11, v12, none] ∧ Same (cut [p, B] H5) (cut [p, B] H') ∧ H' B = some (.dK kv') ∧ Rows (cut [p, B] H') kv' cl ∧
        cl.map (·.1) = (pairsC ((bk.map (·.1)).take i) n).map (nm) ∧ (∀ r ∈ cl, ROk ((pairsC (bk.map (·.1)) n).map (nm)) ws r) ∧ Purse H' p t' ∧ t' ≤ t + 13 * cl.length)
      ⟨_, _, none, none, none, none, none, [], [], t, rfl, Same.refl _, eB5, .nil, rfl, (fun r hr => by cases hr), hp5, by simp⟩ (fun i σ H' _ ⟨_, _, _, _, _, _, _, _, _, _, _, z, _⟩ => (SL.same (SL.same cS5 z) cut_le).sq) ?_ ?_
    · rintro i x σ H6 hx ⟨v6, v7, v8, v9, v10, v11, v12, cl, kv', t6, rfl, s6, hB6, hR6, en6, ro6, hp6, tt6⟩
      obtain ⟨sx, hs, rfl⟩ := D1.get_map hx
      have hsm := List.mem_of_getElem? hs
      have il : i < (bk.map (·.1)).length := (List.getElem?_eq_some_iff.mp hs).1
      have sW := Same.trans sP s6
      have wa6 : WorldAt H6 W bk st := (wa.same sW).same cut_le
      have hW6 := cut_le _ _ (sW _ _ hWc)
      have hb6 := cut_le _ _ (sW _ _ hbc)
      have hR := hRc.same sW
      obtain ⟨v, ev, ⟨t1', a1, rfl, ht1, h1⟩, m1⟩ := hR.look hsm
      refine ⟨_, rfl, W, _, _, _, rfl, rfl, SqL.of hW6, atI_nat (j := 0) rfl, _, rfl, b, _, rfl, .inl ⟨kvs, .inr sx, .inl hb6, rfl, ev.symm⟩, t1', _, rfl, SqT.of (cut_le _ _ ht1), rfl, _, _, rfl, _, _, rfl, rfl, ?_⟩
      refine ⟨_, rfl, _, rfl, W, bk, st, sx, rfl, wa6, ok, hsm, fun H7 Gd gd g7 nG hG ndg gin => ?_⟩
      have s7 : Same (cut [p, B] H6) (cut [p, B] H7) := cut_same g7
      have h17 := h1.same s7
      have nGp := hp6.ne nG
      have nGB : Gd ≠ B := fun e => by rw [e, hB6] at nG; cases nG
      have cG7 : SL (cut [p, B] H7) Gd gd := by rw [SL, cut_out (by simp [nGp, nGB])]; exact hG
      have rowk := (rof _ m1).2
      have ndt : ((rowOf bk sx).2.map (·.1)).Nodup := ok.tk _ m1
      have form : RForm (rowOf bk sx).1 (rowOf bk sx).2 := (ok.rs _ m1).2.1
      have tin : ∀ x ∈ (rowOf bk sx).2.map (·.1), x ∈ ws ∧ goalT (rowOf bk sx).2 x ∈ bk.map (·.1) := fun x hx => by
        refine ⟨?_, ok.toBWf.goal hsm ndt hx⟩
        rcases rowk with ⟨_, e⟩ | ⟨_, _, tok⟩
        · have e : (rowOf bk sx).2 = [] := e
          rw [e] at hx; cases hx
        · obtain ⟨t, ht, e⟩ := List.mem_map.mp hx
          rw [← e]; exact tok.ks t ht
      have l6 : ((rowOf bk sx).2.map (·.1)).length ≤ 6 := Nat.le_trans (pigeon _ ws ndt fun x hx => (tin x hx).1) wok.hi
      have ekt : (kT (rowOf bk sx).2).map (fun kv => kV kv.1) = ((rowOf bk sx).2.map (·.1)).map V.str := by rw [kT, List.map_map, List.map_map]; rfl
      refine ⟨_, rfl, (n : Int), rfl, by omega, by omega, ?_⟩
      refine for_range (n := (n : Int).toNat) (fun j σ H' => ∃ (v7 v11 v12 : Option V) (cl : Bk) (kv' : List (Key × V)) (t' : Int), σ = [some (.ref p), some (.ref W), some (.int (n : Int)), some (.ref B), some (.ref S), some (.ref N), some (.str sx), v7, some (.str (rowOf bk sx).1), some (.ref a1), some (.ref Gd), v11, v12, none] ∧ Same (cut [p, B] H7) (cut [p, B] H') ∧ H' B = some (.dK kv') ∧ Rows (cut [p, B] H') kv' cl ∧
          cl.map (·.1) = (pairsC ((bk.map (·.1)).take i) n ++ (List.range j).map fun c => (sx, c)).map (nm) ∧ (∀ r ∈ cl, ROk ((pairsC (bk.map (·.1)) n).map (nm)) ws r) ∧ Purse H' p t' ∧ t' ≤ t + 13 * cl.length)
        ?_ ?_ ?_
      · refine ⟨_, _, _, cl, kv', t6, rfl, ?_⟩
        exact ⟨Same.refl _, g7 _ _ hB6, hR6.same s7, by rw [List.range_zero, List.map_nil, List.append_nil]; exact en6, ro6, hp6.same g7, tt6⟩
      · rintro j σ H8 hj ⟨v7, v11, v12, cl, kv', t8, rfl, s8, hB8, hR8, en8, ro8, hp8, tt8⟩
        rw [show (0 : Int) + (j : Int) = (j : Int) from Int.zero_add _]
        have lcl : cl.length = i * n + j := by
          have := congrArg List.length en8
          rw [List.length_map, List.length_map, List.length_append, pairsC_len, List.length_map, List.length_range, List.length_take, Nat.min_eq_left (Nat.le_of_lt il)] at this
          exact this
        have lt6 : i * n + j < 6 := lt6_of il (nat_lt hj) h6
        have h18 := h17.same s8
        have h18a : TurnsAt H8 a1 (rowOf bk sx).2 := cut_le _ _ h18
        refine ⟨_, rfl, a1, kT (rowOf bk sx).2, rfl, .inl h18a, fun L hL => ?_⟩
        rw [ekt]
        have nLp := hp8.ne hL
        have nLB : L ≠ B := fun e => by rw [e, hB8] at hL; cases hL
        have g9 := Same.new (o := .lst (((rowOf bk sx).2.map (·.1)).map V.str)) hL
        have eL9 : SL (L2.upd H8 L (.lst (((rowOf bk sx).2.map (·.1)).map V.str))) L ((rowOf bk sx).2.map (·.1)) := upd_same
        have hp9 := hp8.new (o := .lst (((rowOf bk sx).2.map (·.1)).map V.str)) hL
        generalize L2.upd H8 L (.lst (((rowOf bk sx).2.map (·.1)).map V.str)) = H9 at g9 eL9 hp9
        have cG9 : SL H9 Gd gd := cut_le _ _ ((cG7.same s8).same (cut_same g9))
        refine ⟨p, W, B, S, N, a1, Gd, L, _, _, _, sx, _, _, gd, t8, rfl, hp9, cG9, nGp, eL9, nLp, ndg, gin, ndt, l6, fun x hx => wok.wd x (tin x hx).1, by omega, fun H10 L' us t10 b10 nL' hL' ndu uin une hp10 tt10 => ?_⟩
        have nL'p : L' ≠ p := nL'.elim (fun n => hp9.ne n) fun e => e ▸ nLp
        have hB10 := b10 _ _ nBp (g9 _ _ hB8)
        have s10 : Same (cut [p, B] H8) (cut [p, B] H10) := Same.trans (cut_same g9) (cut_but b10 (by simp))
        have sH10 := Same.trans s8 s10
        have h110 : TurnsAt H10 a1 (rowOf bk sx).2 := cut_le _ _ (h18.same s10)
        have na1p : a1 ≠ p := fun e => by have := (h18.same s10); rw [TurnsAt, e, cut_in (by simp)] at this; cases this
        have cN10 := sH10 _ _ (s7 _ _ (s6 _ _ cN5))
        have hN10 := cut_le _ _ cN10
        have lu : us.length ≤ 6 := Nat.le_trans (pigeon us _ ndu uin) l6
        refine ⟨_, rfl, L', rfl, ⟨_, hL'.sq⟩, fun M hM => ?_⟩
        have nMp := hp10.ne hM
        have nML' : L' ≠ M := ne_of_none hL' hM
        have nMB : M ≠ B := fun e => by rw [e, hB10] at hM; cases hM
        refine lc_list (K := K) (a := L') (xs := us.map V.str) (fun i H' => ∃ (ps : List Addr) (ts : List (Str × Str)) (t' : Int), But p H10 H' ∧ H' M = some (.lst (ps.map V.ref)) ∧ Paired (fun a (kv : Key × V) => (cut [p, M] H') a = some (.tup [kV kv.1, kv.2])) ps (kT ts) ∧ ts.map (·.1) = us.take i ∧ (∀ t ∈ ts, t.2 ∈ (pairsC (bk.map (·.1)) n).map (nm)) ∧ Purse H' p t' ∧ t' ≤ t10 + i)
          ⟨[], [], t10, But.new hM, upd_same, .nil, rfl, (fun t ht => by cases ht), hp10.new hM, by omega⟩ (fun i H' _ ⟨_, _, _, z, _⟩ => SqL.of (z _ _ nL'p hL')) ?_ ?_
        · rintro i2 x H11 hx ⟨ps, ts, t11, b11, hM11, hps, ets, tin2, hp11, tt11⟩
          obtain ⟨wd, hw, rfl⟩ := D1.get_map hx
          have li2 : i2 < us.length := (List.getElem?_eq_some_iff.mp hw).1
          obtain ⟨_, gin2⟩ := tin wd (uin wd (List.mem_of_getElem? hw))
          have hw1 := uin wd (List.mem_of_getElem? hw)
          refine ⟨rfl, ?_⟩
          dsimp only [tYes]
          rw [if_pos rfl]
          refine ⟨_, rfl, _, rfl, _, rfl, _, rfl, a1, _, rfl, .inl ⟨kT (rowOf bk sx).2, .inr wd, .inl (b11 _ _ na1p h110), rfl, (valV_goal hw1).symm⟩, _, rfl, _, rfl, p, _, t11, rfl, hp11, by omega, by omega, by omega, fun r t12 o12 r0 r1 tt12 hp12 => ⟨by show 2 ≤ sizeLine; decide, fun T1 hT1 => ?_⟩⟩
          obtain ⟨c, rfl⟩ := Int.eq_ofNat_of_zero_le r0
          have b12 := b11.trans (But.upd p H11 o12)
          have hM12 : (L2.upd H11 p o12) M = some (.lst (ps.map V.ref)) := by rw [upd_ne nMp]; exact hM11
          have c12 : cut [p, M] (L2.upd H11 p o12) = cut [p, M] H11 := cut_upd (by simp)
          rw [← c12] at hps
          generalize L2.upd H11 p o12 = H12 at b12 hM12 hps hp12 hT1
          have g1 := Same.new (o := .tup ((kQ (goalT (rowOf bk sx).2 wd, c)).map kV)) hT1
          have eT1 : (L2.upd H12 T1 (.tup ((kQ (goalT (rowOf bk sx).2 wd, c)).map kV))) T1 = some (.tup ((kQ (goalT (rowOf bk sx).2 wd, c)).map kV)) := upd_same
          have hp13 := hp12.new (o := .tup ((kQ (goalT (rowOf bk sx).2 wd, c)).map kV)) hT1
          have qm : (goalT (rowOf bk sx).2 wd, c) ∈ pairsC (bk.map (·.1)) n := mem_pairsC.mpr ⟨gin2, by
            have r1 : (c : Int) < (n : Int) := r1
            omega⟩
          have dgN : DGet (L2.upd H12 T1 (.tup ((kQ (goalT (rowOf bk sx).2 wd, c)).map kV))) N (.ref T1) (some (.str (nm (goalT (rowOf bk sx).2 wd, c)))) := by
            rw [← NKf_val qm]; exact DGet.t (g1 _ _ (b12 _ _ nNp hN10)) eT1
          refine ⟨N, _, rfl, dgN, by show 2 ≤ sizeLine; decide, fun T2 hT2 => ?_⟩
          have g2 := Same.new (o := .tup [.str wd, .str (nm (goalT (rowOf bk sx).2 wd, c))]) hT2
          have g := Same.trans g1 g2
          have nT2p := hp13.ne hT2
          have nT2M : T2 ≠ M := (ne_of_none (g1 _ _ hM12) hT2).symm
          have lps : ps.length = i2 := by
            rw [paired_len hps, kT, List.length_map, ← List.length_map (·.1), ets, List.length_take]; omega
          refine ⟨_, g _ _ hM12, by rw [List.length_map, lps, sizeLine_eq]; omega, ps ++ [T2], ts ++ [(wd, nm (goalT (rowOf bk sx).2 wd, c))], t12, fun q u nq e => ?_, by rw [upd_same, List.map_append]; rfl, ?_, ?_, fun t ht => ?_, ((hp12.same g)).upd nMp.symm, by omega⟩
          · rw [upd_ne (ne_of_none e hM)]; exact g _ _ (b12 _ _ nq e)
          · rw [cut_upd (by simp), kT, List.map_append]
            have hp' := paired_imp (fun p' (kv : Key × V) (e : (cut [p, M] H12) p' = some (.tup [kV kv.1, kv.2])) => cut_same g _ _ e) hps
            exact pair_app hp' (by rw [cut_out (by simp [nT2p, nT2M])]; exact upd_same)
          · rw [List.map_append, ets, take_succ_get hw]; rfl
          · rcases List.mem_append.mp ht with z | z
            · exact tin2 t z
            · rw [List.mem_singleton.mp z]; exact List.mem_map_of_mem qm
        rintro H11 ⟨ps, ts, t11, b11, hM11, hps, ets, tin2, hp11, tt11⟩
        rw [List.length_map, List.take_length] at ets
        rw [List.length_map] at tt11
        have hp3 : Paired (fun p' (kv : Key × V) => SqT K H11 p' [kV kv.1, kv.2]) ps (kT ts) := paired_imp (fun p' kv e => SqT.of (cut_le _ _ e)) hps
        have ndts : (ts.map (·.1)).Nodup := by rw [ets]; exact ndu
        refine ⟨M, ps, kT ts, rfl, SqL.of hM11, hp3, fun Dg hDg => ?_⟩
        rw [merge_id2 (by rw [kT_keys]; exact inr_nd' ndts)]
        have nDp := hp11.ne hDg
        have hB11 := b11 _ _ nBp hB10
        have nDB : Dg ≠ B := fun e => by rw [e, hB11] at hDg; cases hDg
        have gD := Same.new (o := .dK (kT ts)) hDg
        have eD : TurnsAt (L2.upd H11 Dg (.dK (kT ts))) Dg ts := upd_same
        have hp12 := hp11.new (o := .dK (kT ts)) hDg
        generalize L2.upd H11 Dg (.dK (kT ts)) = H12 at gD eD hp12
        intro Td hTd
        refine ⟨upd_same, kT thT, rfl, by show 3 ≤ 15; decide, ?_⟩
        rw [merge_id2 (by rw [kT_keys]; exact inr_nd' thT_nd), updd2]
        have gT := Same.new (o := .dK (kT thT)) hTd
        have eTd : TurnsAt (L2.upd H12 Td (.dK (kT thT))) Td thT := upd_same
        generalize L2.upd H12 Td (.dK (kT thT)) = H13 at gT eTd
        have s1113 := Same.trans gD gT
        have hp13 := hp12.same gT
        refine ⟨_, rfl, Td, _, rfl, .inl ⟨kT thT, .inr (rowOf bk sx).1, .inl eTd, rfl, (thT_goal form).symm⟩, _, rfl, by show 2 ≤ sizeLine; decide, fun T3 hT3 => ?_⟩
        have g3 := Same.new (o := .tup [.str (flipK (rowOf bk sx).1), .ref Dg]) hT3
        have eT3 : (L2.upd H13 T3 (.tup [.str (flipK (rowOf bk sx).1), .ref Dg])) T3 = some (.tup [.str (flipK (rowOf bk sx).1), .ref Dg]) := upd_same
        have nT3p := hp13.ne hT3
        have nT3B : T3 ≠ B := fun e => by rw [e, s1113 _ _ hB11] at hT3; cases hT3
        have hp14 := hp13.new (o := .tup [.str (flipK (rowOf bk sx).1), .ref Dg]) hT3
        generalize L2.upd H13 T3 (.tup [.str (flipK (rowOf bk sx).1), .ref Dg]) = H14 at g3 eT3 hp14
        refine ⟨_, rfl, _, rfl, _, rfl, _, rfl, by show 2 ≤ sizeLine; decide, fun T4 hT4 => ?_⟩
        have g4 := Same.new (o := .tup ((kQ (sx, j)).map kV)) hT4
        have eT4 : (L2.upd H14 T4 (.tup ((kQ (sx, j)).map kV))) T4 = some (.tup ((kQ (sx, j)).map kV)) := upd_same
        have hp15 := hp14.new (o := .tup ((kQ (sx, j)).map kV)) hT4
        have s15 := Same.trans s1113 (Same.trans g3 g4)
        have qm : (sx, j) ∈ pairsC (bk.map (·.1)) n := mem_pairsC.mpr ⟨hsm, nat_lt hj⟩
        have dgN : DGet (L2.upd H14 T4 (.tup ((kQ (sx, j)).map kV))) N (.ref T4) (some (.str (nm (sx, j)))) := by
          rw [← NKf_val qm]; exact DGet.t (s15 _ _ (b11 _ _ nNp hN10)) eT4
        have lkv : kv'.length ≤ 6 := by rw [hR8.len, lcl]; exact Nat.le_of_lt lt6
        refine ⟨N, _, rfl, dgN, B, _, rfl, DPut.k (kvs := kv') (k := Sum.inr (nm (sx, j))) (s15 _ _ hB11) (sz6 lkv), ?_⟩
        have fresh : nm (sx, j) ∉ cl.map (·.1) := fun m => by
          rw [en8] at m
          obtain ⟨q, hq, e⟩ := List.mem_map.mp m
          have qin : q ∈ pairsC (bk.map (·.1)) n := by
            rcases List.mem_append.mp hq with z | z
            · obtain ⟨z1, z2⟩ := mem_pairsC.mp z
              exact mem_pairsC.mpr ⟨List.mem_of_mem_take z1, z2⟩
            · obtain ⟨c, hc, rfl⟩ := List.mem_map.mp z
              exact mem_pairsC.mpr ⟨hsm, Nat.lt_trans (List.mem_range.mp hc) (nat_lt hj)⟩
          have := nm3 _ _ qin qm e
          subst this
          rcases List.mem_append.mp hq with z | z
          · exact nd_take snd hs (mem_pairsC.mp z).1
          · obtain ⟨c, hc, e⟩ := List.mem_map.mp z
            have e : c = j := (Prod.ext_iff.mp e).2
            exact absurd (e ▸ List.mem_range.mp hc) (Nat.lt_irrefl _)
        have sE : Same (cut [p, B] H8) (cut [p, B] (L2.upd H14 T4 (.tup ((kQ (sx, j)).map kV)))) := Same.trans s10 (Same.trans (cut_but b11 (by simp)) (cut_same s15))
        rw [D1.putK_new (hR8.fresh fresh)]
        refine ⟨_, _, _, cl ++ [(nm (sx, j), flipK (rowOf bk sx).1, ts)], _, t11, rfl, by rw [cut_upd (by simp)]; exact Same.trans s8 sE, upd_same, ?_, ?_, fun r hr => ?_, hp15.upd nBp.symm, by rw [List.length_append]; exact tt_of tt8 tt10 tt11 lu⟩
        · rw [cut_upd (by simp)]
          refine (hR8.same sE).app ⟨T3, Dg, rfl, ?_, ?_⟩
          · rw [cut_out (by simp [nT3p, nT3B])]; exact g4 _ _ eT3
          · rw [TurnsAt, cut_out (by simp [nDp, nDB])]; exact g4 _ _ (g3 _ _ (gT _ _ eD))
        · rw [List.map_append, en8, List.range_succ]; simp only [List.map_append, List.map_cons, List.map_nil, List.append_assoc]
        · rcases List.mem_append.mp hr with z | z
          · exact ro8 r z
          · rw [List.mem_singleton.mp z]
            refine ⟨nm2 _ qm, ?_⟩
            rcases rowk with ⟨e1, e2⟩ | ⟨kk, tne, tok⟩
            · have e1 : (rowOf bk sx).1 = "done" := e1
              have e2 : (rowOf bk sx).2 = [] := e2
              left
              refine ⟨by show flipK (rowOf bk sx).1 = "done"; rw [e1]; decide +kernel, ?_⟩
              have : us = [] := List.eq_nil_iff_forall_not_mem.mpr fun x hx => by have := uin x hx; rw [e2] at this; cases this
              rw [this] at ets
              exact List.map_eq_nil_iff.mp ets
            · right
              have tne : (rowOf bk sx).2 ≠ [] := tne
              refine ⟨?_, fun e => ?_, ⟨ndts, fun t ht => ?_, tin2⟩⟩
              · rcases kk with kk | kk
                · have kk : (rowOf bk sx).1 = "says" := kk
                  right; show flipK (rowOf bk sx).1 = "hears"; rw [kk]; decide +kernel
                · have kk : (rowOf bk sx).1 = "hears" := kk
                  left; show flipK (rowOf bk sx).1 = "says"; rw [kk]; decide +kernel
              · have e : ts = [] := e
                rw [e] at ets
                exact une (fun z => tne (List.map_eq_nil_iff.mp z)) ets.symm
              · have : t.1 ∈ us := by rw [← ets]; exact List.mem_map_of_mem ht
                exact (tin _ (uin _ this)).1
      · rintro σ H8 ⟨v7, v11, v12, cl, kv', t8, rfl, s8, hB8, hR8, en8, ro8, hp8, tt8⟩
        refine ⟨_, _, _, _, _, _, _, cl, kv', t8, rfl, Same.trans s6 (Same.trans s7 s8), hB8, hR8, ?_, ro8, hp8, tt8⟩
        rw [take_succ_get hs, pairsC_snoc]; exact en8
    · rintro σ H6 ⟨v6, v7, v8, v9, v10, v11, v12, cl, kv', t6, rfl, s6, hB6, hR6, en6, ro6, hp6, tt6⟩
      rw [List.length_map, List.take_length] at en6
      have sW := Same.trans sP s6
      have hW6 := cut_le _ _ (sW _ _ hWc)
      refine ⟨_, rfl, _, rfl, _, rfl, W, _, _, _, rfl, rfl, SqL.of hW6, atI_nat (j := 1) rfl, by show 2 ≤ sizeLine; decide, fun T1 hT1 => ?_⟩
      have g1 := Same.new (o := .tup ((kQ (st, 0)).map kV)) hT1
      have eT1 : (L2.upd H6 T1 (.tup ((kQ (st, 0)).map kV))) T1 = some (.tup ((kQ (st, 0)).map kV)) := upd_same
      have hp7 := hp6.new (o := .tup ((kQ (st, 0)).map kV)) hT1
      have qm : (st, 0) ∈ pairsC (bk.map (·.1)) n := mem_pairsC.mpr ⟨stm, n1⟩
      have dgN : DGet (L2.upd H6 T1 (.tup ((kQ (st, 0)).map kV))) N (.ref T1) (some (.str (nm (st, 0)))) := by
        rw [← NKf_val qm]; exact DGet.t (g1 _ _ (cut_le _ _ (s6 _ _ cN5))) eT1
      refine ⟨N, _, rfl, dgN, by show 2 ≤ sizeLine; decide, fun R hR => ?_⟩
      have nRp := hp7.ne hR
      have g2 := Same.new (o := .lst [.ref B, .str (nm (st, 0))]) hR
      have g := Same.trans g1 g2
      have bF : But p H H6 := fun c u nc e => by
        have := cut_le _ _ (sP c u (by rw [cut_out (by simpa using nc)]; exact e))
        exact cut_le _ _ (s6 c u (sP c u (by rw [cut_out (by simpa using nc)]; exact e)))
      have lcl : cl.length ≤ 6 := by
        have := congrArg List.length en6
        rw [List.length_map, List.length_map, pairsC_len] at this
        rw [this, Nat.mul_comm]; exact h6
      have bF2 : But p H (L2.upd H6 T1 (.tup ((kQ (st, 0)).map kV))) := bF.newt hT1
      refine k _ R cl (nm (st, 0)) t6 (bF2.newt hR) (bF2.fr hR nRp) ⟨B, by rw [cut_out (by simpa using nRp)]; exact upd_same, kv', ?_, ?_⟩ ?_ (hp7.new hR) (by omega)
      · rw [cut_out (by simpa using nBp)]; exact g _ _ hB6
      · exact hR6.same (Same.trans (cut_mono (by simp)) (cut_same g))
      · refine ⟨by rw [en6]; exact nm4, fun r hr => by rw [en6]; exact ro6 r hr, by rw [en6]; exact List.mem_map_of_mem qm, lcl⟩
end
end D1
end L2
namespace L2
namespace D1
open PySem PySem.Spec PyProof.Rows D2 X5 X6
abbrev sTwo : Stmt := top 56
def spTwo : Sp := fun vs H Q _ => ∃ (p : Addr) (t : Int), vs = [.ref p] ∧ Purse H p t ∧ t < 2 ^ 23 ∧
  ∀ (H' : Hp) (R A B L : Addr) (bk cl : Bk) (st st' : Str) (ws : List Str) (t' : Int), But p H H' → TriAt (cut [p] H') R A B L bk cl st st' ws → WF bk st ws → WF cl st' ws → WsOk ws → Purse H' p t' → t' ≤ t + 6000 → Q (.ref R) H'
/-- the third way, or on -/
def tTrd : TS := fun D σ H => ∃ (p W L : Addr) (way : Int) (bk : Bk) (st : Str) (ws : List Str) (t : Int), σ = [some (.ref p), some (.ref W), some (.ref L), some (.int way)] ∧ Purse H p t ∧ WorldAt (cut [p] H) W bk st ∧ SL H L ws ∧ L ≠ p ∧ WF bk st ws ∧ WsOk ws ∧ t < 2 ^ 24 ∧
  (∀ (H' : Hp) (B : Addr) (cl : Bk) (st' : Str) (t' : Int), But p H H' → WorldAt (cut [p] H') B cl st' → WF cl st' ws → Purse H' p t' → t' ≤ t + 1000 → ∀ R, H' R = none → D.rt (.ref R) (L2.upd H' R (.lst [.ref W, .ref B, .ref L]))) ∧ D.nx σ H
section
variable {P : Program} {w : World} {K : PySem.W.Frag} {mg : Str → Option Value} {base : Heap}
abbrev CPart (P : Program) (w : World) (K : PySem.W.Frag) (mg : Str → Option Value) (base : Heap) := Cal P w K mg base "_law_partner" 4 ["_law_purse_here", "_law_world_here", "_law_copies"] spPart
abbrev CLTurned (P : Program) (w : World) (K : PySem.W.Frag) (mg : Str → Option Value) (base : Heap) := Cal P w K mg base "_law_turned" 1 ["_law_world_here"] spLTurned
abbrev CNewer (P : Program) (w : World) (K : PySem.W.Frag) (mg : Str → Option Value) (base : Heap) := Cal P w K mg base "_law_newer" 5 ["_law_purse_here", "_law_world_here", "_law_words_here", "_law_times"] spNewer
abbrev CEnded (P : Program) (w : World) (K : PySem.W.Frag) (mg : Str → Option Value) (base : Heap) := Cal P w K mg base "_law_ended" 5 ["_law_purse_here", "_law_world_here"] spEnded
abbrev CRound (P : Program) (w : World) (K : PySem.W.Frag) (mg : Str → Option Value) (base : Heap) := Cal P w K mg base "_law_round_two" 5 ["_law_purse_here"] spRound
abbrev CSafer (P : Program) (w : World) (K : PySem.W.Frag) (mg : Str → Option Value) (base : Heap) := Cal P w K mg base "_law_safer" 5 ["_law_purse_here", "_law_world_here", "_law_words_here"] spSafer
abbrev twN : List Str := ["_law_purse_here", "_law_world_here", "_law_words_here", "_law_way"]
theorem scTwo : FnScope twN ["_law_purse_here"] (defScope sTwo) := ⟨rfl, rfl, rfl, by decide +kernel, rfl, by decide +kernel, by decide +kernel⟩
theorem ok_two {f : Addr} {fd : FuncData} (F : Fun K "_law_two" "_law_two" sTwo f fd) (T : Free3 mg) (CD : CDraw P w K mg base) (CR : CRow P w K mg base) (CP : CPart P w K mg base) (CT : CLTurned P w K mg base) (CN : CNewer P w K mg base) (CW : CWorld P w K mg base) (CE : CEnded P w K mg base) (CO : CRound P w K mg base) (CS : CSafer P w K mg base) : FnOk P w K mg base CX0 7 f fd ["_law_purse_here"] spTwo := by
  refine F.ok scTwo (fun vs H Q E h => ?_) (fun cdv A outer s H vs Q E0' hr h => ?_)
  · obtain ⟨p, t, rfl, _⟩ := h; rfl
  · obtain ⟨p, t, rfl, hp, t1, k⟩ := h
    have hu := hu_of hr
    refine ⟨_, pss_cons (ps_if (pt_cmpR op_eq (pe_cal CD (hr.mono (by decide)) rfl (pa_cons (pv 0) (pa_cons pe_int pa_nil))) pe_int (nomark _)) (pss_one (ps_ret (pe_cal CO (hr.mono (by decide)) rfl (pa_cons (pv 0) pa_nil)))) pss_nil)
      (pss_cons (ps_asg (pe_cal CR (hr.mono (by decide)) rfl (pa_cons (pv 0) (pa_cons pe_int pa_nil))) (pg_lst rfl (pgs_cons (pg_name (i := 1) scTwo.nd rfl (Or.inl rfl)) (pgs_cons (pg_name (i := 2) scTwo.nd rfl (Or.inl rfl)) pgs_nil))))
      (pss_cons (ps_set (i := 1) scTwo.nd rfl (Or.inl rfl) (pe_cal CE (hr.mono (by decide)) rfl (pa_cons (pv 0) (pa_cons (pv 1) pa_nil))))
      (pss_cons (ps_set (i := 3) scTwo.nd rfl (Or.inl rfl) (pe_cal CD (hr.mono (by decide)) rfl (pa_cons (pv 0) (pa_cons pe_int pa_nil))))
      (pss_cons (ps_if (pt_cmpR op_lt (pv 3) pe_int (nomark _)) (pss_one (ps_ret (pe_lst (pa_cons (pv 1) (pa_cons (pe_cal CS (hr.mono (by decide)) rfl (pa_cons (pv 0) (pa_cons (pv 1) (pa_cons (pv 2) pa_nil)))) (pa_cons (pv 2) pa_nil)))))) pss_nil)
      (pss_cons (ps_if (pt_cmpR op_eq (pv 3) pe_int (nomark _)) (pss_one (ps_ret (pe_lst (pa_cons (pv 1) (pa_cons (pe_cal CN (hr.mono (by decide)) rfl (pa_cons (pv 0) (pa_cons (pv 1) (pa_cons (pv 2) (pa_cons (pe_op op_add pe_int (pe_cal CD (hr.mono (by decide)) rfl (pa_cons (pv 0) (pa_cons pe_int pa_nil)))) pa_nil))))) (pa_cons (pv 2) pa_nil)))))) pss_nil)
      (pss_cons (ps_imp (t' := tTrd) (ps_if (PW.pt (pw_and (pt_cmpR op_eq (pv 3) pe_int (nomark _)) (pw_and1 (pt_cmpR op_lt (pe_callB call_lenD (by rfl) T.len PySem.boot_len (pa_cons (pe_ix ix_list (pv 1) pe_int (fun _ _ => rfl)) pa_nil)) pe_int (nomark _)))))
          (pss_one (ps_ret (pe_lst (pa_cons (pv 1) (pa_cons (pe_cal CT (hr.mono (by decide)) rfl (pa_cons (pe_cal CP (hr.mono (by decide)) rfl (pa_cons (pv 0) (pa_cons (pv 1) (pa_cons (pe_ifExp (pt_cmpR op_lt (pe_callB call_lenD (by rfl) T.len PySem.boot_len (pa_cons (pe_ix ix_list (pv 1) pe_int (fun _ _ => rfl)) pa_nil)) pe_int (nomark _)) pe_int pe_int) pa_nil)))) pa_nil)) (pa_cons (pv 2) pa_nil)))))) pss_nil) ?third)
      (pss_cons (ps_if (pt_cmpR op_eq (pv 3) pe_int (nomark _)) (pss_one (ps_ret (pe_lst (pa_cons (pv 1) (pa_cons (pe_cal CN (hr.mono (by decide)) rfl (pa_cons (pv 0) (pa_cons (pe_cal CS (hr.mono (by decide)) rfl (pa_cons (pv 0) (pa_cons (pv 1) (pa_cons (pv 2) pa_nil)))) (pa_cons (pv 2) (pa_cons pe_int pa_nil))))) (pa_cons (pv 2) pa_nil)))))) pss_nil)
      (pss_one (ps_ret (pe_lst (pa_cons (pv 1) (pa_cons (pe_ifExp (pt_cmpR op_eq (pv 3) pe_int (nomark _)) (pe_cal CW (hr.mono (by decide)) rfl (pa_cons (pv 0) (pa_cons (pe_op op_add pe_int (pe_cal CD (hr.mono (by decide)) rfl (pa_cons (pv 0) (pa_cons pe_int pa_nil)))) (pa_cons (pv 2) (pa_cons pe_int pa_nil))))) (pv 1)) (pa_cons (pv 2) pa_nil))))))))))))), ?_⟩
    case third =>
      rintro D σ H ⟨p, W, L, way, bk, st, ws, t, rfl, hp, hW, hL, nL, wf, wok, t1, kr, kn⟩
      obtain ⟨b, eW, kvs, eb, hR⟩ := id hW
      have lk : kvs.length = bk.length := hR.len
      have lb1 : 1 ≤ bk.length := List.length_pos_iff.mpr (wf.dok wok).ne
      refine ⟨_, rfl, rfl, _, rfl, ite2 (fun _ => ⟨_, rfl, W, _, _, _, rfl, rfl, SqL.of (cut_le _ _ eW), atI_nat (j := 0) rfl, b, kvs, rfl, cut_le _ _ eb, _, _, rfl, rfl, _, rfl, ite2 (fun c4 => ?_) (fun _ => kn)⟩) (fun _ => iteF kn)⟩
      have c5 : (kvs.length : Int) < 4 := of_decide_eq_true c4
      refine ⟨_, rfl, _, rfl, _, rfl, _, rfl, W, _, _, _, rfl, rfl, SqL.of (cut_le _ _ eW), atI_nat (j := 0) rfl, b, kvs, rfl, cut_le _ _ eb, _, _, rfl, rfl, _, rfl, (if_pos c4).mpr ?_⟩
      refine ⟨p, W, bk, st, ws, 2, t, rfl, hp, hW, wf, wok, by decide, by omega, by omega, fun H4 B cl st2 t4 b4 nB hB wf2 hp4 tt4 => ?_⟩
      refine ⟨B, cl, st2, rfl, hB.same cut_le, wf2.dok wok, fun H5 R5 g5 nR5 hR5 => ?_⟩
      have hp5 := hp4.same g5
      exact ⟨_, rfl, by show 3 ≤ sizeLine; decide, kr H5 R5 _ st2 t4 (b4.trans (But.of g5)) (world_cut hR5 hp5) wf2.turn hp5 (by omega)⟩
    refine ⟨_, rfl, p, 8, t, rfl, hp, by decide, by decide, by omega, fun r0 t0 o0 z0 z1 tt0 hp0 => ?_⟩
    have b0 := But.upd p H o0
    generalize L2.upd H p o0 = H0 at b0 hp0
    refine ⟨rfl, _, rfl, ite2 (fun _ => ⟨_, rfl, p, t0, rfl, hp0, by omega, fun H' R A B L bk cl st st' ws t' bb tri w1 w2 wo hp' tt' => k H' R A B L bk cl st st' ws t' (b0.trans bb) tri w1 w2 wo hp' (by omega)⟩) (fun _ => ?_)⟩
    refine ⟨_, rfl, p, 6, t0, rfl, hp0, by decide, by decide, by omega, fun H1 R0 bk0 st0 ws t1' b1 hR0 wf0 wok hp1 tt1 => ?_⟩
    obtain ⟨W0, L, hRl, hW0, hL⟩ := hR0
    have nL : L ≠ p := fun e => by rw [SL, e, cut_in (by simp)] at hL; cases hL
    refine ⟨R0, _, rfl, SqL.of (cut_le _ _ hRl), rfl, _, _, rfl, _, _, rfl, rfl, ?_⟩
    refine ⟨_, rfl, _, rfl, p, W0, bk0, st0, ws, t1', rfl, hp1, hW0, wf0, wok, by omega, fun H2 W st t2 b2 hW wf hp2 tt2 => ?_⟩
    generalize bk0 = bk at hW wf
    have hL1 : SL H1 L ws := cut_le _ _ hL
    refine ⟨_, rfl, p, 6, t2, rfl, hp2, by decide, by decide, by omega, fun way t3 o3 y0 y1 tt3 hp3 => ?_⟩
    have b3 := b2.trans (But.upd p H2 o3)
    have hW3 : WorldAt (cut [p] (L2.upd H2 p o3)) W bk st := by rw [cut_upd (by simp)]; exact hW
    generalize L2.upd H2 p o3 = H3 at b3 hW3 hp3
    have hL3 : SL H3 L ws := b3 _ _ nL hL1
    have b03 : But p H H3 := b0.trans (b1.trans b3)
    have fin : ∀ {H4 : Hp} {B : Addr} {cl : Bk} {st' : Str} {t4 : Int}, But p H3 H4 → WorldAt (cut [p] H4) B cl st' → WF cl st' ws → Purse H4 p t4 → t4 ≤ t3 + 1000 → ∀ R, H4 R = none → Q (.ref R) (L2.upd H4 R (.lst [.ref W, .ref B, .ref L])) := fun {H4 B cl st' t4} b4 hB wf2 hp4 tt4 R hR => by
      have nRp := hp4.ne hR
      have g := Same.new (o := .lst [.ref W, .ref B, .ref L]) hR
      refine k _ R W B L bk cl st st' ws t4 (b03.trans (b4.trans (But.of g))) ⟨by rw [cut_out (by simpa using nRp)]; exact upd_same, (hW3.same (cut_but b4 (by simp))).same (cut_same g), hB.same (cut_same g), ?_⟩ wf wf2 wok (hp4.new hR) (by omega)
      rw [SL, cut_out (by simpa using nL)]; exact g _ _ (b4 _ _ nL hL3)
    refine ⟨_, rfl, _, _, rfl, rfl, _, rfl, ite2 (fun c1 => ?_) (fun c1 => ?_)⟩
    · refine ⟨_, rfl, _, rfl, _, rfl, _, rfl, p, W, L, bk, st, ws, t3, rfl, hp3, hW3, hL3, nL, wf, wok, by omega, fun H4 B cl t4 b4 hp4 tt4 nB hB wf2 => ⟨_, rfl, by show 3 ≤ sizeLine; decide, fin b4 hB wf2 hp4 (by omega)⟩⟩
    refine ⟨_, rfl, rfl, _, rfl, ite2 (fun c2 => ?_) (fun c2 => ?_)⟩
    · refine ⟨_, rfl, _, rfl, _, rfl, _, rfl, _, rfl, p, 2, t3, rfl, hp3, by decide, by decide, by omega, fun r t5 o5 r0 r1 tt5 hp5 => ⟨_, _, rfl, rfl, ?_⟩⟩
      have b5 := But.upd p H3 o5
      have hW5 : WorldAt (cut [p] (L2.upd H3 p o5)) W bk st := by rw [cut_upd (by simp)]; exact hW3
      refine ⟨p, W, L, bk, st, ws, _, t5, rfl, hp5, hW5, b5 _ _ nL hL3, nL, wf, wok, by omega, by omega, by omega, fun H4 B cl t4 b4 hp4 tt4 nB hB wf2 => ⟨_, rfl, by show 3 ≤ sizeLine; decide, fin (b5.trans b4) hB wf2 hp4 (by omega)⟩⟩
    refine ⟨p, W, L, way, bk, st, ws, t3, rfl, hp3, hW3, hL3, nL, wf, wok, by omega, fun H4 B cl st' t4 b4 hB wf2 hp4 tt4 => fin b4 hB wf2 hp4 tt4, ?_⟩
    refine ⟨_, rfl, rfl, _, rfl, ite2 (fun c5 => ?_) (fun c5 => ?_)⟩
    · refine ⟨_, rfl, _, rfl, _, rfl, _, rfl, _, rfl, p, W, L, bk, st, ws, t3, rfl, hp3, hW3, hL3, nL, wf, wok, by omega, fun H4 B cl t4 b4 hp4 tt4 nB hB wf2 => ?_⟩
      refine ⟨_, rfl, p, B, L, _, _, ws, 1, t4, rfl, hp4, hB, b4 _ _ nL hL3, nL, wf2, wok, by decide, by decide, by omega, fun H5 B5 cl5 t5 b5 hp5 tt5 nB5 hB5 wf5 => ?_⟩
      exact ⟨_, rfl, by show 3 ≤ sizeLine; decide, fin (b4.trans b5) hB5 wf5 hp5 (by omega)⟩
    refine ⟨_, rfl, _, rfl, rfl, _, rfl, ite2 (fun c6 => ?_) (fun c6 => ?_)⟩
    · refine ⟨_, rfl, _, rfl, p, 6, t3, rfl, hp3, by decide, by decide, by omega, fun r t5 o5 r0 r1 tt5 hp5 => ⟨_, _, rfl, rfl, ?_⟩⟩
      have b5 := But.upd p H3 o5
      refine ⟨_, rfl, p, L, ws, _, 3, t5, rfl, hp5, b5 _ _ nL hL3, nL, wok, by omega, by omega, by decide, by decide, by omega, fun H4 B cl st' t4 b4 nB hB wf2 hp4 tt4 => ?_⟩
      exact ⟨_, rfl, by show 3 ≤ sizeLine; decide, fin (b5.trans b4) hB wf2 hp4 (by omega)⟩
    · exact ⟨_, rfl, _, rfl, by show 3 ≤ sizeLine; decide, fin (fun _ _ _ e => e) hW3 wf hp3 (by omega)⟩
end
end D1
end L2
namespace L2
namespace D1
open PySem PySem.Spec PyProof.Rows D2 X5 X6
/-- a function that tells what comes next, of any two books -/
structure NxOk (NX : Bk → Bk → Pr → List (Str × Pr)) : Prop where
  inn : ∀ {bk cl : Bk}, BB bk cl → ∀ {p : Pr}, InP bk cl p → ∀ t ∈ NX bk cl p, InP bk cl t.2
  nd : ∀ {bk cl : Bk}, BB bk cl → ∀ {p : Pr}, InP bk cl p → ((NX bk cl p).map (·.1)).Nodup
  len : ∀ {bk cl : Bk}, BB bk cl → ∀ {p : Pr}, InP bk cl p → (NX bk cl p).length ≤ 60
theorem Rn.inN {NX : Bk → Bk → Pr → List (Str × Pr)} (N : NxOk NX) {bk cl : Bk} (b : BB bk cl) {p q : Pr} (hp : InP bk cl p) (h : Rn (NX bk cl) p q) : InP bk cl q := by
  induction h with
  | here => exact hp
  | next _ ht ih => exact N.inn b ih _ ht
theorem BIp.leN {NX : Bk → Bk → Pr → List (Str × Pr)} (N : NxOk NX) {bk cl : Bk} {p : Pr} {gs ns : List Pr} (b : BIp (NX bk cl) p gs ns) (bb : BB bk cl) (hp : InP bk cl p) : ns.length ≤ 3600 := pigeonP bb b.nd fun x hx => (b.rc x hx).inN N bb hp
def spNx (NX : Bk → Bk → Pr → List (Str × Pr)) : Sp := fun vs H Q _ => ∃ (B z b1 b2 : Addr) (bk cl : Bk) (p : Pr), vs = [.ref B, .ref z] ∧ H B = some (.tup [.ref b1, .ref b2]) ∧ BookAt H b1 bk ∧ BookAt H b2 cl ∧ PAt H z p ∧ p.1 ∈ bk.map (·.1) ∧ p.2 ∈ cl.map (·.1) ∧ BWf bk ∧ BWf cl ∧ (∀ r ∈ bk, (r.2.2.map (·.1)).Nodup) ∧ (∀ r ∈ cl, (r.2.2.map (·.1)).Nodup) ∧
  ∀ H' R, Same H H' → H R = none → PTAt H' R (NX bk cl p) → Q (.ref R) H'
theorem gok_nx {NX : Bk → Bk → Pr → List (Str × Pr)} (N : NxOk NX) {bk cl : Bk} (bb : BB bk cl) {p : Pr} (hp : InP bk cl p) {ns : List Pr} (r : RnAll (NX bk cl) p ns) : ns.Nodup ∧ ns.length ≤ 3600 ∧ (∀ x ∈ ns, InP bk cl x) ∧ p ∈ ns := by
  have inn : ∀ x ∈ ns, InP bk cl x := fun x hx => ((r.2 x).mp hx).inN N bb hp
  exact ⟨r.1, pigeonP bb r.1 inn, inn, (r.2 p).mpr .here⟩
end D1
end L2
namespace L2
namespace D1
open PySem PySem.Spec PyProof.Rows D2 X5 X6
def stepP (bk cl : Bk) (p : Pr) : List (Str × Pr) :=
  if (rowOf bk p.1).1 = (rowOf cl p.2).1 then ((rowOf bk p.1).2.filter fun t => decide (t.1 ∈ (rowOf cl p.2).2.map (·.1))).map fun t => (t.1, (goalT (rowOf bk p.1).2 t.1, goalT (rowOf cl p.2).2 t.1)) else []
/-- whether a pair fits -/
def fitP (bk cl : Bk) (p : Pr) : Bool :=
  decide ((rowOf bk p.1).1 = (rowOf cl p.2).1) && (if (rowOf bk p.1).1 = "hears" then (rowOf bk p.1).2.all fun t => decide (t.1 ∈ (rowOf cl p.2).2.map (·.1)) else (rowOf cl p.2).2.all fun t => decide (t.1 ∈ (rowOf bk p.1).2.map (·.1)))
theorem stepP_in {bk cl : Bk} (b : BB bk cl) {p : Pr} (hp : InP bk cl p) : ∀ t ∈ stepP bk cl p, InP bk cl t.2 := fun t ht => by
  have n1 : ((rowOf bk p.1).2.map (·.1)).Nodup := b.n1 _ (row_mem hp.1)
  have n2 : ((rowOf cl p.2).2.map (·.1)).Nodup := b.n2 _ (row_mem hp.2)
  unfold stepP at ht
  split at ht
  · obtain ⟨u, hu, rfl⟩ := List.mem_map.mp ht
    obtain ⟨hu, hd⟩ := List.mem_filter.mp hu
    exact ⟨b.w1.goal hp.1 n1 (List.mem_map_of_mem hu), b.w2.goal hp.2 n2 (of_decide_eq_true hd)⟩
  · cases ht
theorem stepP_nd {bk cl : Bk} (b : BB bk cl) {p : Pr} (hp : InP bk cl p) : ((stepP bk cl p).map (·.1)).Nodup := by
  have n1 : ((rowOf bk p.1).2.map (·.1)).Nodup := b.n1 _ (row_mem hp.1)
  unfold stepP
  split
  · rw [List.map_map]
    exact n1.sublist (List.filter_sublist.map _)
  · exact List.nodup_nil
theorem stepP_len {bk cl : Bk} (b : BB bk cl) {p : Pr} (hp : InP bk cl p) : (stepP bk cl p).length ≤ 60 := by
  have l1 : (rowOf bk p.1).2.length ≤ 60 := b.w1.len2 _ (row_mem hp.1)
  unfold stepP
  split
  · rw [List.length_map]; exact Nat.le_trans (List.length_filter_le _ _) l1
  · exact Nat.zero_le _
theorem nx_step : NxOk stepP := ⟨fun b _ hp => stepP_in b hp, fun b _ hp => stepP_nd b hp, fun b _ hp => stepP_len b hp⟩
end D1
end L2
namespace L2
namespace D1
open PySem PySem.Spec PyProof.Rows D2
abbrev sFit : Stmt := top 24
abbrev sShared : Stmt := top 25
abbrev ssN : List Str := ["books", "pair", "elder_kind", "elder_turns", "newer_kind", "newer_turns", "word"]
def spFit : Sp := fun vs H Q _ => ∃ (B z : Addr) (bk cl : Bk) (p : Pr), vs = [.ref B, .ref z] ∧ BksAt H B bk cl ∧ PAt H z p ∧ InP bk cl p ∧ BB bk cl ∧ ∀ H', Same H H' → Q (.bl (fitP bk cl p)) H'
section
variable {P : Program} {w : World} {K : PySem.W.Frag} {mg : Str → Option Value} {base : Heap}
theorem scSs : FnScope ssN ["books", "pair"] (defScope sShared) := ⟨rfl, rfl, rfl, by decide +kernel, rfl, by decide +kernel, by decide +kernel⟩
theorem scFi : FnScope ssN ["books", "pair"] (defScope sFit) := ⟨rfl, rfl, rfl, by decide +kernel, rfl, by decide +kernel, by decide +kernel⟩
theorem ok_fit {f : Addr} {fd : FuncData} (F : Fun K "is_fitting" "is_fitting" sFit f fd) (T : Free3 mg) : FnOk P w K mg base CX0 1 f fd ["books", "pair"] spFit := by
  refine F.ok scFi (fun vs H Q E h => ?_) (fun cdv A outer s H vs Q E0' hr h => ?_)
  · obtain ⟨B, z, bk, cl, p, rfl, _⟩ := h; rfl
  · obtain ⟨B, z, bk, cl, p, rfl, ⟨b1, b2, hB, ⟨kvs1, hb1, hR1⟩, ⟨kvs2, hb2, hR2⟩⟩, hz, ⟨hp1, hp2⟩, bb, k⟩ := h
    have hu := hu_of hr
    refine ⟨_, pss_cons (ps_asg (pe_dget hu (pe_ix ix_tup (pv 0) pe_int (fun _ _ => rfl)) (pe_ix ix_tup (pv 1) pe_int (fun _ _ => rfl)) (fun _ _ => rfl)) (pg_tup rfl (pgs_cons (pg_name (i := 2) scFi.nd rfl (Or.inl rfl)) (pgs_cons (pg_name (i := 3) scFi.nd rfl (Or.inr rfl)) pgs_nil))))
      (pss_cons (ps_asg (pe_dget hu (pe_ix ix_tup (pv 0) pe_int (fun _ _ => rfl)) (pe_ix ix_tup (pv 1) pe_int (fun _ _ => rfl)) (fun _ _ => rfl)) (pg_tup rfl (pgs_cons (pg_name (i := 4) scFi.nd rfl (Or.inl rfl)) (pgs_cons (pg_name (i := 5) scFi.nd rfl (Or.inr rfl)) pgs_nil))))
      (pss_cons (ps_if (pt_cmpR op_ne (pv 2) (pv 4) rfl) (pss_one (ps_ret pe_bl)) pss_nil)
      (pss_cons (ps_if (pt_cmpR op_eq (pv 2) pe_str rfl) (pss_one (ps_ret (pe_callB (cr_all rfl) (by rfl) T.all (by decide +kernel) (pa_cons (pe_lock (pe_lc (own := [("word", 6)]) (g := gName 6) (tt := tYes) (te := tDIn (tVar 6) (tVar 5)) rfl scFi.nd (pi_keys (pv 3))
            (blkOk_by (N := ssN) (sc := defScope sFit) (by decide +kernel)) (fun _ _ _ _ _ => pg_name (i := 6) scFi.nd rfl (Or.inl rfl)) (fun _ _ _ _ _ => pts_nil) (fun _ _ _ _ _ => pe_cmp (pc_din hu (pv 6) (pv 5)) rfl))) pa_nil)))) pss_nil)
      (pss_one (ps_ret (pe_callB (cr_all rfl) (by rfl) T.all (by decide +kernel) (pa_cons (pe_lock (pe_lc (own := [("word", 6)]) (g := gName 6) (tt := tYes) (te := tDIn (tVar 6) (tVar 3)) rfl scFi.nd (pi_keys (pv 5))
            (blkOk_by (N := ssN) (sc := defScope sFit) (by decide +kernel)) (fun _ _ _ _ _ => pg_name (i := 6) scFi.nd rfl (Or.inl rfl)) (fun _ _ _ _ _ => pts_nil) (fun _ _ _ _ _ => pe_cmp (pc_din hu (pv 6) (pv 3)) rfl))) pa_nil))))))), ?_⟩
    obtain ⟨v1, ev1, ⟨t1, a1, rfl, ht1, h1⟩, m1⟩ := hR1.look hp1
    obtain ⟨v2, ev2, ⟨t2, a2, rfl, ht2, h2⟩, m2⟩ := hR2.look hp2
    have l1 : (rowOf bk p.1).2.length ≤ 60 := bb.w1.len2 _ m1
    have l2 : (rowOf cl p.2).2.length ≤ 60 := bb.w2.len2 _ m2
    refine ⟨_, rfl, B, _, _, _, rfl, rfl, SqT.of hB, atI_nat (j := 0) rfl, _, rfl, z, _, _, _, rfl, rfl, SqT.of hz, atI_nat (j := 0) rfl, b1, _, rfl, .inl ⟨kvs1, .inr p.1, .inl hb1, rfl, ev1.symm⟩, t1, _, rfl, SqT.of ht1, rfl, _, _, rfl, _, _, rfl, rfl, ?_⟩
    refine ⟨_, rfl, B, _, _, _, rfl, rfl, SqT.of hB, atI_nat (j := 1) rfl, _, rfl, z, _, _, _, rfl, rfl, SqT.of hz, atI_nat (j := 1) rfl, b2, _, rfl, .inl ⟨kvs2, .inr p.2, .inl hb2, rfl, ev2.symm⟩, t2, _, rfl, SqT.of ht2, rfl, _, _, rfl, _, _, rfl, rfl, ?_⟩
    have h1 : TurnsAt H a1 (rowOf bk p.1).2 := h1
    have h2 : TurnsAt H a2 (rowOf cl p.2).2 := h2
    refine ⟨_, rfl, _, rfl, rfl, _, rfl, ?_⟩
    by_cases c : (rowOf bk p.1).1 = (rowOf cl p.2).1
    · rw [show (!decide (V.str (rowOf bk p.1).1 = V.str (rowOf cl p.2).1)) = false by rw [c]; simp]
      refine iteF ⟨_, rfl, rfl, _, rfl, ?_⟩
      by_cases d : (rowOf bk p.1).1 = "hears"
      · rw [show decide (V.str (rowOf bk p.1).1 = V.str "hears") = true by rw [d]; simp]
        refine iteT ?_
        refine ⟨a1, _, h1, trivial, fun od => ?_⟩
        refine ⟨_, rfl, a1, od, rfl, .inl ⟨kT (rowOf bk p.1).2, upd_same, fun M hM => ?_⟩⟩
        have nM : M ≠ a1 := fun e => by rw [e, upd_same] at hM; cases hM
        have hhL : Rd (L2.upd H a1 (.frz od (.dK (kT (rowOf bk p.1).2)))) a2 (.dK (kT (rowOf cl p.2).2)) := rd_lock (.inl h2) h1 fun _ _ e => by cases e
        refine lc_it (walk_keys (d := a1) (o := od) (kvs := kT (rowOf bk p.1).2)) (fun j H' => Same (L2.upd H a1 (.frz od (.dK (kT (rowOf bk p.1).2)))) H' ∧ H' M = some (.lst ((((rowOf bk p.1).2.take j).map fun t => decide (t.1 ∈ (rowOf cl p.2).2.map (·.1))).map V.bl))) ⟨Same.new hM, upd_same⟩ (fun j H' _ z => z.1 _ _ upd_same) ?_ ?_
        · rintro j x H10 H11 hj ⟨sm, hM10⟩ ⟨rfl, kk, v0, hkv, rfl⟩
          obtain ⟨t1, ht1, rfl⟩ := kT_at hkv
          refine ⟨rfl, ?_⟩
          dsimp only [tYes]
          rw [if_pos rfl]
          refine ⟨_, rfl, _, rfl, a2, _, rfl, .inl ⟨kT (rowOf cl p.2).2, .inr t1.1, rd_same hhL sm, rfl, rfl⟩, ?_⟩
          rw [kT_isSome]
          have l1 := kT_lt hkv
          refine ⟨_, hM10, by rw [List.length_map, List.length_map, List.length_take, sizeLine_eq]; omega, fun c u e => ?_, by rw [upd_same, take_succ_get ht1, List.map_append, List.map_append]; rfl⟩
          rw [upd_ne (ne_of_none e hM)]; exact sm _ _ e
        rintro H10 ⟨sm, hM10⟩
        rw [show (kT (rowOf bk p.1).2).length = (rowOf bk p.1).2.length by rw [kT, List.length_map], List.take_length] at hM10
        have su := Same.unlock h1 sm
        refine ⟨sm _ _ upd_same, M, _, rfl, SqL.of (by rw [upd_ne nM]; exact hM10), ?_⟩
        rw [all_map]
        have := k _ su
        rw [show fitP bk cl p = (rowOf bk p.1).2.all fun t => decide (t.1 ∈ (rowOf cl p.2).2.map (·.1)) by unfold fitP; rw [decide_eq_true c, if_pos d]; rfl] at this
        exact this
      · rw [show decide (V.str (rowOf bk p.1).1 = V.str "hears") = false by simpa using d]
        refine iteF ?_
        refine ⟨a2, _, h2, trivial, fun od => ?_⟩
        refine ⟨_, rfl, a2, od, rfl, .inl ⟨kT (rowOf cl p.2).2, upd_same, fun M hM => ?_⟩⟩
        have nM : M ≠ a2 := fun e => by rw [e, upd_same] at hM; cases hM
        have hhL : Rd (L2.upd H a2 (.frz od (.dK (kT (rowOf cl p.2).2)))) a1 (.dK (kT (rowOf bk p.1).2)) := rd_lock (.inl h1) h2 fun _ _ e => by cases e
        refine lc_it (walk_keys (d := a2) (o := od) (kvs := kT (rowOf cl p.2).2)) (fun j H' => Same (L2.upd H a2 (.frz od (.dK (kT (rowOf cl p.2).2)))) H' ∧ H' M = some (.lst ((((rowOf cl p.2).2.take j).map fun t => decide (t.1 ∈ (rowOf bk p.1).2.map (·.1))).map V.bl))) ⟨Same.new hM, upd_same⟩ (fun j H' _ z => z.1 _ _ upd_same) ?_ ?_
        · rintro j x H10 H11 hj ⟨sm, hM10⟩ ⟨rfl, kk, v0, hkv, rfl⟩
          obtain ⟨t1, ht1, rfl⟩ := kT_at hkv
          refine ⟨rfl, ?_⟩
          dsimp only [tYes]
          rw [if_pos rfl]
          refine ⟨_, rfl, _, rfl, a1, _, rfl, .inl ⟨kT (rowOf bk p.1).2, .inr t1.1, rd_same hhL sm, rfl, rfl⟩, ?_⟩
          rw [kT_isSome]
          have l1 := kT_lt hkv
          refine ⟨_, hM10, by rw [List.length_map, List.length_map, List.length_take, sizeLine_eq]; omega, fun c u e => ?_, by rw [upd_same, take_succ_get ht1, List.map_append, List.map_append]; rfl⟩
          rw [upd_ne (ne_of_none e hM)]; exact sm _ _ e
        rintro H10 ⟨sm, hM10⟩
        rw [show (kT (rowOf cl p.2).2).length = (rowOf cl p.2).2.length by rw [kT, List.length_map], List.take_length] at hM10
        have su := Same.unlock h2 sm
        refine ⟨sm _ _ upd_same, M, _, rfl, SqL.of (by rw [upd_ne nM]; exact hM10), ?_⟩
        rw [all_map]
        have := k _ su
        rw [show fitP bk cl p = (rowOf cl p.2).2.all fun t => decide (t.1 ∈ (rowOf bk p.1).2.map (·.1)) by unfold fitP; rw [decide_eq_true c, if_neg d]; rfl] at this
        exact this
    · rw [show (!decide (V.str (rowOf bk p.1).1 = V.str (rowOf cl p.2).1)) = true by simpa using c]
      refine iteT ?_
      have := k H (Same.refl _)
      rw [show fitP bk cl p = false by unfold fitP; rw [decide_eq_false c]; rfl] at this
      exact this
theorem ok_shared {f : Addr} {fd : FuncData} (F : Fun K "shared_steps" "shared_steps" sShared f fd) : FnOk P w K mg base CX0 1 f fd ["books", "pair"] (spNx stepP) := by
  refine F.ok scSs (fun vs H Q E h => ?_) (fun cdv A outer s H vs Q E0' hr h => ?_)
  · obtain ⟨B, z, b1, b2, bk, cl, p, rfl, _⟩ := h; rfl
  · obtain ⟨B, z, b1, b2, bk, cl, p, rfl, hB, ⟨kvs1, hb1, hR1⟩, ⟨kvs2, hb2, hR2⟩, hz, hp1, hp2, w1, w2, n1, n2, k⟩ := h
    have hu := hu_of hr
    refine ⟨_, pss_cons (ps_asg (pe_dget hu (pe_ix ix_tup (pv 0) pe_int (fun _ _ => rfl)) (pe_ix ix_tup (pv 1) pe_int (fun _ _ => rfl)) (fun _ _ => rfl)) (pg_tup rfl (pgs_cons (pg_name (i := 2) scSs.nd rfl (Or.inl rfl)) (pgs_cons (pg_name (i := 3) scSs.nd rfl (Or.inr rfl)) pgs_nil))))
      (pss_cons (ps_asg (pe_dget hu (pe_ix ix_tup (pv 0) pe_int (fun _ _ => rfl)) (pe_ix ix_tup (pv 1) pe_int (fun _ _ => rfl)) (fun _ _ => rfl)) (pg_tup rfl (pgs_cons (pg_name (i := 4) scSs.nd rfl (Or.inl rfl)) (pgs_cons (pg_name (i := 5) scSs.nd rfl (Or.inr rfl)) pgs_nil))))
      (pss_cons (ps_if (pt_cmpR op_ne (pv 2) (pv 4) rfl) (pss_one (ps_ret pe_dnewK)) pss_nil)
      (pss_one (ps_ret (pe_lock (pe_dc (own := [("word", 6)]) (g := gName 6) (tt := tTest (tDIn (tVar 6) (tVar 5))) (tk := tVar 6) (tv := tTup (tCons (tDGet (tVar 3) (tVar 6)) (tCons (tDGet (tVar 5) (tVar 6)) tNil))) rfl scSs.nd (pi_keys (pv 3))
            (blkOk_by (N := ssN) (sc := defScope sShared) (by decide +kernel)) (fun _ _ _ _ _ => pg_name (i := 6) scSs.nd rfl (Or.inl rfl)) (fun _ _ _ _ _ => pts_one (pt_cmp (pc_din hu (pv 6) (pv 5)) rfl)) (fun _ _ _ _ _ => pv 6) (fun _ _ _ _ _ => pe_tup (pa_cons (pe_dget hu (pv 3) (pv 6) (fun _ _ => rfl)) (pa_cons (pe_dget hu (pv 5) (pv 6) (fun _ _ => rfl)) pa_nil))))))))), ?_⟩
    obtain ⟨v1, ev1, ⟨t1, a1, rfl, ht1, h1⟩, m1⟩ := hR1.look hp1
    obtain ⟨v2, ev2, ⟨t2, a2, rfl, ht2, h2⟩, m2⟩ := hR2.look hp2
    have nd1 : ((rowOf bk p.1).2.map (·.1)).Nodup := n1 _ m1
    have l1 : (rowOf bk p.1).2.length ≤ 60 := w1.len2 _ m1
    have l2 : (rowOf cl p.2).2.length ≤ 60 := w2.len2 _ m2
    refine ⟨_, rfl, B, _, _, _, rfl, rfl, SqT.of hB, atI_nat (j := 0) rfl, _, rfl, z, _, _, _, rfl, rfl, SqT.of hz, atI_nat (j := 0) rfl, b1, _, rfl, .inl ⟨kvs1, .inr p.1, .inl hb1, rfl, ev1.symm⟩, t1, _, rfl, SqT.of ht1, rfl, _, _, rfl, _, _, rfl, rfl, ?_⟩
    refine ⟨_, rfl, B, _, _, _, rfl, rfl, SqT.of hB, atI_nat (j := 1) rfl, _, rfl, z, _, _, _, rfl, rfl, SqT.of hz, atI_nat (j := 1) rfl, b2, _, rfl, .inl ⟨kvs2, .inr p.2, .inl hb2, rfl, ev2.symm⟩, t2, _, rfl, SqT.of ht2, rfl, _, _, rfl, _, _, rfl, rfl, ?_⟩
    have h1 : TurnsAt H a1 (rowOf bk p.1).2 := h1
    have h2 : TurnsAt H a2 (rowOf cl p.2).2 := h2
    refine ⟨_, rfl, _, rfl, rfl, _, rfl, ?_⟩
    by_cases c : (rowOf bk p.1).1 = (rowOf cl p.2).1
    · rw [show (!decide (V.str (rowOf bk p.1).1 = V.str (rowOf cl p.2).1)) = false by rw [c]; simp]
      refine iteF ?_
      refine ⟨a1, _, h1, trivial, fun od2 => ?_⟩
      refine ⟨_, rfl, a1, od2, rfl, .inl ⟨kT (rowOf bk p.1).2, upd_same, fun D hD => ?_⟩⟩
      have nD : D ≠ a1 := fun e => by rw [e, upd_same] at hD; cases hD
      have oL : Rd (L2.upd H a1 (.frz od2 (.dK (kT (rowOf bk p.1).2)))) a1 (.dK (kT (rowOf bk p.1).2)) := rd_lock (.inl h1) h1 fun _ _ e => by cases e
      have tL : Rd (L2.upd H a1 (.frz od2 (.dK (kT (rowOf bk p.1).2)))) a2 (.dK (kT (rowOf cl p.2).2)) := rd_lock (.inl h2) h1 fun _ _ e => by cases e
      refine dc_it (walk_keys (d := a1) (o := od2) (kvs := kT (rowOf bk p.1).2)) (fun j H' => Same (L2.upd H a1 (.frz od2 (.dK (kT (rowOf bk p.1).2)))) H' ∧ ∃ kv2, H' D = some (.dK kv2) ∧ PRows (cut [D] H') kv2 ((((rowOf bk p.1).2.take j).filter fun t => decide (t.1 ∈ (rowOf cl p.2).2.map (·.1))).map fun t => (t.1, (goalT (rowOf bk p.1).2 t.1, goalT (rowOf cl p.2).2 t.1)))) ⟨Same.new hD, [], upd_same, .nil⟩ (fun j H' _ z => z.1 _ _ upd_same) ?_ ?_
      · rintro j x H12 H13 hj ⟨sm, kv2, hD12, hP⟩ ⟨rfl, kk, v0, hkv, rfl⟩
        obtain ⟨t1, ht1, rfl⟩ := kT_at hkv
        have tm : t1 ∈ (rowOf bk p.1).2 := List.mem_of_getElem? ht1
        have m1 : t1.1 ∈ (rowOf bk p.1).2.map (·.1) := List.mem_map_of_mem tm
        refine ⟨rfl, ?_⟩
        refine ⟨_, rfl, _, rfl, a2, _, rfl, .inl ⟨_, .inr t1.1, rd_same tL sm, rfl, rfl⟩, _, rfl, ?_⟩
        rw [kT_isSome]
        by_cases m2 : t1.1 ∈ (rowOf cl p.2).2.map (·.1)
        · refine (if_pos (decide_eq_true m2)).mpr ?_
          refine ⟨_, rfl, _, rfl, _, rfl, a1, _, rfl, .inl ⟨_, .inr t1.1, rd_same oL sm, rfl, (valV_goal m1).symm⟩, _, rfl, _, rfl, a2, _, rfl, .inl ⟨_, .inr t1.1, rd_same tL sm, rfl, (valV_goal m2).symm⟩, by show 2 ≤ sizeLine; decide, fun T1 hT1 => ?_⟩
          have g := Same.new (o := .tup [.str (goalT (rowOf bk p.1).2 t1.1), .str (goalT (rowOf cl p.2).2 t1.1)]) hT1
          have nT : T1 ≠ D := fun e => by rw [e, hD12] at hT1; cases hT1
          have l1 := kT_lt hkv
          have fresh : (Sum.inr t1.1 : Key) ∉ kv2.map (·.1) := fun z => by
            rw [hP.keys, List.map_map] at z
            obtain ⟨t0, ht0, e0⟩ := List.mem_map.mp z
            have e0 : t0.1 = t1.1 := Sum.inr.inj e0
            have nn := nd_take (ys := (rowOf bk p.1).2.map (·.1)) nd1 (i := j) (z := t1.1) (by rw [List.getElem?_map, ht1]; rfl)
            exact nn (by rw [← List.map_take, ← e0]; exact List.mem_map_of_mem (List.mem_filter.mp ht0).1)
          refine ⟨kv2, .inr t1.1, rfl, g _ _ hD12, ?_, fun c u e => ?_, _, upd_same, ?_⟩
          · rw [hP.len, List.length_map, sizeLine_eq]
            have := List.length_filter_le (fun t => decide (t.1 ∈ (rowOf cl p.2).2.map (·.1))) ((rowOf bk p.1).2.take j)
            rw [List.length_take] at this
            omega
          · rw [upd_ne (ne_of_none e hD)]; exact g _ _ (sm _ _ e)
          · rw [cut_upd (by simp), take_succ_get ht1, List.filter_append, List.filter_cons_of_pos (by exact decide_eq_true m2), List.map_append, D1.putK_new fresh]
            exact pair_app (hP.same (cut_same g)) ⟨rfl, T1, rfl, by rw [PAt, cut_out (by simpa using nT)]; exact upd_same⟩
        · refine (if_neg (by rw [decide_eq_false m2]; exact Bool.false_ne_true)).mpr ⟨sm, kv2, hD12, ?_⟩
          rw [take_succ_get ht1, List.filter_append, List.filter_cons_of_neg (by simpa using m2), List.filter_nil, List.append_nil]
          exact hP
      · rintro H12 ⟨sm, kv2, hD12, hP⟩
        rw [show (kT (rowOf bk p.1).2).length = (rowOf bk p.1).2.length by rw [kT, List.length_map], List.take_length] at hP
        have su2 := Same.unlock h1 sm
        refine ⟨sm _ _ upd_same, ?_⟩
        have hDf : H D = none := by rw [upd_ne nD] at hD; exact hD
        refine k _ D su2 hDf ?_
        rw [show stepP bk cl p = ((rowOf bk p.1).2.filter fun t => decide (t.1 ∈ (rowOf cl p.2).2.map (·.1))).map fun t => (t.1, (goalT (rowOf bk p.1).2 t.1, goalT (rowOf cl p.2).2 t.1)) by unfold stepP; rw [if_pos c]]
        refine ⟨kv2, by rw [upd_ne nD]; exact hD12, ?_⟩
        refine paired_imp (fun kv t ⟨e, z, e1, e2⟩ => ⟨e, z, e1, ?_⟩) hP
        have e2 := cut_le _ _ e2
        rw [PAt, upd_ne fun q => by rw [q, sm _ _ upd_same] at e2; cases e2]; exact e2
    · rw [show (!decide (V.str (rowOf bk p.1).1 = V.str (rowOf cl p.2).1)) = true by simpa using c]
      refine iteT fun R hR => ?_
      refine k _ R (Same.new hR) hR ?_
      rw [show stepP bk cl p = [] by unfold stepP; rw [if_neg c]]
      exact ⟨[], upd_same, .nil⟩
end
end D1
end L2
namespace L2
namespace D1
open PySem PySem.Spec PyProof.Rows D2 X5 X6
abbrev sLFits : Stmt := top 57
def spLFits : Sp := fun vs H Q _ => ∃ (W1 W2 z : Addr) (bk cl : Bk) (st st' : Str) (p : Pr), vs = [.ref W1, .ref W2, .ref z] ∧ WorldAt H W1 bk st ∧ WorldAt H W2 cl st' ∧ DOk bk st ∧ DOk cl st' ∧ PAt H z p ∧ InP bk cl p ∧ ∀ H', Same H H' → Q (.bl (fitP bk cl p)) H'
theorem done_none {bk : Bk} {st : Str} (ok : DOk bk st) {s : Str} (h : s ∈ bk.map (·.1)) (n1 : (rowOf bk s).1 ≠ "says") (n2 : (rowOf bk s).1 ≠ "hears") : (rowOf bk s).2 = [] := by
  rcases (ok.rs _ (row_mem h)).2.1 with ⟨_, e⟩ | ⟨a | a, _⟩
  · exact e
  · exact absurd a n1
  · exact absurd a n2
section
variable {P : Program} {w : World} {K : PySem.W.Frag} {mg : Str → Option Value} {base : Heap}
abbrev ftN : List Str := ["_law_elder", "_law_newer_here", "_law_pair", "_law_first", "_law_second", "_law_word_here"]
theorem scLf : FnScope ftN ["_law_elder", "_law_newer_here", "_law_pair"] (defScope sLFits) := ⟨rfl, rfl, rfl, by decide +kernel, rfl, by decide +kernel, by decide +kernel⟩
theorem ok_lfits {f : Addr} {fd : FuncData} (F : Fun K "_law_fits" "_law_fits" sLFits f fd) (T : Free3 mg) : FnOk P w K mg base CX0 1 f fd ["_law_elder", "_law_newer_here", "_law_pair"] spLFits := by
  refine F.ok scLf (fun vs H Q E h => ?_) (fun cdv A outer s H vs Q E0' hr h => ?_)
  · obtain ⟨W1, W2, z, bk, cl, st, st', p, rfl, _⟩ := h; rfl
  · obtain ⟨W1, W2, z, bk, cl, st, st', p, rfl, ⟨b1, hW1, kvs1, hb1, hR1⟩, ⟨b2, hW2, kvs2, hb2, hR2⟩, o1, o2, hz, ⟨hp1, hp2⟩, k⟩ := h
    have hu := hu_of hr
    refine ⟨_, pss_cons (ps_asg (pe_tup (pa_cons (pe_dget hu (pe_ix ix_list (pv 0) pe_int (fun _ _ => rfl)) (pe_ix ix_tup (pv 2) pe_int (fun _ _ => rfl)) (fun _ _ => rfl)) (pa_cons (pe_dget hu (pe_ix ix_list (pv 1) pe_int (fun _ _ => rfl)) (pe_ix ix_tup (pv 2) pe_int (fun _ _ => rfl)) (fun _ _ => rfl)) pa_nil))) (pg_tup rfl (pgs_cons (pg_name (i := 3) scLf.nd rfl (Or.inr rfl)) (pgs_cons (pg_name (i := 4) scLf.nd rfl (Or.inr rfl)) pgs_nil))))
      (pss_cons (ps_if (pt_cmpR op_ne (pe_ix ix_tup (pv 3) pe_int (fun _ _ => rfl)) (pe_ix ix_tup (pv 4) pe_int (fun _ _ => rfl)) rfl) (pss_one (ps_ret pe_bl)) pss_nil)
      (pss_cons (ps_if (pt_cmpR op_eq (pe_ix ix_tup (pv 3) pe_int (fun _ _ => rfl)) pe_str rfl) (pss_one (ps_ret (pe_callB (cr_all rfl) (by rfl) T.all (by decide +kernel) (pa_cons (pe_lock (pe_lc (own := [("_law_word_here", 5)]) (g := gName 5) (tt := tYes) (te := tDIn (tVar 5) (tOp (rIxT K) (tVar 3) (tC (.int 1)))) rfl scLf.nd (pi_keys (pe_ix ix_tup (pv 4) pe_int (fun _ _ => rfl)))
            (blkOk_by (N := ftN) (sc := defScope sLFits) (by decide +kernel)) (fun _ _ _ _ _ => pg_name (i := 5) scLf.nd rfl (Or.inl rfl)) (fun _ _ _ _ _ => pts_nil) (fun _ _ _ _ _ => pe_cmp (pc_din hu (pv 5) (pe_ix ix_tup (pv 3) pe_int (fun _ _ => rfl))) rfl))) pa_nil)))) pss_nil)
      (pss_one (ps_ret (pe_callB (cr_all rfl) (by rfl) T.all (by decide +kernel) (pa_cons (pe_lock (pe_lc (own := [("_law_word_here", 5)]) (g := gName 5) (tt := tYes) (te := tDIn (tVar 5) (tOp (rIxT K) (tVar 4) (tC (.int 1)))) rfl scLf.nd (pi_keys (pe_ix ix_tup (pv 3) pe_int (fun _ _ => rfl)))
            (blkOk_by (N := ftN) (sc := defScope sLFits) (by decide +kernel)) (fun _ _ _ _ _ => pg_name (i := 5) scLf.nd rfl (Or.inl rfl)) (fun _ _ _ _ _ => pts_nil) (fun _ _ _ _ _ => pe_cmp (pc_din hu (pv 5) (pe_ix ix_tup (pv 4) pe_int (fun _ _ => rfl))) rfl))) pa_nil)))))), ?_⟩
    obtain ⟨v1, ev1, ⟨t1, a1, rfl, ht1, h1⟩, m1⟩ := hR1.look hp1
    obtain ⟨v2, ev2, ⟨t2, a2, rfl, ht2, h2⟩, m2⟩ := hR2.look hp2
    have l1 : (rowOf bk p.1).2.length ≤ 60 := o1.len2 _ m1
    have l2 : (rowOf cl p.2).2.length ≤ 60 := o2.len2 _ m2
    refine ⟨_, rfl, W1, _, _, _, rfl, rfl, SqL.of hW1, atI_nat (j := 0) rfl, _, rfl, z, _, _, _, rfl, rfl, SqT.of hz, atI_nat (j := 0) rfl, b1, _, rfl, .inl ⟨kvs1, .inr p.1, .inl hb1, rfl, ev1.symm⟩, ?_⟩
    refine ⟨_, rfl, W2, _, _, _, rfl, rfl, SqL.of hW2, atI_nat (j := 0) rfl, _, rfl, z, _, _, _, rfl, rfl, SqT.of hz, atI_nat (j := 1) rfl, b2, _, rfl, .inl ⟨kvs2, .inr p.2, .inl hb2, rfl, ev2.symm⟩, ?_⟩
    refine ⟨by show 2 ≤ sizeLine; decide, fun T0 hT0 => ⟨T0, _, rfl, SqT.of upd_same, rfl, _, _, rfl, _, _, rfl, rfl, ?_⟩⟩
    have g1 := Same.new (o := .tup [.ref t1, .ref t2]) hT0
    generalize L2.upd H T0 (.tup [.ref t1, .ref t2]) = H1 at g1
    have h1 : TurnsAt H1 a1 (rowOf bk p.1).2 := g1 _ _ h1
    have h2 : TurnsAt H1 a2 (rowOf cl p.2).2 := g1 _ _ h2
    have ht1 := g1 _ _ ht1
    have ht2 := g1 _ _ ht2
    unfold TurnsAt at h1 h2
    refine ⟨_, rfl, t1, _, _, _, rfl, rfl, SqT.of ht1, atI_nat (j := 0) rfl, _, rfl, t2, _, _, _, rfl, rfl, SqT.of ht2, atI_nat (j := 0) rfl, rfl, _, rfl, ?_⟩
    by_cases c : (rowOf bk p.1).1 = (rowOf cl p.2).1
    · rw [show (!decide (V.str (rowOf bk p.1).1 = V.str (rowOf cl p.2).1)) = false by rw [c]; simp]
      refine iteF ⟨_, rfl, t1, _, _, _, rfl, rfl, SqT.of ht1, atI_nat (j := 0) rfl, rfl, _, rfl, ?_⟩
      by_cases d : (rowOf bk p.1).1 = "says"
      · rw [show decide (V.str (rowOf bk p.1).1 = V.str "says") = true by rw [d]; simp]
        refine iteT ?_
        refine ⟨a2, _, h2, trivial, fun od => ?_⟩
        have kta : (L2.upd H1 a2 (.frz od (.dK (kT (rowOf cl p.2).2)))) t2 = _ := (upd_ne (fun e => by rw [e, h2] at ht2; cases ht2)).trans ht2
        have ktb : (L2.upd H1 a2 (.frz od (.dK (kT (rowOf cl p.2).2)))) t1 = _ := (upd_ne (fun e => by rw [e, h2] at ht1; cases ht1)).trans ht1
        refine ⟨_, rfl, t2, _, _, _, rfl, rfl, SqT.of kta, atI_nat (j := 1) rfl, a2, od, rfl, .inl ⟨kT (rowOf cl p.2).2, upd_same, fun M hM => ?_⟩⟩
        have nM : M ≠ a2 := fun e => by rw [e, upd_same] at hM; cases hM
        have hhL : Rd (L2.upd H1 a2 (.frz od (.dK (kT (rowOf cl p.2).2)))) a1 (.dK (kT (rowOf bk p.1).2)) := rd_lock (.inl h1) h2 fun _ _ e => by cases e
        refine lc_it (walk_keys (d := a2) (o := od) (kvs := kT (rowOf cl p.2).2)) (fun j H' => Same (L2.upd H1 a2 (.frz od (.dK (kT (rowOf cl p.2).2)))) H' ∧ H' M = some (.lst ((((rowOf cl p.2).2.take j).map fun t => decide (t.1 ∈ (rowOf bk p.1).2.map (·.1))).map V.bl))) ⟨Same.new hM, upd_same⟩ (fun j H' _ z => z.1 _ _ upd_same) ?_ ?_
        · rintro j x H10 H11 hj ⟨sm, hM10⟩ ⟨rfl, kk, v0, hkv, rfl⟩
          obtain ⟨u1, hu1, rfl⟩ := kT_at hkv
          refine ⟨rfl, ?_⟩
          dsimp only [tYes]
          rw [if_pos rfl]
          refine ⟨_, rfl, _, rfl, t1, _, _, _, rfl, rfl, SqT.of (sm _ _ ktb), atI_nat (j := 1) rfl, a1, _, rfl, .inl ⟨kT (rowOf bk p.1).2, .inr u1.1, rd_same hhL sm, rfl, rfl⟩, ?_⟩
          rw [kT_isSome]
          have l1 := kT_lt hkv
          refine ⟨_, hM10, by rw [List.length_map, List.length_map, List.length_take, sizeLine_eq]; omega, fun c u e => ?_, by rw [upd_same, take_succ_get hu1, List.map_append, List.map_append]; rfl⟩
          rw [upd_ne (ne_of_none e hM)]; exact sm _ _ e
        rintro H10 ⟨sm, hM10⟩
        rw [show (kT (rowOf cl p.2).2).length = (rowOf cl p.2).2.length by rw [kT, List.length_map], List.take_length] at hM10
        have su := Same.unlock h2 sm
        refine ⟨sm _ _ upd_same, M, _, rfl, SqL.of (by rw [upd_ne nM]; exact hM10), ?_⟩
        rw [all_map]
        have := k _ (Same.trans g1 su)
        rw [show fitP bk cl p = (rowOf cl p.2).2.all fun t => decide (t.1 ∈ (rowOf bk p.1).2.map (·.1)) by unfold fitP; rw [decide_eq_true c, if_neg (by rw [d]; decide +kernel)]; rfl] at this
        exact this
      · rw [show decide (V.str (rowOf bk p.1).1 = V.str "says") = false by simpa using d]
        refine iteF ?_
        refine ⟨a1, _, h1, trivial, fun od => ?_⟩
        have kta : (L2.upd H1 a1 (.frz od (.dK (kT (rowOf bk p.1).2)))) t1 = _ := (upd_ne (fun e => by rw [e, h1] at ht1; cases ht1)).trans ht1
        have ktb : (L2.upd H1 a1 (.frz od (.dK (kT (rowOf bk p.1).2)))) t2 = _ := (upd_ne (fun e => by rw [e, h1] at ht2; cases ht2)).trans ht2
        refine ⟨_, rfl, t1, _, _, _, rfl, rfl, SqT.of kta, atI_nat (j := 1) rfl, a1, od, rfl, .inl ⟨kT (rowOf bk p.1).2, upd_same, fun M hM => ?_⟩⟩
        have nM : M ≠ a1 := fun e => by rw [e, upd_same] at hM; cases hM
        have hhL : Rd (L2.upd H1 a1 (.frz od (.dK (kT (rowOf bk p.1).2)))) a2 (.dK (kT (rowOf cl p.2).2)) := rd_lock (.inl h2) h1 fun _ _ e => by cases e
        refine lc_it (walk_keys (d := a1) (o := od) (kvs := kT (rowOf bk p.1).2)) (fun j H' => Same (L2.upd H1 a1 (.frz od (.dK (kT (rowOf bk p.1).2)))) H' ∧ H' M = some (.lst ((((rowOf bk p.1).2.take j).map fun t => decide (t.1 ∈ (rowOf cl p.2).2.map (·.1))).map V.bl))) ⟨Same.new hM, upd_same⟩ (fun j H' _ z => z.1 _ _ upd_same) ?_ ?_
        · rintro j x H10 H11 hj ⟨sm, hM10⟩ ⟨rfl, kk, v0, hkv, rfl⟩
          obtain ⟨u1, hu1, rfl⟩ := kT_at hkv
          refine ⟨rfl, ?_⟩
          dsimp only [tYes]
          rw [if_pos rfl]
          refine ⟨_, rfl, _, rfl, t2, _, _, _, rfl, rfl, SqT.of (sm _ _ ktb), atI_nat (j := 1) rfl, a2, _, rfl, .inl ⟨kT (rowOf cl p.2).2, .inr u1.1, rd_same hhL sm, rfl, rfl⟩, ?_⟩
          rw [kT_isSome]
          have l1 := kT_lt hkv
          refine ⟨_, hM10, by rw [List.length_map, List.length_map, List.length_take, sizeLine_eq]; omega, fun c u e => ?_, by rw [upd_same, take_succ_get hu1, List.map_append, List.map_append]; rfl⟩
          rw [upd_ne (ne_of_none e hM)]; exact sm _ _ e
        rintro H10 ⟨sm, hM10⟩
        rw [show (kT (rowOf bk p.1).2).length = (rowOf bk p.1).2.length by rw [kT, List.length_map], List.take_length] at hM10
        have su := Same.unlock h1 sm
        refine ⟨sm _ _ upd_same, M, _, rfl, SqL.of (by rw [upd_ne nM]; exact hM10), ?_⟩
        rw [all_map]
        have := k _ (Same.trans g1 su)
        rw [show fitP bk cl p = (rowOf bk p.1).2.all fun t => decide (t.1 ∈ (rowOf cl p.2).2.map (·.1)) by
          unfold fitP
          rw [decide_eq_true c]
          by_cases e : (rowOf bk p.1).1 = "hears"
          · rw [if_pos e]; rfl
          · rw [if_neg e, done_none o1 hp1 d e, done_none o2 hp2 (by rw [← c]; exact d) (by rw [← c]; exact e)]; rfl] at this
        exact this
    · rw [show (!decide (V.str (rowOf bk p.1).1 = V.str (rowOf cl p.2).1)) = true by simpa using c]
      refine iteT ?_
      have := k H1 g1
      rw [show fitP bk cl p = false by unfold fitP; rw [decide_eq_false c]; rfl] at this
      exact this
end
end D1
end L2
namespace L2
namespace D1
open PySem PySem.Spec PyProof.Rows D2 X5 X6
def spLPlain : Sp := fun vs H Q _ => ∃ (W1 W2 : Addr) (bk cl : Bk) (st st' : Str), vs = [.ref W1, .ref W2] ∧ WorldAt H W1 bk st ∧ WorldAt H W2 cl st' ∧ DOk bk st ∧ DOk cl st' ∧
  ∀ H' R, Same H H' → H R = none → QrAt H' R (stepP (ordB bk) (ordB cl)) (allP bk cl) → Q (.ref R) H'
section
variable {bk cl : Bk} {st st' : Str} {p : Pr}
def stepW (bk cl : Bk) (p : Pr) : List Str := (srt ((rowOf bk p.1).2.map (·.1))).filter fun w => decide (w ∈ (rowOf cl p.2).2.map (·.1)) && decide ((rowOf bk p.1).1 = (rowOf cl p.2).1)
theorem stepP_ord (o1 : DOk bk st) (o2 : DOk cl st') (hp : InP bk cl p) : stepP (ordB bk) (ordB cl) p = bothW bk cl p (stepW bk cl p) := by
  unfold stepP stepW
  rw [rowOf_ord o1.nd hp.1, rowOf_ord o2.nd hp.2]
  dsimp only
  by_cases c : (rowOf bk p.1).1 = (rowOf cl p.2).1
  · rw [if_pos c]
    have e1 : (ordT (rowOf bk p.1).2).filter (fun t => decide (t.1 ∈ (ordT (rowOf cl p.2).2).map (·.1))) = ((srt ((rowOf bk p.1).2.map (·.1))).filter (fun w => decide (w ∈ (rowOf cl p.2).2.map (·.1)) && decide ((rowOf bk p.1).1 = (rowOf cl p.2).1))).map fun k => (k, goalT (rowOf bk p.1).2 k) := by
      rw [show ordT (rowOf bk p.1).2 = (srt ((rowOf bk p.1).2.map (·.1))).map (fun k => (k, goalT (rowOf bk p.1).2 k)) from rfl, List.filter_map]
      congr 1
      refine List.filter_congr fun w _ => ?_
      show decide (w ∈ (ordT (rowOf cl p.2).2).map (·.1)) = _
      rw [decide_eq_true c, Bool.and_true]
      exact decide_eq_decide.mpr key_ordT
    rw [e1, List.map_map]
    refine List.map_congr_left fun w hw => ?_
    obtain ⟨hw, hd⟩ := List.mem_filter.mp hw
    rw [decide_eq_true c, Bool.and_true] at hd
    have m := (srt_perm _).mem_iff.mp hw
    show (w, (goalT (ordT (rowOf bk p.1).2) w, goalT (ordT (rowOf cl p.2).2) w)) = _
    rw [goalT_ordT m, goalT_ordT (of_decide_eq_true hd)]
  · rw [if_neg c]
    have : (srt ((rowOf bk p.1).2.map (·.1))).filter (fun w => decide (w ∈ (rowOf cl p.2).2.map (·.1)) && decide ((rowOf bk p.1).1 = (rowOf cl p.2).1)) = [] := by
      rw [decide_eq_false c]
      exact List.filter_eq_nil_iff.mpr fun w _ => by simp
    rw [this]; rfl
theorem fitP_ord (o1 : DOk bk st) (o2 : DOk cl st') (hp : InP bk cl p) : fitP (ordB bk) (ordB cl) p = fitP bk cl p := by
  unfold fitP
  rw [rowOf_ord o1.nd hp.1, rowOf_ord o2.nd hp.2]
  dsimp only
  congr 1
  have h : ∀ {ts us : List (Str × Str)}, ((ordT ts).all fun t => decide (t.1 ∈ (ordT us).map (·.1))) = ts.all fun t => decide (t.1 ∈ us.map (·.1)) := fun {ts us} => by
    rw [Bool.eq_iff_iff, all_ord, List.all_eq_true]
    exact ⟨fun h t ht => decide_eq_true (h t ht), fun h t ht => of_decide_eq_true (h t ht)⟩
  rw [h, h]
end
end D1
end L2
namespace L2
namespace D1
open PySem PySem.Spec PyProof.Rows D2 X5 X6
abbrev sPlain : Stmt := top 58
/-- whether a word goes on -/
def tWs : TT := fun σ H Q => ∃ (x : Str) (u1 u2 a2 : Addr) (k1 k2 : Str) (v1 : V) (ts2 : List (Str × Str)), σ[8]? = some (some (.str x)) ∧ σ[5]? = some (some (.ref u1)) ∧ σ[6]? = some (some (.ref u2)) ∧ H u1 = some (.tup [.str k1, v1]) ∧ H u2 = some (.tup [.str k2, .ref a2]) ∧ H a2 = some (.dK (kT ts2)) ∧ Q (decide (x ∈ ts2.map (·.1)) && decide (k1 = k2)) H
section
variable {P : Program} {w : World} {K : PySem.W.Frag} {mg : Str → Option Value} {base : Heap}
abbrev plN : List Str := ["_law_elder", "_law_newer_here", "_law_found", "_law_state", "_law_late", "_law_first", "_law_second", "_law_words_here", "_law_word_here"]
theorem scPl : FnScope plN ["_law_elder", "_law_newer_here"] (defScope sPlain) := ⟨rfl, rfl, rfl, by decide +kernel, rfl, by decide +kernel, by decide +kernel⟩
theorem ok_plain {f : Addr} {fd : FuncData} (F : Fun K "_law_plain_steps" "_law_plain_steps" sPlain f fd) (T : Free3 mg) : FnOk P w K mg base CX0 1 f fd ["_law_elder", "_law_newer_here"] spLPlain := by
  refine F.ok scPl (fun vs H Q E h => ?_) (fun cdv A outer s H vs Q E0' hr h => ?_)
  · obtain ⟨W1, W2, bk, cl, st, st', rfl, _⟩ := h; rfl
  · obtain ⟨W1, W2, bk, cl, st, st', rfl, ⟨b1, hW1, kvs1, hb1, hR1⟩, ⟨b2, hW2, kvs2, hb2, hR2⟩, o1, o2, k⟩ := h
    have hu := hu_of hr
    refine ⟨_, pss_cons (ps_set (i := 2) scPl.nd rfl (Or.inl rfl) pe_dnewT)
      (pss_cons (ps_lock (ps_for PassesOwn.never rfl (pi_keys (pe_ix ix_list (pv 0) pe_int (fun _ _ => rfl))) (pg_name (i := 3) scPl.nd rfl (Or.inl rfl))
        (pss_one (ps_lock (ps_for PassesOwn.never rfl (pi_keys (pe_ix ix_list (pv 1) pe_int (fun _ _ => rfl))) (pg_name (i := 4) scPl.nd rfl (Or.inl rfl))
          (pss_cons (ps_asg (pe_tup (pa_cons (pe_dget hu (pe_ix ix_list (pv 0) pe_int (fun _ _ => rfl)) (pv 3) (fun _ _ => rfl)) (pa_cons (pe_dget hu (pe_ix ix_list (pv 1) pe_int (fun _ _ => rfl)) (pv 4) (fun _ _ => rfl)) pa_nil))) (pg_tup rfl (pgs_cons (pg_name (i := 5) scPl.nd rfl (Or.inr rfl)) (pgs_cons (pg_name (i := 6) scPl.nd rfl (Or.inr rfl)) pgs_nil))))
          (pss_cons (ps_setLc (i := 7) (own := [("_law_word_here", 8)]) (g := gName 8) (tt := tWs) (te := tVar 8) rfl scPl.nd rfl rfl (sw_true rfl rfl rfl rfl) (pi_list (pe_callB (call_sortedD rfl) (by rfl) T.sorted (by decide +kernel) (pa_cons (pe_ix ix_tup (pv 5) pe_int (fun _ _ => rfl)) pa_nil)))
              (blkOk_by (N := plN) (sc := defScope sPlain) (by decide +kernel)) (fun _ _ _ _ _ => pg_name (i := 8) scPl.nd rfl (Or.inl rfl))
              (fun _ _ _ _ _ => pts_one (pt_imp (t' := tWs) (PW.pt (pw_and (pt_cmp (pc_din hu (pv 8) (pe_ix ix_tup (pv 6) pe_int (fun _ _ => rfl))) rfl) (pw_and1 (pt_cmpR op_eq (pe_ix ix_tup (pv 5) pe_int (fun _ _ => rfl)) (pe_ix ix_tup (pv 6) pe_int (fun _ _ => rfl)) rfl)))) (by
                rintro σ H Q ⟨x, u1, u2, a2, k1, k2, v1, ts2, e8, e5, e6, h1, h2, h3, k⟩
                refine ⟨_, e8, _, e6, u2, _, _, _, rfl, rfl, SqT.of h2, atI_nat (j := 1) rfl, a2, _, rfl, .inl ⟨kT ts2, .inr x, .inl h3, rfl, rfl⟩, _, rfl, ?_⟩
                rw [kT_isSome]
                by_cases c : x ∈ ts2.map (·.1)
                · rw [decide_eq_true c] at k ⊢
                  refine iteT ⟨_, e5, u1, _, _, _, rfl, rfl, SqT.of h1, atI_nat (j := 0) rfl, _, e6, u2, _, _, _, rfl, rfl, SqT.of h2, atI_nat (j := 0) rfl, rfl, _, rfl, ?_⟩
                  rw [show decide (V.str k1 = V.str k2) = decide (k1 = k2) by by_cases e : k1 = k2 <;> simp [e]]
                  exact k
                · rw [decide_eq_false c] at k ⊢
                  exact iteF k)))
              (fun _ _ _ _ _ => pv 8))
          (pss_one (ps_dput hu (pv 2) (pe_tup (pa_cons (pv 3) (pa_cons (pv 4) pa_nil))) (pe_callTy (call_dictP rfl) (by rfl) T.dict (by decide +kernel) (pa_cons (pe_lc (own := [("_law_word_here", 8)]) (g := gName 8) (tt := tYes) (te := tTup (tCons (tVar 8) (tCons (tTup (tCons (tDGet (tOp (rIxT K) (tVar 5) (tC (.int 1))) (tVar 8)) (tCons (tDGet (tOp (rIxT K) (tVar 6) (tC (.int 1))) (tVar 8)) tNil))) tNil))) rfl scPl.nd (pi_list (pv 7))
              (blkOk_by (N := plN) (sc := defScope sPlain) (by decide +kernel)) (fun _ _ _ _ _ => pg_name (i := 8) scPl.nd rfl (Or.inl rfl)) (fun _ _ _ _ _ => pts_nil)
              (fun _ _ _ _ _ => pe_tup (pa_cons (pv 8) (pa_cons (pe_tup (pa_cons (pe_dget hu (pe_ix ix_tup (pv 5) pe_int (fun _ _ => rfl)) (pv 8) (fun _ _ => rfl)) (pa_cons (pe_dget hu (pe_ix ix_tup (pv 6) pe_int (fun _ _ => rfl)) (pv 8) (fun _ _ => rfl)) pa_nil))) pa_nil)))) pa_nil)) rfl)))))))))
      (pss_one (ps_ret (pv 2)))), ?_⟩
    refine fun S hS => ?_
    have T0 : TwoW H W1 W2 b1 b2 kvs1 kvs2 bk cl st st' := ⟨.inl hW1, .inl hb1, hR1, .inl hW2, .inl hb2, hR2⟩
    have s0 : Same H (cut [S] (L2.upd H S (.dT []))) := fun b o e => by
      have n := ne_of_none e hS
      rw [cut_out (by simpa using n), upd_ne n]; exact e
    have eS : (L2.upd H S (.dT [])) S = some (.dT []) := upd_same
    generalize L2.upd H S (.dT []) = H1 at s0 eS
    have c1 := s0 _ _ hb1
    obtain ⟨nb1, e1⟩ := cut_some c1
    have nS1 : S ≠ b1 := fun e => nb1 (by simp [e])
    refine ⟨b1, _, e1, trivial, fun od1 => ?_⟩
    have TL := (T0.same s0).lock (od := od1) c1 (.inl ⟨kvs1, bk, rfl, hR1.same s0, o1.ne⟩)
    rw [← cut_comm nb1] at TL
    have eSL : (L2.upd H1 b1 (.frz od1 (.dK kvs1))) S = some (.dT []) := by rw [upd_ne nS1]; exact eS
    have fr1 : cut [S] (L2.upd H1 b1 (.frz od1 (.dK kvs1))) b1 = some (.frz od1 (.dK kvs1)) := by rw [cut_out nb1, upd_same]
    have un1 : ∀ H', Same (cut [S] (L2.upd H1 b1 (.frz od1 (.dK kvs1)))) (cut [S] H') → Same H (cut [S] (L2.upd H' b1 (.dK kvs1))) := fun H' s => Same.trans s0 (cut_unlock nb1 e1 s)
    have lW2 : cut [S] (L2.upd H1 b1 (.frz od1 (.dK kvs1))) W2 = some (.lst [.ref b2, .str st']) := by
      rw [cut_comm nb1, upd_ne (fun e => by rw [e, hb1] at hW2; cases hW2)]; exact s0 _ _ hW2
    have kn1 : ∀ c, H c ≠ none → cut [S] (L2.upd H1 b1 (.frz od1 (.dK kvs1))) c ≠ none := fun c h => by
      rw [cut_comm nb1]; exact kn_upd (kn_same s0 h)
    generalize L2.upd H1 b1 (.frz od1 (.dK kvs1)) = HL at TL eSL fr1 un1 lW2 kn1
    have l1 : bk.length ≤ 60 := o1.len
    have l2 : cl.length ≤ 60 := o2.len
    have eL1 : kvs1.length = bk.length := hR1.len
    have eL2 : kvs2.length = cl.length := hR2.len
    refine ⟨_, rfl, W1, _, _, _, rfl, rfl, .inl (rd_same TL.w1 cut_le), atI_nat (j := 0) rfl, b1, od1, rfl, .inl ⟨kvs1, cut_le _ _ fr1, ?_⟩⟩
    refine for_it (walk_keys (d := b1) (o := od1) (kvs := kvs1)) (fun i σ H' => ∃ (v3 v4 v5 v6 v7 : Option V) (kvs : List (List Key × V)), σ = [some (.ref W1), some (.ref W2), some (.ref S), v3, v4, v5, v6, v7, none] ∧ Same (cut [S] HL) (cut [S] H') ∧ H' S = some (.dT kvs) ∧ QN H (cut [S] H') (stepP (ordB bk) (ordB cl)) kvs (pairsT ((bk.map (·.1)).take i) (cl.map (·.1))))
      ⟨none, none, none, none, none, [], rfl, Same.refl _, eSL, .nil⟩ (fun i σ H' _ ⟨_, _, _, _, _, _, _, z, _⟩ => cut_le _ _ (z _ _ fr1)) ?_ ?_
    · rintro i v σ H2 H3 hi ⟨v3, v4, v5, v6, v7, kvs, rfl, s3, hS3, hQ3⟩ ⟨rfl, kk, v0, hkv, rfl⟩
      obtain ⟨r, hr1, rfl, _⟩ := hR1.at hkv
      have hs1 : (bk.map (·.1))[i]? = some r.1 := by rw [List.getElem?_map, hr1]; rfl
      have T3 := TL.same s3
      have W3 := s3 _ _ lW2
      obtain ⟨d, u, hd0, hd, mu, hu1, lk⟩ := pick_lock T3.d2 W3
      obtain ⟨nd, ed⟩ := cut_some hd
      have nSd : S ≠ d := fun e => nd (by simp [e])
      have oldd : H d ≠ none := by
        rcases hd0 with rfl | rfl
        · rw [hb2]; exact fun e => by cases e
        · rw [hW2]; exact fun e => by cases e
      have ntup : ∀ xs, H3 d ≠ some (.tup xs) := fun xs e => by
        rw [ed] at e
        rcases hu1 with rfl | ⟨_, rfl⟩ <;> cases e
      refine ⟨d, u, ed, mu, fun od2 => ?_⟩
      obtain ⟨o2', fr2⟩ := lk od2
      rw [← cut_comm nd] at fr2
      have TL2 := T3.lock (od := od2) hd (by
        rcases hu1 with rfl | ⟨ys, rfl⟩
        · exact .inl ⟨_, cl, rfl, T3.r2, o2.ne⟩
        · exact .inr ⟨ys, rfl⟩)
      rw [← cut_comm nd] at TL2
      have eS2 : (L2.upd H3 d (.frz od2 u)) S = some (.dT kvs) := by rw [upd_ne nSd]; exact hS3
      have un2 : ∀ H', Same (cut [S] (L2.upd H3 d (.frz od2 u))) (cut [S] H') → Same (cut [S] H3) (cut [S] (L2.upd H' d u)) := fun H' s => cut_unlock nd ed s
      have frd : cut [S] (L2.upd H3 d (.frz od2 u)) d = some (.frz od2 u) := by rw [cut_out nd, upd_same]
      have hQ4 := hQ3.upd (o := .frz od2 u) oldd ntup
      have kn2 : ∀ c, H c ≠ none → cut [S] (L2.upd H3 d (.frz od2 u)) c ≠ none := fun c h => by
        rw [cut_comm nd]; exact kn_upd (kn_same s3 (kn1 c h))
      generalize L2.upd H3 d (.frz od2 u) = HL2 at TL2 fr2 eS2 un2 frd hQ4 kn2
      refine ⟨_, rfl, W2, _, _, _, rfl, rfl, .inl (rd_same TL2.w2 cut_le), atI_nat (j := 0) rfl, b2, o2', rfl, .inl ⟨kvs2, cut_le _ _ fr2, ?_⟩⟩
      refine for_it (walk_keys (d := b2) (o := o2') (kvs := kvs2)) (fun j σ H' => ∃ (v4 v5 v6 v7 : Option V) (kvs : List (List Key × V)), σ = [some (.ref W1), some (.ref W2), some (.ref S), some (.str r.1), v4, v5, v6, v7, none] ∧ Same (cut [S] HL2) (cut [S] H') ∧ H' S = some (.dT kvs) ∧ QN H (cut [S] H') (stepP (ordB bk) (ordB cl)) kvs (pairsT ((bk.map (·.1)).take i) (cl.map (·.1)) ++ ((cl.map (·.1)).take j).map fun t => (r.1, t)))
        ⟨v4, v5, v6, v7, kvs, rfl, Same.refl _, eS2, by rw [List.take_zero, List.map_nil, List.append_nil]; exact hQ4⟩ (fun i σ H' _ ⟨_, _, _, _, _, _, z, _⟩ => cut_le _ _ (z _ _ fr2)) ?_ ?_
      · rintro j v σ H5 H6 hj ⟨v4, v5, v6, v7, kvs, rfl, s5, hS5, hQ5⟩ ⟨rfl, kk, v0, hkv2, rfl⟩
        obtain ⟨r2, hr2, rfl, _⟩ := hR2.at hkv2
        have hs2 : (cl.map (·.1))[j]? = some r2.1 := by rw [List.getElem?_map, hr2]; rfl
        have T5 := (TL2.same s5).same cut_le
        have hs1m : r.1 ∈ bk.map (·.1) := List.mem_of_getElem? hs1
        have hs2m : r2.1 ∈ cl.map (·.1) := List.mem_of_getElem? hs2
        obtain ⟨x1, ev1, ⟨t1, a1, rfl, ht1, h1⟩, m1⟩ := T5.r1.look hs1m
        obtain ⟨x2, ev2, ⟨t2, a2, rfl, ht2, h2⟩, m2⟩ := T5.r2.look hs2m
        have nx := stepP_ord (p := (r.1, r2.1)) o1 o2 ⟨hs1m, hs2m⟩
        unfold stepW at nx
        dsimp only at nx
        have lt1 : (rowOf bk r.1).2.length ≤ 60 := o1.len2 _ m1
        have n1 : ((rowOf bk r.1).2.map (·.1)).Nodup := o1.tk _ m1
        have bothE : bothW bk cl (r.1, r2.1) = fun ws => ws.map fun w => (w, (goalT (rowOf bk r.1).2 w, goalT (rowOf cl r2.1).2 w)) := rfl
        rw [bothE] at nx
        generalize rowOf bk r.1 = q1 at ht1 h1 nx lt1 n1
        generalize rowOf cl r2.1 = q2 at ht2 h2 nx
        obtain ⟨k1, ts1⟩ := q1
        obtain ⟨k2, ts2⟩ := q2
        dsimp only at ht1 h1 nx lt1 ht2 h2 n1
        unfold TurnsAt at h1 h2
        refine ⟨_, rfl, W1, _, _, _, rfl, rfl, .inl T5.w1, atI_nat (j := 0) rfl, _, rfl, b1, _, rfl, .inl ⟨kvs1, .inr r.1, T5.d1, rfl, ev1.symm⟩, ?_⟩
        refine ⟨_, rfl, W2, _, _, _, rfl, rfl, .inl T5.w2, atI_nat (j := 0) rfl, _, rfl, b2, _, rfl, .inl ⟨kvs2, .inr r2.1, T5.d2, rfl, ev2.symm⟩, by show 2 ≤ sizeLine; decide, fun T0 hT0 => ⟨T0, _, rfl, SqT.of upd_same, rfl, _, _, rfl, _, _, rfl, rfl, ?_⟩⟩
        have g1 := Same.new (o := .tup [.ref t1, .ref t2]) hT0
        generalize L2.upd H6 T0 (.tup [.ref t1, .ref t2]) = H7 at g1
        have ht1 := g1 _ _ ht1
        have ht2 := g1 _ _ ht2
        have h1 := g1 _ _ h1
        have h2 := g1 _ _ h2
        have ek : (kT ts1).map (·.1) = (ts1.map (·.1)).map Sum.inr := by rw [kT, List.map_map, List.map_map]; rfl
        refine ⟨_, rfl, t1, _, _, _, rfl, rfl, SqT.of ht1, atI_nat (j := 1) rfl, a1, kT ts1, ts1.map (·.1), rfl, .inl h1, ek, by rw [List.length_map]; omega, fun ys q pm so hq => ?_⟩
        have ey : ys = srt (ts1.map (·.1)) := srt_of pm so
        subst ey
        have ly : (srt (ts1.map (·.1))).length ≤ 60 := by rw [(srt_perm _).length_eq, List.length_map]; exact lt1
        have ymem : ∀ y ∈ srt (ts1.map (·.1)), y ∈ ts1.map (·.1) := fun y hy => (srt_perm _).mem_iff.mp hy
        have ynd : (srt (ts1.map (·.1))).Nodup := (srt_perm _).nodup_iff.mpr n1
        generalize srt (ts1.map (·.1)) = ys at nx hq ly ymem ynd
        have g8 := Same.new (o := .lst (ys.map V.str)) hq
        have hq8 : SL (L2.upd H7 q (.lst (ys.map V.str))) q ys := upd_same
        generalize L2.upd H7 q (.lst (ys.map V.str)) = H8 at g8 hq8
        have ht1 := g8 _ _ ht1
        have ht2 := g8 _ _ ht2
        have h1 := g8 _ _ h1
        have h2 := g8 _ _ h2
        refine ⟨q, rfl, ⟨_, hq8.sq⟩, fun M hM => ?_⟩
        refine lc_list (K := K) (a := q) (xs := ys.map V.str) (fun j H' => Same H8 H' ∧ SL H' M ((ys.take j).filter fun w => decide (w ∈ ts2.map (·.1)) && decide (k1 = k2))) ⟨Same.new hM, upd_same⟩ (fun j H' _ z => (hq8.same z.1).sq) ?_ ?_
        · rintro j x H9 hx0 ⟨sm, hM9⟩
          obtain ⟨y, hyj, rfl⟩ := get_map hx0
          have ll : ((ys.take j).filter fun w => decide (w ∈ ts2.map (·.1)) && decide (k1 = k2)).length ≤ 60 := by
            have := List.length_filter_le (fun w => decide (w ∈ ts2.map (·.1)) && decide (k1 = k2)) (ys.take j)
            rw [List.length_take] at this
            omega
          refine ⟨rfl, y, t1, t2, a2, k1, k2, _, ts2, rfl, rfl, rfl, sm _ _ ht1, sm _ _ ht2, sm _ _ h2, ?_⟩
          cases c : (decide (y ∈ ts2.map (·.1)) && decide (k1 = k2)) with
          | true =>
            rw [filt_yes hyj c]
            refine iteT ⟨_, rfl, _, hM9, by rw [List.length_map, sizeLine_eq]; omega, fun c0 u e => ?_, by rw [SL, upd_same, List.map_append]; rfl⟩
            rw [upd_ne (ne_of_none e hM)]; exact sm _ _ e
          | false =>
            rw [filt_no hyj c]
            exact iteF ⟨sm, hM9⟩
        rintro H9 ⟨s9, hM9⟩
        rw [List.length_map, List.take_length] at hM9
        have zmem : ∀ z ∈ ys.filter (fun w => decide (w ∈ ts2.map (·.1)) && decide (k1 = k2)), z ∈ ts1.map (·.1) ∧ z ∈ ts2.map (·.1) := fun z hz => by
          obtain ⟨hy, hd⟩ := List.mem_filter.mp hz
          rw [Bool.and_eq_true] at hd
          exact ⟨ymem z hy, of_decide_eq_true hd.1⟩
        have znd : (ys.filter (fun w => decide (w ∈ ts2.map (·.1)) && decide (k1 = k2))).Nodup := ynd.sublist List.filter_sublist
        have lz : (ys.filter (fun w => decide (w ∈ ts2.map (·.1)) && decide (k1 = k2))).length ≤ 60 := Nat.le_trans (List.length_filter_le _ _) ly
        generalize ys.filter (fun w => decide (w ∈ ts2.map (·.1)) && decide (k1 = k2)) = zs at nx hM9 zmem znd lz
        have ht1 := s9 _ _ ht1
        have ht2 := s9 _ _ ht2
        have h1 := s9 _ _ h1
        have h2 := s9 _ _ h2
        refine ⟨_, rfl, M, rfl, ⟨_, hM9.sq⟩, fun D hD => ?_⟩
        refine lc_list (K := K) (a := M) (xs := zs.map V.str) (fun j H' => Same H9 H' ∧ ∃ (qs : List Addr) (kv2 : List (Key × V)), H' D = some (.lst (qs.map V.ref)) ∧ Paired (fun a (kv : Key × V) => (cut [D] H') a = some (.tup [kV kv.1, kv.2])) qs kv2 ∧ PRows (cut [D] H') kv2 ((zs.take j).map fun w => (w, (goalT ts1 w, goalT ts2 w)))) ⟨Same.new hD, [], [], upd_same, .nil, .nil⟩ (fun j H' _ z => (hM9.same z.1).sq) ?_ ?_
        · rintro j v H10 hx0 ⟨sm, qs, kv2, hD5, hpr, hpP⟩
          obtain ⟨x, hxj, rfl⟩ := get_map hx0
          obtain ⟨xm1, xm2⟩ := zmem x (List.mem_of_getElem? hxj)
          refine ⟨rfl, ?_⟩
          dsimp only [tYes]
          rw [if_pos rfl]
          refine ⟨_, rfl, _, rfl, t1, _, _, _, rfl, rfl, SqT.of (sm _ _ ht1), atI_nat (j := 1) rfl, _, rfl, a1, _, rfl, .inl ⟨kT ts1, .inr x, .inl (sm _ _ h1), rfl, (valV_goal xm1).symm⟩, _, rfl, t2, _, _, _, rfl, rfl, SqT.of (sm _ _ ht2), atI_nat (j := 1) rfl, _, rfl, a2, _, rfl, .inl ⟨kT ts2, .inr x, .inl (sm _ _ h2), rfl, (valV_goal xm2).symm⟩, by show 2 ≤ sizeLine; decide, fun Z1 hZ1 => ⟨by show 2 ≤ sizeLine; decide, fun Z2 hZ2 => ?_⟩⟩
          have gg := Same.new (o := .tup [.str (goalT ts1 x), .str (goalT ts2 x)]) hZ1
          have ee : (L2.upd H10 Z1 (.tup [.str (goalT ts1 x), .str (goalT ts2 x)])) Z1 = some (.tup [.str (goalT ts1 x), .str (goalT ts2 x)]) := upd_same
          have nZ1 : Z1 ≠ D := fun e => by rw [e, hD5] at hZ1; cases hZ1
          generalize L2.upd H10 Z1 (.tup [.str (goalT ts1 x), .str (goalT ts2 x)]) = H11 at gg ee hZ2
          have g2 := Same.new (o := .tup [.str x, .ref Z1]) hZ2
          have e2 : (L2.upd H11 Z2 (.tup [.str x, .ref Z1])) Z2 = some (.tup [.str x, .ref Z1]) := upd_same
          have nZ2 : Z2 ≠ D := fun e => by rw [e, gg _ _ hD5] at hZ2; cases hZ2
          generalize L2.upd H11 Z2 (.tup [.str x, .ref Z1]) = H12 at g2 e2
          have g3 := Same.trans gg g2
          have lqs : qs.length ≤ 60 := by rw [paired_len hpr, hpP.len, List.length_map, List.length_take]; omega
          refine ⟨_, g3 _ _ hD5, by rw [List.length_map, sizeLine_eq]; omega, fun c u e => ?_, qs ++ [Z2], kv2 ++ [((Sum.inr x, .ref Z1) : Key × V)], by rw [upd_same, List.map_append]; rfl, ?_, ?_⟩
          · rw [upd_ne (ne_of_none e hD)]; exact g3 _ _ (sm _ _ e)
          · rw [cut_upd (by simp)]
            exact pair_app (paired_imp (fun p kv e => cut_same g3 _ _ e) hpr) (by rw [cut_out (by simpa using nZ2)]; exact e2)
          · rw [cut_upd (by simp), take_succ_get hxj, List.map_append]
            exact pair_app (hpP.same (cut_same g3)) ⟨rfl, Z1, rfl, by rw [PAt, cut_out (by simpa using nZ1)]; exact g2 _ _ ee⟩
        rintro H10 ⟨s10, qs, kv2, hD10, hpr, hpP⟩
        rw [List.length_map, List.take_length] at hpP
        refine ⟨D, qs, kv2, rfl, SqL.of hD10, paired_imp (fun p kv e => SqT.of (cut_le _ _ e)) hpr, fun R hR => ?_⟩
        rw [merge_id2 (by
          rw [hpP.keys, List.map_map]
          have := inr_nd' znd
          exact this)]
        have hpP := hpP.same cut_le
        rw [← nx] at hpP
        have gR := Same.new (o := .dK kv2) hR
        have eR : (L2.upd H10 R (.dK kv2)) R = some (.dK kv2) := upd_same
        have s68 : Same H6 H10 := Same.trans g1 (Same.trans g8 (Same.trans s9 s10))
        have nR : H6 R = none := s68.free hR
        have hR11 : PTAt (L2.upd H10 R (.dK kv2)) R (stepP (ordB bk) (ordB cl) (r.1, r2.1)) := ⟨kv2, eR, hpP.same gR⟩
        generalize L2.upd H10 R (.dK kv2) = H8' at gR hR11
        have s8 : Same H6 H8' := Same.trans s68 gR
        have hR := hR11
        refine ⟨_, rfl, _, rfl, _, rfl, by show 2 ≤ sizeLine; decide, fun T2 hT2 => ?_⟩
        have g2 := Same.new (o := .tup [.str r.1, kV (Sum.inr r2.1)]) hT2
        have eT2 : (L2.upd H8' T2 (.tup [.str r.1, kV (Sum.inr r2.1)])) T2 = some (.tup ((kP (r.1, r2.1)).map kV)) := upd_same
        have hR9 := hR.same g2
        generalize L2.upd H8' T2 (.tup [.str r.1, kV (Sum.inr r2.1)]) = H9 at g2 eT2 hR9
        have s69 := Same.trans s8 g2
        have hS9 := s69 _ _ hS5
        have lkv : kvs.length ≤ 3660 := by
          rw [QRows.len hQ5.q, List.length_append, pairsT_len]; simp only [List.length_map, List.length_take]
          have : min i bk.length * cl.length ≤ 60 * 60 := Nat.mul_le_mul (by omega) l2
          omega
        refine ⟨S, _, rfl, DPut.t (k := kP (r.1, r2.1)) hS9 eT2 (by rw [sizeLine_eq]; omega), ?_⟩
        have fresh : (r.1, r2.1) ∉ pairsT ((bk.map (·.1)).take i) (cl.map (·.1)) ++ ((cl.map (·.1)).take j).map fun t => (r.1, t) := fun m => by
          rcases List.mem_append.mp m with m | m
          · exact nd_take o1.nd hs1 (mem_pairsT.mp m).1
          · obtain ⟨t, ht, e⟩ := List.mem_map.mp m
            have e : t = r2.1 := (Prod.ext_iff.mp e).2
            exact nd_take o2.nd hs2 (e ▸ ht)
        rw [L2.putK_new _ (valT_none fresh hQ5.q.keys)]
        refine ⟨_, _, _, _, _, rfl, ?_, upd_same, ?_⟩
        · rw [cut_upd (by simp)]; exact Same.trans s5 (cut_same s69)
        · rw [cut_upd (by simp), take_succ_get hs2, List.map_append, ← List.append_assoc]
          have nRS : R ≠ S := fun e => by rw [e, hS5] at nR; cases nR
          refine paired_snoc (hQ5.same (cut_same s69)) ⟨rfl, R, rfl, ?_, ptat_cut hR9 fun q hq => by rw [List.mem_singleton.mp hq]; exact .inl ⟨_, hS9⟩⟩
          have n6 := nR
          exact Classical.byContradiction fun h => kn_same (Same.trans s5 cut_le) (kn2 R h) n6
      · rintro σ H5 ⟨v4, v5, v6, v7, kvs, rfl, s5, hS5, hQ5⟩
        have fd := cut_le _ _ (s5 _ _ frd)
        rw [eL2, ← List.length_map (·.1), List.take_length, ← pairsT_snoc, ← take_succ_get hs1] at hQ5
        refine ⟨fd, _, _, _, _, _, kvs, rfl, Same.trans s3 (un2 _ s5), by rw [upd_ne nSd]; exact hS5, hQ5.upd oldd fun xs e => by rw [fd] at e; cases e⟩
    · rintro σ H2 ⟨v3, v4, v5, v6, v7, kvs, rfl, s2, hS2, hQ2⟩
      have f1 := cut_le _ _ (s2 _ _ fr1)
      rw [eL1, ← List.length_map (·.1), List.take_length] at hQ2
      refine ⟨f1, _, rfl, ?_⟩
      have nb0 : H b1 ≠ none := by rw [hb1]; exact fun e => by cases e
      refine k _ S (Same.trans (un1 _ s2) cut_le) hS ⟨kvs, by rw [upd_ne nS1]; exact hS2, ?_⟩
      exact (hQ2.upd nb0 fun xs e => by rw [f1] at e; cases e).q.same cut_le
end
end D1
end L2
namespace L2
namespace D1
open PySem PySem.Spec PyProof.Rows D2 X5 X6
end D1
end L2
namespace L2
namespace D1
open PySem PySem.Spec PyProof.Rows D2 X5 X6
def spLClosedN (NX : Bk → Bk → Pr → List (Str × Pr)) : Sp := fun vs H Q _ => ∃ (G z : Addr) (bk cl : Bk) (ns : List Pr) (p : Pr), vs = [.ref G, .ref z] ∧ QrAt H G (NX bk cl) ns ∧ (∀ q, InP bk cl q → q ∈ ns) ∧ BB bk cl ∧ PAt H z p ∧ InP bk cl p ∧
  ∀ H' R ys gs, Same H H' → H R = none → H' R = some (.lst (ys.map V.ref)) → PL H' ys gs → RnAll (NX bk cl) p gs → Q (.ref R) H'
section
variable {P : Program} {w : World} {K : PySem.W.Frag} {mg : Str → Option Value} {base : Heap}
abbrev lcM : List Str := ["_law_steps", "_law_first", "_law_found", "_law_known", "_law_at", "_law_goals", "_law_word_here"]
theorem scLcN : FnScope lcM ["_law_steps", "_law_first"] (defScope sLClosed) := ⟨rfl, rfl, rfl, by decide +kernel, rfl, by decide +kernel, by decide +kernel⟩
theorem ok_lclosedN {NX : Bk → Bk → Pr → List (Str × Pr)} (N : NxOk NX) {f : Addr} {fd : FuncData} (F : Fun K "_law_closed" "_law_closed" sLClosed f fd) (T : Free4 mg) : FnOk P w K mg base CX0 1 f fd ["_law_steps", "_law_first"] (spLClosedN NX) := by
  refine F.ok scLcN (fun vs H Q E h => ?_) (fun cdv A outer s H vs Q E0' hr h => ?_)
  · obtain ⟨G, z, bk, cl, ns, p, rfl, _⟩ := h; rfl
  · obtain ⟨G, z, bk, cl, ns, p, rfl, hG, all, bb, hz, hp, k⟩ := h
    have hu := hu_of hr
    refine ⟨_, pss_cons (ps_par3 (i := 2) (j := 3) (l := 4) rfl scLcN.nd rfl rfl rfl (by decide) (by decide) (by decide) rfl rfl rfl (pa_cons (pe_lst (pa_cons (pv 1) pa_nil)) (pa_cons (pe_disp1T (Nat.lt_of_succ_lt hu) (pv 1) pe_bl) (pa_cons pe_int pa_nil))) (by rfl))
      (pss_cons (ps_while PassesOwn.never (pt_cmpR op_lt (pv 4) (pe_callB call_len_seq (by rfl) T.len PySem.boot_len (pa_cons (pv 2) pa_nil)) (nomark _))
        (pss_cons (ps_set (i := 5) scLcN.nd rfl (Or.inl rfl) (pe_ifExp (pt_cmp (pc_din hu (pe_ix ix_list (pv 2) (pv 4) (fun _ _ => rfl)) (pv 0)) rfl) (pe_dget hu (pv 0) (pe_ix ix_list (pv 2) (pv 4) (fun _ _ => rfl)) (fun _ _ => rfl)) pe_dnewK))
        (pss_cons (ps_lock (ps_for PassesOwn.never rfl (pi_keys (pv 5)) (pg_name (i := 6) scLcN.nd rfl (Or.inl rfl))
          (pss_one (ps_if (pt_cmp (pc_dnotin hu (pe_dget hu (pv 5) (pv 6) (fun _ _ => rfl)) (pv 3)) rfl)
            (pss_cons (ps_dput hu (pv 3) (pe_dget hu (pv 5) (pv 6) (fun _ _ => rfl)) pe_bl rfl)
            (pss_one (ps_expr (pe_bm PySem.F.plainAttrs_list PySem.F.slot_list_append PySem.F.type_list_append mt_append (pv 2) (pa_cons (pe_dget hu (pv 5) (pv 6) (fun _ _ => rfl)) pa_nil))))) pss_nil))))
        (pss_one (ps_set (i := 4) scLcN.nd rfl (Or.inl rfl) (pe_op op_add (pv 4) pe_int))))))
      (pss_one (ps_ret (pv 2)))), ?_⟩
    refine ⟨_, rfl, by show 1 ≤ sizeLine; decide, fun F0 hF => ?_⟩
    have s1 := Same.new (o := .lst [.ref z]) hF
    have eF1 : (L2.upd H F0 (.lst [.ref z])) F0 = some (.lst [.ref z]) := upd_same
    generalize L2.upd H F0 (.lst [.ref z]) = H1 at s1 eF1
    refine fun Kn hK => ⟨_, rfl, upd_same, z, kP p, rfl, Same.new hK _ _ (s1 _ _ hz), ?_⟩
    rw [updd2]
    have nFK : F0 ≠ Kn := ne_of_none eF1 hK
    have hK0 : H Kn = none := s1.free hK
    have s2 : Same H (cut [F0, Kn] (L2.upd H1 Kn (.dT [(kP p, .bl true)]))) := fun b o e => by
      have n1 := ne_of_none e hF
      have n2 := ne_of_none e hK0
      rw [cut_out (by simp [n1, n2]), upd_ne n2]; exact s1 _ _ e
    have eF2 : (L2.upd H1 Kn (.dT [(kP p, .bl true)])) F0 = some (.lst [.ref z]) := by rw [upd_ne nFK]; exact eF1
    have eK2 : (L2.upd H1 Kn (.dT [(kP p, .bl true)])) Kn = some (.dT (FT [p])) := upd_same
    generalize L2.upd H1 Kn (.dT [(kP p, .bl true)]) = H3 at s2 eF2 eK2
    refine ⟨_, _, _, rfl, ?_⟩
    have s3 := s2
    have eF3 := eF2
    have eK3 := eK2
    clear s2 eF2 eK2
    refine ⟨fun m σ H' => ∃ (i : Nat) (ms : List Pr) (ys : List Addr) (v5 v6 : Option V), σ = [some (.ref G), some (.ref z), some (.ref F0), some (.ref Kn), some (.int i), v5, v6] ∧ Same H (cut [F0, Kn] H') ∧ H' F0 = some (.lst (ys.map V.ref)) ∧ H' Kn = some (.dT (FT ms)) ∧
        PL (cut [F0, Kn] H') ys ms ∧ BIp (NX bk cl) p (ms.take i) ms ∧ i ≤ ms.length ∧ m = 3601 - i,
      ⟨_, 0, [p], [z], none, none, rfl, s3, eF3, eK3, .cons (s3 _ _ hz) .nil, ⟨List.nodup_cons.mpr ⟨by simp, List.nodup_nil⟩, fun x hx => (List.mem_singleton.mp hx) ▸ .here, List.mem_singleton.mpr rfl, fun x hx => by simp at hx⟩, Nat.zero_le _, rfl⟩, ?_⟩
    rintro m σ H4 ⟨i, ms, ys, v5, v6, rfl, s4, hF4, hK4, hy4, b4, hi, rfl⟩
    have ly : ys.length = ms.length := paired_len hy4
    refine ⟨_, rfl, _, rfl, F0, _, rfl, .inl (SqL.of hF4), _, _, rfl, rfl, _, rfl, ?_⟩
    rw [List.length_map, ly]
    rcases (Classical.em (i < ms.length)).symm with hlt | hlt
    · refine (if_neg (by rw [decide_eq_false (by omega)]; decide)).mpr ⟨_, rfl, ?_⟩
      have : i = ms.length := by omega
      rw [this, List.take_length] at b4
      exact k H4 F0 ys ms (Same.trans s4 cut_le) hF hF4 (hy4.same cut_le) b4.done
    refine (if_pos (decide_eq_true (by omega))).mpr ⟨_, fun σ' H' h => h, ?_⟩
    have hx := List.getElem?_eq_getElem hlt
    have hzx := List.getElem?_eq_getElem (show i < ys.length by omega)
    generalize ms[i] = x at hx
    generalize ys[i] = zx at hzx
    have xm := List.mem_of_getElem? hx
    obtain ⟨x', hx', hax⟩ := paired_get hy4 hzx
    obtain rfl : x = x' := Option.some.inj (hx.symm.trans hx')
    have hax4 : PAt H4 zx x := cut_le _ _ hax
    have rx := b4.rc x xm
    have ix := rx.inN N bb hp
    obtain ⟨kvs, hG0, hQ0⟩ := id hG
    obtain ⟨R, va, kr, hR0, pR0⟩ := hQ0.look (all x ix)
    have hG4 := cut_le _ _ (s4 _ _ hG0)
    have dg : DGet H4 G (.ref zx) (some (.ref R)) := by rw [← va]; exact DGet.t (k := kP x) hG4 hax4
    have ha : atI (ys.map V.ref) (i : Int) = some (.ref zx) := atI_nat (j := i) (by rw [List.getElem?_map, hzx]; rfl)
    refine ⟨_, rfl, _, rfl, F0, _, _, _, rfl, rfl, SqL.of hF4, ha, _, rfl, G, _, rfl, dg, _, rfl, iteT ⟨_, rfl, _, rfl, _, rfl, F0, _, _, _, rfl, rfl, SqL.of hF4, ha, G, _, rfl, dg, ?_⟩⟩
    obtain ⟨nRS, hR4⟩ := cut_some (s4 _ _ hR0)
    have pR4 := pR0.same s4
    have nRF : R ≠ F0 := fun e => nRS (by simp [e])
    have nRK : R ≠ Kn := fun e => nRS (by simp [e])
    have lR : kr.length = (NX bk cl x).length := PRows.len pR0
    refine ⟨R, _, hR4, trivial, fun od => ?_⟩
    have frR : cut [F0, Kn] (L2.upd H4 R (.frz od (.dK kr))) R = some (.frz od (.dK kr)) := by rw [cut_out nRS, upd_same]
    have un : ∀ H', Same (cut [F0, Kn] (L2.upd H4 R (.frz od (.dK kr)))) (cut [F0, Kn] H') → Same (cut [F0, Kn] H4) (cut [F0, Kn] (L2.upd H' R (.dK kr))) := fun H' s => cut_unlock nRS hR4 s
    have hF5 : (L2.upd H4 R (.frz od (.dK kr))) F0 = some (.lst (ys.map V.ref)) := by rw [upd_ne nRF.symm]; exact hF4
    have hK5 : (L2.upd H4 R (.frz od (.dK kr))) Kn = some (.dT (FT ms)) := by rw [upd_ne nRK.symm]; exact hK4
    have hy5 := pl_lock (od := od) hR4 hy4
    have pR5 : PRows (cut [F0, Kn] (L2.upd H4 R (.frz od (.dK kr)))) kr (NX bk cl x) := paired_imp (fun kv t ⟨e1, u, e2, e3⟩ => ⟨e1, u, e2, by
      have e3 : cut [F0, Kn] H4 u = _ := e3
      obtain ⟨n1, e4⟩ := cut_some e3
      show cut [F0, Kn] _ u = _
      rw [cut_out n1, upd_ne (fun q => by rw [q, hR4] at e4; cases e4)]; exact e4⟩) pR4
    generalize L2.upd H4 R (.frz od (.dK kr)) = HL at frR un hF5 hK5 hy5 pR5
    refine ⟨_, rfl, R, od, rfl, .inl ⟨kr, cut_le _ _ frR, ?_⟩⟩
    refine for_it (walk_keys (d := R) (o := od) (kvs := kr)) (fun j σ H' => ∃ (ms2 : List Pr) (ys2 : List Addr) (v6 : Option V), σ = [some (.ref G), some (.ref z), some (.ref F0), some (.ref Kn), some (.int i), some (.ref R), v6] ∧ Same (cut [F0, Kn] HL) (cut [F0, Kn] H') ∧ H' F0 = some (.lst (ys2.map V.ref)) ∧ H' Kn = some (.dT (FT ms2)) ∧
        PL (cut [F0, Kn] H') ys2 ms2 ∧ BIp (NX bk cl) p (ms2.take i) ms2 ∧ ms2[i]? = some x ∧ ∀ t ∈ (NX bk cl x).take j, t.2 ∈ ms2)
      ⟨ms, ys, v6, rfl, Same.refl _, hF5, hK5, hy5, b4, hx, fun t ht => by simp at ht⟩ (fun j σ H' _ ⟨_, _, _, _, z, _⟩ => cut_le _ _ (z _ _ frR)) ?_ ?_
    · rintro j v σ H7 H8 hj ⟨ms2, ys2, v6, rfl, s7, hF7, hK7, hy7, b7, x7, t7⟩ ⟨rfl, kk, v0, hkv, rfl⟩
      obtain ⟨t, ht, ek, _⟩ := paired_get pR5 hkv
      have ek : kk = Sum.inr t.1 := ek
      subst ek
      have nd := N.nd bb ix
      obtain ⟨u, vz, hu5⟩ := pR5.get nd ht
      have hu7c : PAt (cut [F0, Kn] H8) u t.2 := s7 _ _ hu5
      have hu7 : PAt H8 u t.2 := cut_le _ _ hu7c
      have frR8 := cut_le _ _ (s7 _ _ frR)
      have dgw : DGet H8 R (V.str t.1) (some (.ref u)) := .inl ⟨kr, .inr t.1, .inr ⟨od, frR8⟩, rfl, vz.symm⟩
      have htm : t ∈ NX bk cl x := List.mem_of_getElem? ht
      have etk : ∀ q, q ∈ (NX bk cl x).take (j + 1) ↔ q ∈ (NX bk cl x).take j ∨ q = t := fun q => by rw [take_succ_get ht, List.mem_append, List.mem_singleton]
      have l7 := b7.leN N bb hp
      have li : i < ms2.length := (List.getElem?_eq_some_iff.mp x7).1
      refine ⟨_, rfl, _, rfl, R, _, rfl, dgw, _, rfl, Kn, _, rfl, DGet.t (k := kP t.2) hK7 hu7, _, rfl, ?_⟩
      rw [FT_val]
      by_cases c : t.2 ∈ ms2
      · rw [decide_eq_true c]
        exact iteF ⟨ms2, ys2, _, rfl, s7, hF7, hK7, hy7, b7, x7, fun q hq => ((etk q).mp hq).elim (t7 q) fun e => e ▸ c⟩
      · rw [decide_eq_false c]
        refine iteT ⟨_, rfl, _, rfl, _, rfl, R, _, rfl, dgw, Kn, _, rfl, DPut.t (k := kP t.2) hK7 hu7 (by rw [FT, List.length_map, sizeLine_eq]; omega), ?_⟩
        rw [FT_put c]
        have hF9 : (L2.upd H8 Kn (.dT (FT (ms2 ++ [t.2])))) F0 = some (.lst (ys2.map V.ref)) := by rw [upd_ne nFK]; exact hF7
        have dgw9 : DGet (L2.upd H8 Kn (.dT (FT (ms2 ++ [t.2])))) R (V.str t.1) (some (.ref u)) := .inl ⟨kr, .inr t.1, .inr ⟨od, by rw [upd_ne nRK]; exact frR8⟩, rfl, vz.symm⟩
        have lys : ys2.length = ms2.length := paired_len hy7
        refine ⟨_, rfl, .inl ⟨rfl, _, SqL.of hF9⟩, _, rfl, _, rfl, R, _, rfl, dgw9, F0, _, _, rfl, rfl, hF9, by rw [List.length_map, sizeLine_eq]; omega, ?_⟩
        have cc : cut [F0, Kn] (L2.upd (L2.upd H8 Kn (.dT (FT (ms2 ++ [t.2])))) F0 (.lst (ys2.map V.ref ++ [.ref u]))) = cut [F0, Kn] H8 := by rw [cut_upd (by simp), cut_upd (by simp)]
        refine ⟨ms2 ++ [t.2], ys2 ++ [u], _, rfl, by rw [cc]; exact s7, by rw [upd_same, List.map_append]; rfl, by rw [upd_ne nFK.symm, upd_same], by rw [cc]; exact paired_snoc hy7 hu7c, ?_, by rw [List.getElem?_append_left li]; exact x7, fun q hq => ?_⟩
        · rw [List.take_append_of_le_length (Nat.le_of_lt li)]
          exact b7.find c (.next rx htm)
        · rcases (etk q).mp hq with h | h
          · exact List.mem_append_left _ (t7 q h)
          · rw [h]; exact List.mem_append_right _ (List.mem_singleton.mpr rfl)
    · rintro σ H7 ⟨ms2, ys2, v6, rfl, s7, hF7, hK7, hy7, b7, x7, t7⟩
      have fR := cut_le _ _ (s7 _ _ frR)
      have li : i < ms2.length := (List.getElem?_eq_some_iff.mp x7).1
      have l7 := b7.leN N bb hp
      rw [lR, List.take_length] at t7
      refine ⟨fR, _, rfl, _, _, rfl, rfl, _, ?_, i + 1, ms2, ys2, _, _, rfl, Same.trans s4 (un _ s7), by rw [upd_ne nRF.symm]; exact hF7, by rw [upd_ne nRK.symm]; exact hK7, pl_unlock fR hy7, ⟨b7.nd, b7.rc, b7.st, fun y hy t ht => ?_⟩, li, rfl⟩
      · omega
      · rw [take_succ_get x7] at hy
        rcases List.mem_append.mp hy with h | h
        · exact b7.cl y h t ht
        · rw [List.mem_singleton.mp h] at ht
          exact t7 t ht
end
end D1
end L2
namespace L2
namespace Dq
open PySem PySem.Spec PyProof.Rows PySem.W D1
/-- data of one type, as the heap has it -/
class Dt (α : Type) [DecidableEq α] [DatumOrd α] where
  At : Hp → V → α → Prop
  same : ∀ {H H' : Hp} {v : V} {x : α}, Same H H' → At H v x → At H' v x
  holds : ∀ {X : Cx} {pins : List (Addr × Obj)} {σ : St} {H : Hp} {s : Shared} {v : V} {u : Value} {x : α}, Inv X pins σ H s → At H v x → RelV v u → Holds s.heap u x
  sorts : (∀ b : α, ∃ x r, Datum.toD b = .tuple (x :: r)) ∨ ∀ b : α, Datum.toD b ≠ .none ∧ ∀ xs, Datum.toD b ≠ .tuple xs
instance : Dt Str where
  At _ v x := v = .str x
  same _ h := h
  holds _ h r := by
    subst h
    obtain ⟨t, rfl⟩ := r
    exact holds_str _ t
  sorts := .inr fun b => ⟨fun e => (by cases e), fun xs e => (by cases e)⟩
instance : Dt (Str × Str) where
  At H v p := ∃ z, v = .ref z ∧ H z = some (.tup [.str p.1, .str p.2])
  same s := fun ⟨z, e, h⟩ => ⟨z, e, s _ _ h⟩
  holds I h r := by
    obtain ⟨z, rfl, h⟩ := h
    cases r
    obtain ⟨its, rv, ht, _⟩ := I.tuple (SqT.of h)
    cases rv with
    | cons r1 rv => cases rv with
      | cons r2 rv =>
        cases rv
        obtain ⟨t1, rfl⟩ := r1
        obtain ⟨t2, rfl⟩ := r2
        exact holds_pair ht (holds_str _ t1) (holds_str _ t2)
  sorts := .inl fun b => ⟨_, _, rfl⟩
/-- item by item -/
def Ats {α : Type} [DecidableEq α] [DatumOrd α] [Dt α] (H : Hp) (vs : List V) (xs : List α) : Prop := Paired (Dt.At H) vs xs
section
variable {α : Type} [DecidableEq α] [DatumOrd α] [Dt α]
theorem Ats.same {H H' : Hp} {vs : List V} {xs : List α} (h : Ats H vs xs) (s : Same H H') : Ats H' vs xs := paired_imp (fun _ _ => Dt.same s) h
theorem Ats.len {H : Hp} {vs : List V} {xs : List α} (h : Ats H vs xs) : vs.length = xs.length := paired_len h
theorem Ats.holds {X : Cx} {pins : List (Addr × Obj)} {σ : St} {H : Hp} {s : Shared} (I : Inv X pins σ H s) : ∀ {vs : List V} {us : List Value} {xs : List α}, Ats H vs xs → Vals vs us → HoldAll s.heap us xs
  | _, _, _, .nil, .nil => HoldAll.nil
  | _, _, _, .cons h t, .cons r q => HoldAll.cons (Dt.holds I h r) (Ats.holds I t q)
instance : Dt (List α) where
  At H v xs := ∃ a vs, v = .ref a ∧ H a = some (.lst vs) ∧ Ats H vs xs
  same s := fun ⟨a, vs, e, h, t⟩ => ⟨a, vs, e, s _ _ h, t.same s⟩
  holds I h r := by
    obtain ⟨a, vs, rfl, h, t⟩ := h
    cases r
    obtain ⟨its, rv, hl, _⟩ := I.list (SqL.of h)
    exact holds_list hl.isList (by simpa using Ats.holds I t rv)
  sorts := .inr fun b => ⟨fun e => (by cases e), fun xs e => (by cases e)⟩
/-- x in xs, x == y: as truth values -/
def memG (p : α) (ps : List α) : Bool := decide (p ∈ ps)
def eqG (p q : α) : Bool := decide (p = q)
theorem memG_iff {p : α} {ps : List α} : memG p ps = true ↔ p ∈ ps := decide_eq_true_iff
theorem memG_not {p : α} {ps : List α} : memG p ps = false ↔ p ∉ ps := decide_eq_false_iff_not
theorem eqG_iff {p q : α} : eqG p q = true ↔ p = q := decide_eq_true_iff
theorem memG_nin (p : α) (ps : List α) : decide (p ∉ ps) = !memG p ps := by unfold memG; exact decide_not
theorem eqG_ne (p q : α) : decide (p ≠ q) = !eqG p q := by unfold eqG; exact decide_not
variable (α)
def rLt : R2 := fun x y H Q => ∃ p q : α, Dt.At H x p ∧ Dt.At H y q ∧ Q (.bl (DatumOrd.lt p q)) H
def rEq : R2 := fun x y H Q => ∃ p q : α, Dt.At H x p ∧ Dt.At H y q ∧ Q (.bl (eqG p q)) H
def rNe : R2 := fun x y H Q => ∃ p q : α, Dt.At H x p ∧ Dt.At H y q ∧ Q (.bl (!eqG p q)) H
def rIn (K : PySem.W.Frag) : R2 := fun x y H Q => ∃ (p : α) (ps : List α) (a : Addr) (vs : List V), Dt.At H x p ∧ y = .ref a ∧ SqL K H a vs ∧ Ats H vs ps ∧ Q (.bl (memG p ps)) H
def rNotIn (K : PySem.W.Frag) : R2 := fun x y H Q => ∃ (p : α) (ps : List α) (a : Addr) (vs : List V), Dt.At H x p ∧ y = .ref a ∧ SqL K H a vs ∧ Ats H vs ps ∧ Q (.bl (!memG p ps)) H
/-- in order: the least first -/
def leG (a b : α) : Bool := !DatumOrd.lt b a
def srtG (ps : List α) : List α := ps.mergeSort (leG α)
def rSort (K : PySem.W.Frag) : List V → Hp → VK → Prop := fun xs H Q => ∃ (a : Addr) (vs : List V) (ps : List α), xs = [.ref a] ∧ SqL K H a vs ∧ Ats H vs ps ∧
  ∀ (p : Addr) (ws : List V), Ats H ws (srtG α ps) → H p = none → Q (.ref p) (L2.upd H p (.lst ws))
/-- also: its items are the old ones -/
def rSortF (K : PySem.W.Frag) : List V → Hp → VK → Prop := fun xs H Q => ∃ (a : Addr) (vs : List V) (ps : List α), xs = [.ref a] ∧ SqL K H a vs ∧ Ats H vs ps ∧
  ∀ (p : Addr) (ws : List V), Ats H ws (srtG α ps) → H p = none → (∀ v ∈ ws, v ∈ vs) → Q (.ref p) (L2.upd H p (.lst ws))
/-- what is not yet in the heap -/
def Frs (H : Hp) (vs : List V) : Prop := ∀ v ∈ vs, ∀ a, v = .ref a → H a = none
theorem Frs.sub {H : Hp} {vs ws : List V} (h : Frs H vs) (s : ∀ v ∈ ws, v ∈ vs) : Frs H ws := fun v hv => h v (s v hv)
theorem Frs.app {H : Hp} {vs ws : List V} (h : Frs H vs) (g : Frs H ws) : Frs H (vs ++ ws) := fun v hv => (List.mem_append.mp hv).elim (h v) (g v)
theorem Frs.one {H : Hp} {a : Addr} (h : H a = none) : Frs H [.ref a] := fun v hv b e => by
  rw [List.mem_singleton.mp hv] at e
  rw [← V.ref.inj e]; exact h
theorem Frs.free {H H' : Hp} {vs : List V} (s : Same H H') (h : Frs H' vs) : Frs H vs := fun v hv a e => s.free (h v hv a e)
variable {α} {X : Cx}
theorem op_ltG (hu : X.A.units + Datum.depth α < cLine) : OpR X (compareOp .Lt) (rLt α) := by
  intro pins s σ H x y v u Q I rx ry h
  obtain ⟨p, q, hp, hq, k⟩ := h
  exact lt_datum (Dt.holds I hp rx) (Dt.holds I hq ry) hu ⟨.bl _, H, I, rfl, k⟩
theorem op_eqG (hu : X.A.units + Datum.depth α < cLine) : OpR X (compareOp .Eq) (rEq α) := by
  intro pins s σ H x y v u Q I rx ry h
  obtain ⟨p, q, hp, hq, k⟩ := h
  exact eq_datum (Dt.holds I hp rx) (Dt.holds I hq ry) hu ⟨.bl _, H, I, rfl, k⟩
theorem op_neG (hu : X.A.units + Datum.depth α < cLine) : OpR X (compareOp .NotEq) (rNe α) := by
  intro pins s σ H x y v u Q I rx ry h
  obtain ⟨p, q, hp, hq, k⟩ := h
  rw [← eqG_ne] at k
  exact ne_datum (Dt.holds I hp rx) (Dt.holds I hq ry) hu ⟨.bl _, H, I, rfl, k⟩
theorem op_inG (hu : X.A.units + 1 + Datum.depth α < cLine) : OpR X (compareOp .In) (rIn α X.K) := by
  intro pins s σ H x y v u Q I rx ry h
  obtain ⟨p, ps, a, vs, hp, rfl, hl, ha, k⟩ := h
  cases ry
  obtain ⟨its, rv, hL, _⟩ := I.list hl
  exact in_list_datum hL.isList (by simpa using Ats.holds I ha rv) (Dt.holds I hp rx) hu ⟨.bl _, H, I, rfl, k⟩
theorem op_ninG (hu : X.A.units + 1 + Datum.depth α < cLine) : OpR X (compareOp .NotIn) (rNotIn α X.K) := by
  intro pins s σ H x y v u Q I rx ry h
  obtain ⟨p, ps, a, vs, hp, rfl, hl, ha, k⟩ := h
  cases ry
  obtain ⟨its, rv, hL, _⟩ := I.list hl
  rw [← memG_nin] at k
  exact notIn_list_datum hL.isList (by simpa using Ats.holds I ha rv) (Dt.holds I hp rx) hu ⟨.bl _, H, I, rfl, k⟩
theorem each_of {X : Cx} {pins : List (Addr × Obj)} {σ : St} {H : Hp} {s : Shared} (I : Inv X pins σ H s) : ∀ {vs : List V} {us : List Value} {xs : List α}, Ats H vs xs → Vals vs us → EachIs (fun u (b : V × α) => RelV b.1 u ∧ Dt.At H b.1 b.2) us (vs.zip xs) ∧ EachIs (fun u (b : V × α) => ∃ as, Reads s.heap u (Datum.toD b.2) as) us (vs.zip xs) ∧ (vs.zip xs).map (·.2) = xs
  | _, _, _, .nil, .nil => ⟨.nil, .nil, rfl⟩
  | _, _, _, .cons h t, .cons r q => by
    obtain ⟨a, b, c⟩ := each_of I t q
    exact ⟨.cons ⟨r, h⟩ a, .cons (Dt.holds I h r) b, by rw [List.zip_cons_cons, List.map_cons, c]⟩
theorem of_each {H : Hp} : ∀ {us : List Value} {bs : List (V × α)}, EachIs (fun u (b : V × α) => RelV b.1 u ∧ Dt.At H b.1 b.2) us bs → Vals (bs.map (·.1)) us ∧ Ats H (bs.map (·.1)) (bs.map (·.2))
  | _, _, .nil => ⟨.nil, .nil⟩
  | _, _, .cons h t => ⟨.cons h.1 (of_each t).1, .cons h.2 (of_each t).2⟩
theorem leG_data (a b : α) : leG α a b = dataLe false (Datum.toD : α → PyData) a b := by
  rw [dataLe_eq]
  show _ = !dataLt (Datum.toD b) (Datum.toD a)
  rw [DatumOrd.lt_eq]; rfl
theorem leG_total : TotalLe (leG α) := by
  have e : leG α = dataLe false (Datum.toD : α → PyData) := by funext a b; exact leG_data a b
  rw [e]
  exact sortLe_total _ false _
theorem srtG_perm (ps : List α) : (srtG α ps).Perm ps := List.mergeSort_perm _ _
theorem srtG_pw (ps : List α) : (srtG α ps).Pairwise fun a b => leG α a b = true := sort_pairwise leG_total ps
theorem cr_sortGF (hu : X.A.units + 2 + Datum.depth α < cLine) : CallR X (.builtin "sorted") (rSortF α X.K) := by
  intro pins s σ H vs us Q I r h
  obtain ⟨a, ws, ps, rfl, hs, hp, q⟩ := h
  obtain ⟨its, rv, hl, hz⟩ := I.list hs
  obtain rfl := Vals.ref1 r
  obtain ⟨e1, e2, e3⟩ := each_of I hp rv
  have lz : (ws.zip ps).length = ws.length := by rw [List.length_zip, hp.len, Nat.min_self]
  refine sorted_data (enc := fun b : V × α => Datum.toD b.2) hl.isList e1 e2 (AllAlike.of fun b b' => DatumOrd.alike _ _) ?_ (by rw [lz]; exact hz) (fun b _ => ?_) fun out _ srtd => ?_
  · rcases (Dt.sorts : (∀ b : α, _) ∨ _) with h | h
    · exact .tuples fun b => h b.2
    · exact .others fun b => h b.2
  · have := Datum.depth_le b.2
    omega
  · obtain ⟨v1, a1⟩ := of_each srtd
    obtain ⟨ep, he⟩ := PyProof.Rows.sortedAll_at s.heap its out.toArray
    have em : ((ws.zip ps).mergeSort (dataLe false fun b : V × α => Datum.toD b.2)).map (·.2) = srtG α ps := by
      have z := List.map_mergeSort (r := dataLe false fun b : V × α => Datum.toD b.2) (s := leG α) (f := Prod.snd) (l := ws.zip ps) (fun a _ b _ => by rw [leG_data]; rfl)
      rw [show (ws.zip ps).map Prod.snd = ps from e3] at z
      exact z
    have ln : (((ws.zip ps).mergeSort (dataLe false fun b : V × α => Datum.toD b.2)).map (·.1)).length ≤ sizeLine := by rw [List.length_map, List.length_mergeSort, lz]; exact hz
    rw [em] at a1
    have ef : (ws.zip ps).map (·.1) = ws := List.map_fst_zip (by rw [hp.len]; exact Nat.le_refl _)
    have sub : ∀ v ∈ ((ws.zip ps).mergeSort (dataLe false fun b : V × α => Datum.toD b.2)).map (·.1), v ∈ ws := fun v hv => by
      rw [← ef]; exact (((List.mergeSort_perm _ _).map _).mem_iff).mp hv
    exact ⟨.ref _, L2.upd H (s.heap.objs.size + 1) (.lst _), I.laid (t' := s.toks) (fun _ _ => PyProof.Rows.sortedAll_old) (Nat.le_succ _) ⟨ln, out, ep, v1, he⟩, rfl, q _ _ a1 (I.hok.fresh (Nat.le_succ _)) sub⟩
theorem cr_sortG (hu : X.A.units + 2 + Datum.depth α < cLine) : CallR X (.builtin "sorted") (rSort α X.K) := by
  intro pins s σ H vs us Q I r h
  obtain ⟨a, ws, ps, e, hs, hp, q⟩ := h
  exact cr_sortGF hu pins s σ H vs us Q I r ⟨a, ws, ps, e, hs, hp, fun p us h n _ => q p us h n⟩
end
end Dq
end L2
namespace L2
namespace D1
open PySem PySem.Spec PyProof.Rows D2 X5 X6 Dq
abbrev sAsc : Stmt := top 6
abbrev ltP (p q : Pr) : Bool := PySem.W.DatumOrd.lt p q
def atP (ps : List Pr) (i : Nat) : Pr := ps.getD i ("", "")
def ascB (ps : List Pr) : Bool := (List.range (ps.length - 1)).all fun i => ltP (atP ps i) (atP ps (i + 1))
def spAsc (K : PySem.W.Frag) : Sp := fun vs H Q _ => ∃ (a : Addr) (us : List V) (ps : List Pr), vs = [.ref a] ∧ H a = some (.lst us) ∧ Ats H us ps ∧ ps.length ≤ 10000 ∧ ∀ H', Same H H' → Q (.bl (ascB ps)) H'
theorem Room.u65 {k : Nat} {A : Around} (r : Room k A) : A.units + 65 < cLine := by have := r.un; omega
theorem Room.u9 {k : Nat} {A : Around} (r : Room k A) {n : Nat} (h : n ≤ 9) : A.units + n < cLine := by have := Room.u65 r; omega
theorem ats_get {H : Hp} {us : List V} {ps : List Pr} (h : Ats H us ps) {i : Nat} {p : Pr} (e : ps[i]? = some p) : ∃ z, us[i]? = some (.ref z) ∧ PAt H z p := by
  have li : i < us.length := by rw [h.len]; exact (List.getElem?_eq_some_iff.mp e).1
  obtain ⟨q, hq, z, e1, hz⟩ := paired_get h (List.getElem?_eq_getElem li)
  rw [e] at hq
  cases hq
  exact ⟨z, by rw [List.getElem?_eq_getElem li, e1], hz⟩
theorem ltP_irrefl (p : Pr) : ltP p p = false := by
  have := (leG_total (α := Pr)).refl p
  unfold leG at this
  exact Bool.not_eq_true' _ ▸ this
theorem lt_trans {p q r : Pr} (h : ltP p q = true) (g : ltP q r = true) : ltP p r = true := by
  cases c : ltP p r with
  | true => rfl
  | false =>
    have h1 : leG Pr r p = true := by unfold leG; exact congrArg (!·) c
    have h2 : leG Pr p q = true := by
      rcases (leG_total (α := Pr)).total p q with z | z
      · exact z
      · unfold leG at z; rw [show PySem.W.DatumOrd.lt p q = true from h] at z; cases z
    have h3 := (leG_total (α := Pr)).trans r p q h1 h2
    unfold leG at h3
    rw [show PySem.W.DatumOrd.lt q r = true from g] at h3; cases h3
theorem ascB_cons {p q : Pr} {r : List Pr} : ascB (p :: q :: r) = (ltP p q && ascB (q :: r)) := by
  unfold ascB
  rw [show (p :: q :: r).length - 1 = (q :: r).length - 1 + 1 by simp, List.range_succ_eq_map, List.all_cons, List.all_map]
  rfl
theorem ascB_iff : ∀ {ps : List Pr}, ascB ps = true ↔ ps.Pairwise fun a b => ltP a b = true
  | [] => ⟨fun _ => .nil, fun _ => rfl⟩
  | [p] => ⟨fun _ => List.pairwise_singleton _ _, fun _ => rfl⟩
  | p :: q :: r => by
    rw [ascB_cons, Bool.and_eq_true, ascB_iff (ps := q :: r)]
    constructor
    · rintro ⟨a, b⟩
      refine List.pairwise_cons.mpr ⟨fun x hx => ?_, b⟩
      rcases List.mem_cons.mp hx with e | m
      · rw [e]; exact a
      · exact lt_trans a ((List.pairwise_cons.mp b).1 x m)
    · intro h
      have h := List.pairwise_cons.mp h
      exact ⟨h.1 q List.mem_cons_self, h.2⟩
section
variable {P : Program} {w : World} {K : PySem.W.Frag} {mg : Str → Option Value} {base : Heap}
theorem scAs : FnScope ["items", "at"] ["items"] (defScope sAsc) := ⟨rfl, rfl, rfl, by decide +kernel, rfl, by decide +kernel, by decide +kernel⟩
theorem ok_asc {f : Addr} {fd : FuncData} (F : Fun K "is_ascending" "is_ascending" sAsc f fd) (T : Free3 mg) : FnOk P w K mg base CX0 1 f fd ["items"] (spAsc K) := by
  refine F.ok scAs (fun vs H Q E h => ?_) (fun cdv A outer s H vs Q E0' hr h => ?_)
  · obtain ⟨a, us, ps, rfl, _⟩ := h; rfl
  · obtain ⟨a, us, ps, rfl, hS, hA, l, k⟩ := h
    have hu := hu_of hr
    refine ⟨_, pss_one (ps_ret (pe_callB (cr_all rfl) (by rfl) T.all (by decide +kernel) (pa_cons (pe_lc (own := [("at", 1)]) (g := gName 1) (tt := tYes) (te := tOp (rLt Pr) (tOp (rIxL K) (tVar 0) (tVar 1)) (tOp (rIxL K) (tVar 0) (tOp (rI0 fun i j => .int (i + j)) (tVar 1) (tC (.int 1))))) rfl scAs.nd (pi_range1 rfl T.range (pa_cons (pe_op op_sub (pe_callB call_len_seq (by rfl) T.len PySem.boot_len (pa_cons (pv 0) pa_nil)) pe_int) pa_nil))
        (blkOk_by (N := ["items", "at"]) (sc := defScope sAsc) (by decide +kernel)) (fun _ _ _ _ _ => pg_name (i := 1) scAs.nd rfl (Or.inl rfl)) (fun _ _ _ _ _ => pts_nil) (fun _ _ _ _ _ => pe_cmpR (op_ltG (Room.u9 hr (by decide))) (pe_ix ix_list (pv 0) (pv 1) (fun _ _ => rfl)) (pe_ix ix_list (pv 0) (pe_op op_add (pv 1) pe_int) (fun _ _ => rfl)) (by rfl))) pa_nil))), ?_⟩
    have lu := hA.len
    refine ⟨_, rfl, a, _, rfl, .inl (SqL.of hS), _, _, rfl, rfl, _, rfl, by omega, by omega, fun D hD => ?_⟩
    have hn : ((us.length : Int) - 1).toNat = ps.length - 1 := by omega
    rw [hn]
    refine lc_range (lo := 0) (n := ps.length - 1) (fun i H' => Same H H' ∧ H' D = some (.lst (((List.range i).map fun i => ltP (atP ps i) (atP ps (i + 1))).map V.bl))) ⟨Same.new hD, upd_same⟩ ?_ ?_
    · rintro i H1 hi ⟨sm, hD'⟩
      have h1 := List.getElem?_eq_getElem (show i < ps.length by omega)
      have h2 := List.getElem?_eq_getElem (show i + 1 < ps.length by omega)
      obtain ⟨z1, e1, hz1⟩ := ats_get hA h1
      obtain ⟨z2, e2, hz2⟩ := ats_get hA h2
      have g1 : atP ps i = ps[i]'(by omega) := by unfold atP; rw [List.getD_eq_getElem?_getD, h1]; rfl
      have g2 : atP ps (i + 1) = ps[i + 1]'(by omega) := by unfold atP; rw [List.getD_eq_getElem?_getD, h2]; rfl
      refine ⟨rfl, ?_⟩
      dsimp only [tYes]
      rw [if_pos rfl]
      refine ⟨_, rfl, _, rfl, a, _, _, _, rfl, rfl, SqL.of (sm _ _ hS), by rw [Int.zero_add]; exact atI_nat (j := i) e1, _, rfl, _, rfl, _, _, rfl, rfl, a, _, _, _, rfl, rfl, SqL.of (sm _ _ hS), by rw [Int.zero_add]; exact atI_nat (j := i + 1) e2, _, _, ⟨z1, rfl, sm _ _ hz1⟩, ⟨z2, rfl, sm _ _ hz2⟩, ?_⟩
      refine ⟨_, hD', by rw [List.length_map, List.length_map, List.length_range, sizeLine_eq]; omega, fun c u e => ?_, ?_⟩
      · rw [upd_ne (ne_of_none e hD)]; exact sm _ _ e
      · rw [upd_same, List.range_succ, List.map_append, List.map_append, ← g1, ← g2]; rfl
    · rintro H' ⟨sm, hD'⟩
      refine ⟨D, _, rfl, SqL.of hD', ?_⟩
      rw [all_map]
      exact k H' sm
end
end D1
end L2
namespace L2
namespace X6
open PySem PySem.Spec PyProof.Rows
section
variable {prog : Program} {w : World} {A : Around} {E : Value → Shared → Prop}
abbrev Tk (prog : Program) (w : World) := tupleKind (mixKind prog w)
theorem is_keep {h h' : Heap} {k : List Key} {a : Addr} (x : (Tk prog w).is h k a) (e : ∀ o, h.get? a = some o → h'.get? a = some o) : (Tk prog w).is h' k a := let ⟨o, its, n, h1, h2⟩ := x; ⟨o, its, n, e _ h1, h2⟩
theorem dh_keep {h h' : Heap} {d : Addr} {xs : List (List Key × Addr × Value)} (m : h.DictOfH (Tk prog w) d xs) (e : ∀ o, h.get? d = some o → h'.get? d = some o) (ek : ∀ x ∈ xs, ∀ o, h.get? x.2.1 = some o → h'.get? x.2.1 = some o) : h'.DictOfH (Tk prog w) d xs :=
  let ⟨o, es, ep, h1, h2, h3, h4, h5, h6⟩ := m; ⟨o, es, ep, e _ h1, h2, h3, h4, fun x hx => is_keep (h5 x hx) (ek x hx), h6⟩
theorem atKey_fresh {acc rest : List (List Key × Addr × Value)} {q : List Key × Addr × Value} (nd : ((acc ++ q :: rest).map (·.1)).Nodup) : atKey acc q.1 = none := by
  rw [List.map_append, List.map_cons] at nd
  have := (List.nodup_append.mp nd).2.2
  unfold atKey
  rw [List.find?_eq_none.mpr fun x hx => ?_]; rfl
  intro e
  exact this x.1 (List.mem_map_of_mem hx) q.1 List.mem_cons_self (of_decide_eq_true e)
theorem loop_T {R : Result → Shared → Prop} {S I l : Addr} {items : Array Value} {res : Value} (hu : A.units + 1 < cLine) (hh : A.handled = none) (hlI : l ≠ I) (hSI : S ≠ I) (hSl : S ≠ l) :
    ∀ (rest acc : List (List Key × Addr × Value)) (i : Nat) (ix : Int) (t : Tok) (s : Shared), items.size = i + rest.length → acc.length + rest.length ≤ sizeLine → ((acc ++ rest).map (·.1)).Nodup → (∀ x ∈ acc, x.2.1 ≠ I) →
      (∀ (j : Nat) (q : List Key × Addr × Value), rest[j]? = some q → ∃ b : Addr, items[i + j]? = some (.ref b) ∧ b ≠ S ∧ b ≠ I ∧ IsTup s.heap b #[.ref q.2.1, q.2.2] ∧ q.2.1 ≠ S ∧ q.2.1 ≠ I ∧ (Tk prog w).is s.heap q.1 q.2.1) →
      s.heap.IsListIter I l i → s.heap.IsList l items → s.heap.DictOfH (Tk prog w) S acc →
      (∀ h' tk, h'.DictOfH (Tk prog w) S (acc ++ rest) → (∀ b o, b ≠ S → b ≠ I → s.heap.get? b = some o → h'.get? b = some o) → R (.ok (.ret res)) { s with heap := h', toks := tk }) →
      codeAny (model prog w) A (.builtin "dict.update.loop" ⟨[.ref S, .ref I, .int ix t, res], []⟩) R s
  | [], acc, i, ix, t, s, hsz, hln, nd, hn, ht, hit, hl, hm, hR => by
    refine codeAny_builtin ud_entry ?_
    rw [Around.under_plainId ud_plain _]
    show wpAny _ A.in1 (pyNext (.ref I) >>= _) _ _ s
    refine wpAny_bind (wpAny_pyNext_list_end (A := A.in1) hh hit hl (Array.getElem?_eq_none (Nat.le_of_eq hsz)) fun h' he => ?_)
    show wpAny _ A.in1 (Builtin.Dict.addKeywords S [] >>= _) _ _ _
    refine wpAny_bind (wpAny_pure (wpAny_pure ?_))
    rw [List.append_nil] at hR
    exact hR h' s.toks (dh_keep hm (fun o e => he _ o hSI e) fun x hx o e => he _ o (hn x hx) e) fun b o _ hb e => he b o hb e
  | q :: rest, acc, i, ix, t, s, hsz, hln, nd, hn, ht, hit, hl, hm, hR => by
    obtain ⟨b, hb, hbS, hbI, htup, hqS, hqI, hk⟩ := ht 0 q rfl
    rw [List.length_cons] at hsz hln
    have hnew := atKey_fresh nd
    refine codeAny_builtin ud_entry ?_
    rw [Around.under_plainId ud_plain _]
    show wpAny _ A.in1 (pyNext (.ref I) >>= _) _ _ s
    refine wpAny_bind (wpAny_pyNext_list_item (x := .ref b) hit hl (by simpa using hb) fun h1 hit1 hs1 => ?_)
    have k1 := hs1.extBut
    have ht1 : IsTup h1 b #[.ref q.2.1, q.2.2] := htup.extBut k1 hbI
    have hl1 : h1.IsList l items := hl.extBut k1 hlI
    have hm1 : h1.DictOfH (Tk prog w) S acc := dh_keep hm (fun o e => k1 _ o hSI e) fun x hx o e => k1 _ o (hn x hx) e
    have hk1 : (Tk prog w).is h1 q.1 q.2.1 := is_keep hk fun o e => k1 _ o hqI e
    obtain ⟨o, ho, hc, n, hd⟩ := id ht1
    show wpAny _ A.in1 (holding [Value.ref b] _ >>= _) _ _ _
    refine wpAny_bind (wpAny_holding ?_); refine wpAny_bind (wpAny_tryCatch ?_)
    unfold Builtin.Dict.pairItems
    refine wpAny_bind (wpAny_typeOf (T := "tuple") ⟨o, ho, hc⟩ ?_)
    rw [if_pos (by first | decide | rfl | simp)]
    refine wpAny_bind (wpAny_seqItems ho hd (wpAny_pure ?_))
    show wpAny _ A.in1 (holding [Value.ref q.2.1, q.2.2] (dictSet S (.ref q.2.1) q.2.2)) _ _ _
    refine wpAny_holding (wpAny_dictSet_heap (knd := Tk prog w) (k := q.1) hu hk1 hm1 (fun h2 hm2 hs2 => ?_) (by omega))
    have k2 := hs2.extBut
    rw [storedH_new hnew] at hm2
    refine wpAny_pure ⟨plainId_quiet ud_plain _, loop_T (items := items) hu hh hlI hSI hSl rest (acc ++ [q]) (i + 1) (ix + 1) 0 _ (by rw [hsz]; omega) (by rw [List.length_append]; show acc.length + 1 + rest.length ≤ sizeLine; omega) (by rw [List.append_assoc]; exact nd) (fun x hx => ?_) (fun j q' e => ?_) ?_ ?_ hm2 fun h' tk hd' k => ?_⟩
    · rcases List.mem_append.mp hx with m | m
      · exact hn x m
      · rw [List.mem_singleton.mp m]; exact hqI
    · obtain ⟨b', hb', hbS', hbI', htup', hqS', hqI', hk'⟩ := ht (j + 1) q' (by simpa using e)
      refine ⟨b', by rw [show i + 1 + j = i + (j + 1) by omega]; exact hb', hbS', hbI', (htup'.extBut k1 hbI').extBut k2 hbS', hqS', hqI', is_keep hk' fun o e => k2 _ _ hqS' (k1 _ _ hqI' e)⟩
    · exact hit1.at fun o' e => k2 I o' (Ne.symm hSI) e
    · exact hl1.extBut k2 (Ne.symm hSl)
    · rw [List.append_assoc] at hd'
      exact hR h' tk hd' fun c oc h3 h4 e => k c oc h3 h4 (k2 c oc h3 (k1 c oc h4 e))
theorem dict_pairsT {s : Shared} {l : Addr} {ol : Obj} {items : Array Value} {n : Nat} {prs : List (List Key × Addr × Value)} {Q : Value → Shared → Prop} (hu : A.units + 2 < cLine) (hh : A.handled = none) (hl : s.heap.get? l = some ol) (hc : ol.cls = .type "list") (hd : ol.dict = none)
    (hdat : ol.data = .seq items n) (hsz : items.size = prs.length) (hln : prs.length ≤ sizeLine) (nd : (prs.map (·.1)).Nodup)
    (ht : ∀ (j : Nat) (q : List Key × Addr × Value), prs[j]? = some q → ∃ b : Addr, items[j]? = some (.ref b) ∧ IsTup s.heap b #[.ref q.2.1, q.2.2] ∧ (Tk prog w).is s.heap q.1 q.2.1)
    (h : ∀ h' tk, h'.DictOfH (Tk prog w) s.heap.objs.size prs → (∀ b o, s.heap.get? b = some o → h'.get? b = some o) → Q (.ref s.heap.objs.size) { s with heap := h', toks := tk }) :
    wpAny (model prog w) A (call (.type "dict") [.ref l]) Q E s := by
  refine callType_codes (Q₁ := fun obj s₁ => obj = .ref s.heap.objs.size ∧ s₁ = { s with heap := s.heap.push { cls := .type "dict", data := .dict #[] } }) PySem.F.kt_called_dict (PySem.F.kt_typeCall_dict_1 _) PySem.F.entry_dict_init (kt_code_dict_new _ ⟨rfl, rfl⟩) ?_
  rintro obj s₁ ⟨rfl, rfl⟩
  have hnew : (s.heap.push { cls := .type "dict", data := .dict #[] }).DictOfH (Tk prog w) s.heap.objs.size [] := Heap.DictOfH.new s.heap
  have k0 : ∀ b o, s.heap.get? b = some o → (s.heap.push { cls := .type "dict", data := .dict #[] }).get? b = some o := fun b o e => Heap.get?_push_of_some _ e
  have ty : ({ s with heap := s.heap.push { cls := .type "dict", data := .dict #[] } } : Shared).TypeIs (.ref s.heap.objs.size) "dict" := hnew.typeIs
  refine ⟨ty, PySem.F.args_dict_init_2 _ _, ?_⟩
  unfold Builtin.«dict.__init__»
  refine wpAny_bind ?_; unfold Builtin.Dict.selfAndRest
  refine wpAny_bind (wpAny_notOrdered_dict ty ?_)
  show wpAny _ _ (pure (s.heap.objs.size, [Value.ref l])) _ _ _
  refine wpAny_pure ?_
  show wpAny _ _ (Builtin.Dict.updateFrom "dict.__init__" s.heap.objs.size (.ref l) [] .none) _ _ _
  unfold Builtin.Dict.updateFrom
  refine wpAny_bind (wpAny_typeOf (T := "list") ⟨ol, k0 _ _ hl, hc⟩ ?_)
  rw [if_pos (by first | decide | rfl | simp)]
  refine wpAny_bind (miss_list (k0 _ _ hl) hc hdat hd hh fun h1 tk1 hk1 => ?_)
  rw [if_pos (show (none : Option Value).isNone = true from rfl)]
  refine wpAny_bind (wpAny_rule ?_)
  have hl1 : h1.IsList l items := ⟨ol, hk1 _ _ (k0 _ _ hl), hc, n, hdat⟩
  have hS1 : s.heap.objs.size < h1.objs.size := by
    have e : (s.heap.push { cls := .type "dict", data := .dict #[] }).get? s.heap.objs.size = some { cls := .type "dict", data := .dict #[] } := Heap.get?_push_size _ rfl
    exact Heap.lt_size (hk1 _ _ e)
  refine wpAny_bind (wpAny_pyIter_list hl1 ?_)
  have k2 : ∀ b o, h1.get? b = some o → (h1.push { cls := .type "list_iterator", data := .fields #[.ref l, .int 0 0] }).get? b = some o := fun b o e => Heap.get?_push_of_some _ e
  have hlt : l < s.heap.objs.size := Heap.lt_size hl
  have key := loop_T (prog := prog) (w := w) (A := A.in1) (R := wants (fun r s₂ => r = .none ∧ Q (.ref s.heap.objs.size) s₂) E) (S := s.heap.objs.size) (I := h1.objs.size) (l := l) (items := items) (res := Value.none) (by show A.units + 1 + 1 < cLine; omega) hh
    (Nat.ne_of_lt (Nat.lt_trans hlt hS1)) (Nat.ne_of_lt hS1) (Nat.ne_of_gt hlt) prs [] 0 0 0
    { s with heap := h1.push { cls := .type "list_iterator", data := .fields #[.ref l, .int 0 0] }, toks := tk1 } (by rw [hsz, Nat.zero_add]) (by rw [List.length_nil, Nat.zero_add]; exact hln) nd (fun x hx => by cases hx)
    (fun j q e => by
      obtain ⟨b, e1, e2, e3⟩ := ht j q e
      have hb : b < s.heap.objs.size := e2.lt
      have hq : q.2.1 < s.heap.objs.size := let ⟨_, _, _, z, _⟩ := e3; Heap.lt_size z
      exact ⟨b, by rw [Nat.zero_add]; exact e1, Nat.ne_of_lt hb, Nat.ne_of_lt (Nat.lt_trans hb hS1), e2.keeps fun c o z => k2 _ _ (hk1 _ _ (k0 _ _ z)), Nat.ne_of_lt hq, Nat.ne_of_lt (Nat.lt_trans hq hS1), is_keep e3 fun o z => k2 _ _ (hk1 _ _ (k0 _ _ z))⟩)
    ⟨_, Heap.get?_push_size _ rfl, rfl, rfl⟩ (hl1.at fun o e => k2 _ _ e) (dh_keep hnew (fun o e => k2 _ _ (hk1 _ _ e)) fun x hx => by cases hx)
    (fun h' tk hd' k => ⟨rfl, h h' tk hd' fun b o e => k b o (Nat.ne_of_lt (Heap.lt_size e)) (Nat.ne_of_lt (Nat.lt_trans (Heap.lt_size e) hS1)) (k2 _ _ (hk1 _ _ (k0 _ _ e)))⟩)
  first
    | exact wpAny_pure ⟨plainId_quiet ud_plain _, key⟩
    | exact wpAny_bind (wpAny_pure (wpAny_pure ⟨plainId_quiet ud_plain _, key⟩))
end
/-- a pair (key, value), the key a tuple -/
def PrT (H : Hp) : List Addr → List (Addr × List Key × V) → Prop := Paired fun p e => H p = some (.tup [.ref e.1, e.2.2]) ∧ H e.1 = some (.tup (e.2.1.map kV))
section
variable {X : Cx}
theorem prt_of {pins : List (Addr × Obj)} {σ : St} {H : Hp} {s : Shared} (I : Inv X pins σ H s) : ∀ {ps : List Addr} {es : List (Addr × List Key × V)}, PrT H ps es →
    ∃ prs : List (List Key × Addr × Value), KT H (es.map (·.2)) prs ∧ prs.length = ps.length ∧ prs.map (·.1) = es.map (·.2.1) ∧ ∀ (j : Nat) (q : List Key × Addr × Value), prs[j]? = some q → ∃ b : Addr, ps[j]? = some b ∧ IsTup s.heap b #[.ref q.2.1, q.2.2] ∧ (Tk X.prog X.w).is s.heap q.1 q.2.1
  | _, _, .nil => ⟨[], .nil, rfl, rfl, fun j q e => by simp at e⟩
  | _, _, .cons (a := p) (b := e) h t => by
    obtain ⟨prs, r, hl, hk, hp⟩ := prt_of I t
    obtain ⟨its, rv, ht, _⟩ := I.tuple (SqT.of h.1)
    obtain ⟨u, y, ei, ru, ry⟩ := vals2 rv
    subst ei
    cases ru
    refine ⟨(e.2.1, e.1, y) :: prs, .cons ⟨rfl, h.2, ry⟩ r, by rw [List.length_cons, List.length_cons, hl], by rw [List.map_cons, List.map_cons, hk], fun j q eq => ?_⟩
    cases j with
    | zero =>
      have e' : (e.2.1, e.1, y) = q := Option.some.inj eq
      subst e'
      exact ⟨p, rfl, ht, key_of I.hok h.2⟩
    | succ j =>
      obtain ⟨b, e1, e2, e3⟩ := hp j q (by simpa using eq)
      exact ⟨b, by simpa using e1, e2, e3⟩
theorem call_dictT (hcalm : X.calm = true) (hu : X.A.units + 2 < cLine) : CallR X (.type "dict") (fun xs H Q => ∃ (a : Addr) (ps : List Addr) (es : List (Addr × List Key × V)), xs = [.ref a] ∧ SqL X.K H a (ps.map V.ref) ∧ PrT H ps es ∧ (es.map (·.2.1)).Nodup ∧
    ∀ p, H p = none → Q (.ref p) (L2.upd H p (.dT (es.map (·.2))))) := by
  intro pins s σ H xs us Q I r q
  obtain ⟨a, ps, es, ex, hq, hp, nd, q⟩ := q
  subst ex
  obtain ⟨u, eu, rx⟩ := vals1 r
  subst eu
  cases rx
  obtain ⟨its, rv, pl, hz⟩ := I.list hq
  have ei := refs_at rv
  subst ei
  rw [List.length_map] at hz
  obtain ⟨prs, rel, hl, hk, hpr⟩ := prt_of I hp
  obtain ⟨o, n, ho, hc, hd, hdat⟩ := pl
  refine dict_pairsT (prs := prs) hu (I.ok.hd hcalm) ho hc hd hdat (by simp [hl]) (by rw [hl]; exact hz) (by rw [hk]; exact nd) (fun j q' e => ?_) fun h' tk hd' k => ?_
  · obtain ⟨b, e1, e2, e3⟩ := hpr j q' e
    exact ⟨b, by simp [e1], e2, e3⟩
  · have hm : (s.heap.objs.size == sysModules) = false := beq_eq_false_iff_ne.mpr (Nat.ne_of_gt I.big)
    have hlen : (es.map (·.2)).length ≤ sizeLine := by
      have := Paired.length rel
      rw [this, hl]; exact hz
    obtain ⟨o', es', ep, h1, h2, h3, h4, _, h5⟩ := hd'
    have hf := I.hok.fresh (Nat.le_refl s.heap.objs.size)
    refine ⟨.ref s.heap.objs.size, L2.upd H s.heap.objs.size (.dT (es.map (·.2))), I.laid (t' := tk) k (Nat.le_refl _) (show ObjOk X.prog X.w _ _ _ (.dT (es.map (·.2))) from ⟨hlen, hm, prs, rel.keeps (fun b ys e => ?_), o', es', ep, h1, h2, h3, h4, h5⟩), rfl, q _ hf⟩
    first
      | exact e
      | (rw [upd_ne (ne_of_none e hf)]; exact e)
end
end X6
end L2
namespace L2
namespace D1
open PySem PySem.Spec PyProof.Rows D2 X5
abbrev sLSame : Stmt := top 34
/-- plain data, at most n deep -/
def Tr : Nat → Hp → V → Prop
  | 0, _, x => Leaf x
  | n + 1, H, x => Tr n H x ∨ (∃ a xs, x = .ref a ∧ H a = some (.lst xs) ∧ xs.length ≤ 10000 ∧ ∀ y ∈ xs, Tr n H y) ∨ (∃ a xs, x = .ref a ∧ H a = some (.tup xs) ∧ xs.length ≤ 10000 ∧ ∀ y ∈ xs, Tr n H y) ∨
      (1 ≤ n ∧ ∃ (a : Addr) (ks : List (Key × V)) (ss : List Str), x = .ref a ∧ H a = some (.dK ks) ∧ ks.map (·.1) = ss.map Sum.inr ∧ ss.Nodup ∧ ss.length ≤ 10000 ∧ ∀ p ∈ ks, Tr n (cut [a] H) p.2)
theorem Tr.same : ∀ (n : Nat) {H H' : Hp} {x : V}, Same H H' → Tr n H x → Tr n H' x
  | 0, _, _, _, _, h => h
  | n + 1, H, H', x, s, h => by
    rcases h with h | ⟨a, xs, h1, h3, h5, h6⟩ | ⟨a, xs, h1, h3, h5, h6⟩ | ⟨h0, a, ks, ss, h1, h3, h5, h7, h8, h9⟩
    · exact .inl (Tr.same n s h)
    · exact .inr (.inl ⟨a, xs, h1, s _ _ h3, h5, fun y hy => Tr.same n s (h6 y hy)⟩)
    · exact .inr (.inr (.inl ⟨a, xs, h1, s _ _ h3, h5, fun y hy => Tr.same n s (h6 y hy)⟩))
    · exact .inr (.inr (.inr ⟨h0, a, ks, ss, h1, s _ _ h3, h5, h7, h8, fun y hy => Tr.same n (cut_same s) (h9 y hy)⟩))
theorem Tr.up {H : Hp} {m n : Nat} {x : V} (h : Tr m H x) (l : m ≤ n) : Tr n H x := by
  induction l with
  | refl => exact h
  | step _ ih => exact .inl ih
/-- what is told, seen with the addresses X hidden -/
def spSame (n : Nat) : Sp := fun vs H Q _ => ∃ (v : V) (X : List Addr), vs = [v] ∧ (∀ x ∈ X, ∃ o, H x = some o) ∧ Tr n (cut X H) v ∧ ∀ H' w, Same H H' → EqX n (cut X H') v w → Q w H'
def spSameD (n : Nat) : Sp := fun vs H Q _ => ∃ (v : V) (X : List Addr), vs = [v] ∧ (∀ x ∈ X, ∃ o, H x = some o) ∧ ((∃ a xs, v = .ref a ∧ cut X H a = some (.lst xs) ∧ xs.length ≤ 10000 ∧ ∀ y ∈ xs, Tr n (cut X H) y) ∨ (∃ a xs, v = .ref a ∧ cut X H a = some (.tup xs) ∧ xs.length ≤ 10000 ∧ ∀ y ∈ xs, Tr n (cut X H) y) ∨
      (1 ≤ n ∧ ∃ (a : Addr) (ks : List (Key × V)) (ss : List Str), v = .ref a ∧ cut X H a = some (.dK ks) ∧ ks.map (·.1) = ss.map Sum.inr ∧ ss.Nodup ∧ ss.length ≤ 10000 ∧ ∀ p ∈ ks, Tr n (cut [a] (cut X H)) p.2)) ∧ ∀ H' w, Same H H' → EqX (n + 1) (cut X H') v w → Q w H'
def spNone : Sp := fun _ _ _ _ => False
theorem cut_one {X : List Addr} {H H' : Hp} {M : Addr} (s : Same H H') (n : H M = none) : Same (cut X H) (cut (M :: X) H') := fun b o e => by
  obtain ⟨h1, h2⟩ := cut_some e
  rw [cut_out (by simp only [List.mem_cons, not_or]; exact ⟨ne_of_none h2 n, h1⟩)]; exact s _ _ h2
theorem hid_alloc {X : List Addr} {H H' : Hp} {M : Addr} {o : HO} (s : Same H H') (h : ∀ x ∈ X, ∃ o, H x = some o) (e : H' M = some o) : ∀ x ∈ M :: X, ∃ o, H' x = some o := fun x hx => by
  rcases List.mem_cons.mp hx with z | z
  · exact ⟨o, z ▸ e⟩
  · obtain ⟨u, hu⟩ := h x z
    exact ⟨u, s _ _ hu⟩
theorem not_hid {X : List Addr} {H : Hp} {M : Addr} (h : ∀ x ∈ X, ∃ o, H x = some o) (n : H M = none) : M ∉ X := fun m => by
  obtain ⟨o, e⟩ := h M m
  rw [n] at e; cases e
section
variable {P : Program} {w : World} {K : PySem.W.Frag} {mg : Str → Option Value} {base : Heap}
abbrev smN : List Str := ["_law_thing", "_law_key", "_law_item"]
theorem scSm : FnScope smN ["_law_thing"] (defScope sLSame) := ⟨rfl, rfl, rfl, by decide +kernel, rfl, by decide +kernel, by decide +kernel⟩
theorem ok_lsame {f : Addr} {fd : FuncData} (F : Fun K "_law_same" "_law_same" sLSame f fd) (T : Free4 mg) (gE : mg "_law_same" = some (.ref f)) (bE : Binds K fd ["_law_thing"] []) : ∀ n : Nat, FnOk P w K mg base CX0 (n + 1) f fd ["_law_thing"] (spSame n) := by
  intro n
  induction n with
  | zero =>
    have CE : Cal P w K mg base "_law_same" 0 ["_law_thing"] spNone := Cal.of gE F.kp ⟨fun _ _ _ _ h => h.elim, fun _ _ _ _ _ _ _ _ _ _ _ _ _ h => h.elim⟩ bE
    refine F.ok scSm (fun vs H Q E h => ?_) (fun cdv A outer s H vs Q E hr h => ?_)
    · obtain ⟨x, X, rfl, _⟩ := h; rfl
    · obtain ⟨x, X, rfl, hX, lx, k⟩ := h
      have hu := hu_of hr
      refine ⟨_, pss_cons (ps_if (pt_val (pe_callB call_isi (by rfl) T.isi (by decide +kernel) (pa_cons (pv 0) (pa_cons (pe_bltn (v := .ty "dict") rfl T.dict (by decide +kernel) rfl) pa_nil)))) (pss_one (ps_ret (pe_callTy (call_dictP rfl) (by rfl) T.dict (by decide +kernel) (pa_cons (pe_lock (pe_lc (own := [("_law_key", 1)]) (g := gName 1) (tt := tYes) (te := tTup (tCons (tVar 1) (tCons (tCall spNone [] E0 (tCons (tDGet (tVar 0) (tVar 1)) tNil)) tNil))) rfl scSm.nd (pi_keys (pv 0))
            (blkOk_by (N := smN) (sc := defScope sLSame) (by decide +kernel)) (fun _ _ _ _ _ => pg_name (i := 1) scSm.nd rfl (Or.inl rfl)) (fun _ _ _ _ _ => pts_nil) (fun _ _ _ _ _ => pe_tup (pa_cons (pv 1) (pa_cons (pe_cal CE (hr.mono (by omega)) rfl (pa_cons (pe_dget hu (pv 0) (pv 1) (fun _ _ => rfl)) pa_nil)) pa_nil))))) pa_nil)))) pss_nil)
        (pss_cons (ps_if (pt_val (pe_callB call_isi (by rfl) T.isi (by decide +kernel) (pa_cons (pv 0) (pa_cons (pe_bltn (v := .ty "list") rfl T.list (by decide +kernel) rfl) pa_nil)))) (pss_one (ps_ret (pe_lc (own := [("_law_item", 2)]) (g := gName 2) (tt := tYes) (te := tCall spNone [] E0 (tCons (tVar 2) tNil)) rfl scSm.nd (pi_list (pv 0))
            (blkOk_by (N := smN) (sc := defScope sLSame) (by decide +kernel)) (fun _ _ _ _ _ => pg_name (i := 2) scSm.nd rfl (Or.inl rfl)) (fun _ _ _ _ _ => pts_nil) (fun _ _ _ _ _ => pe_cal CE (hr.mono (by omega)) rfl (pa_cons (pv 2) pa_nil))))) pss_nil)
        (pss_one (ps_ret (pe_ifExp (pt_val (pe_callB call_isi (by rfl) T.isi (by decide +kernel) (pa_cons (pv 0) (pa_cons (pe_bltn (v := .ty "tuple") rfl T.tuple (by decide +kernel) rfl) pa_nil)))) (pe_callTy call_tuple_of (by rfl) T.tuple (by decide +kernel) (pa_cons (pe_lc (own := [("_law_item", 2)]) (g := gName 2) (tt := tYes) (te := tCall spNone [] E0 (tCons (tVar 2) tNil)) rfl scSm.nd (pi_tup (pv 0))
            (blkOk_by (N := smN) (sc := defScope sLSame) (by decide +kernel)) (fun _ _ _ _ _ => pg_name (i := 2) scSm.nd rfl (Or.inl rfl)) (fun _ _ _ _ _ => pts_nil) (fun _ _ _ _ _ => pe_cal CE (hr.mono (by omega)) rfl (pa_cons (pv 2) pa_nil))) pa_nil)) (pv 0))))), ?_⟩
      obtain ⟨t, b, ty, e1, e2, e3, _⟩ := leaf_ty lx
      refine ⟨_, rfl, _, .ty "dict", .type t, .type "dict", false, rfl, .ty _, ty _ _, kit_ty e3, _, rfl, iteF ?_⟩
      refine ⟨_, rfl, _, .ty "list", .type t, .type "list", false, rfl, .ty _, ty _ _, kit_ty e1, _, rfl, iteF ?_⟩
      refine ⟨_, rfl, _, .ty "tuple", .type t, .type "tuple", false, rfl, .ty _, ty _ _, kit_ty e2, _, rfl, iteF ?_⟩
      exact ⟨_, rfl, k H x (Same.refl _) ⟨lx, rfl⟩⟩
  | succ n ih =>
    have CE : Cal P w K mg base "_law_same" (n + 1) ["_law_thing"] (spSame n) := Cal.of gE F.kp ih bE
    have deep : FnOk P w K mg base CX0 (n + 2) f fd ["_law_thing"] (spSameD n) := by
     refine F.ok scSm (fun vs H Q E h => ?_) (fun cdv A outer s H vs Q E hr h => ?_)
     · obtain ⟨x, X, rfl, _⟩ := h; rfl
     · obtain ⟨x, X, rfl, hX, hx, k⟩ := h
       have hu := hu_of hr
       refine ⟨_, pss_cons (ps_if (pt_val (pe_callB call_isi (by rfl) T.isi (by decide +kernel) (pa_cons (pv 0) (pa_cons (pe_bltn (v := .ty "dict") rfl T.dict (by decide +kernel) rfl) pa_nil)))) (pss_one (ps_ret (pe_callTy (call_dictP rfl) (by rfl) T.dict (by decide +kernel) (pa_cons (pe_lock (pe_lc (own := [("_law_key", 1)]) (g := gName 1) (tt := tYes) (te := tTup (tCons (tVar 1) (tCons (tCall (spSame n) [] E0 (tCons (tDGet (tVar 0) (tVar 1)) tNil)) tNil))) rfl scSm.nd (pi_keys (pv 0))
            (blkOk_by (N := smN) (sc := defScope sLSame) (by decide +kernel)) (fun _ _ _ _ _ => pg_name (i := 1) scSm.nd rfl (Or.inl rfl)) (fun _ _ _ _ _ => pts_nil) (fun _ _ _ _ _ => pe_tup (pa_cons (pv 1) (pa_cons (pe_cal CE (hr.mono (by omega)) rfl (pa_cons (pe_dget hu (pv 0) (pv 1) (fun _ _ => rfl)) pa_nil)) pa_nil))))) pa_nil)))) pss_nil)
        (pss_cons (ps_if (pt_val (pe_callB call_isi (by rfl) T.isi (by decide +kernel) (pa_cons (pv 0) (pa_cons (pe_bltn (v := .ty "list") rfl T.list (by decide +kernel) rfl) pa_nil)))) (pss_one (ps_ret (pe_lc (own := [("_law_item", 2)]) (g := gName 2) (tt := tYes) (te := tCall (spSame n) [] E0 (tCons (tVar 2) tNil)) rfl scSm.nd (pi_list (pv 0))
            (blkOk_by (N := smN) (sc := defScope sLSame) (by decide +kernel)) (fun _ _ _ _ _ => pg_name (i := 2) scSm.nd rfl (Or.inl rfl)) (fun _ _ _ _ _ => pts_nil) (fun _ _ _ _ _ => pe_cal CE (hr.mono (by omega)) rfl (pa_cons (pv 2) pa_nil))))) pss_nil)
        (pss_one (ps_ret (pe_ifExp (pt_val (pe_callB call_isi (by rfl) T.isi (by decide +kernel) (pa_cons (pv 0) (pa_cons (pe_bltn (v := .ty "tuple") rfl T.tuple (by decide +kernel) rfl) pa_nil)))) (pe_callTy call_tuple_of (by rfl) T.tuple (by decide +kernel) (pa_cons (pe_lc (own := [("_law_item", 2)]) (g := gName 2) (tt := tYes) (te := tCall (spSame n) [] E0 (tCons (tVar 2) tNil)) rfl scSm.nd (pi_tup (pv 0))
            (blkOk_by (N := smN) (sc := defScope sLSame) (by decide +kernel)) (fun _ _ _ _ _ => pg_name (i := 2) scSm.nd rfl (Or.inl rfl)) (fun _ _ _ _ _ => pts_nil) (fun _ _ _ _ _ => pe_cal CE (hr.mono (by omega)) rfl (pa_cons (pv 2) pa_nil))) pa_nil)) (pv 0))))), ?_⟩
       rcases hx with ⟨a, xs, rfl, ha, l0, hp⟩ | ⟨a, xs, rfl, ha, l0, hp⟩ | ⟨h1n, a, ks, ss, rfl, ha, ek, nd, l0, hp⟩
       · obtain ⟨na, ha⟩ := cut_some ha
         refine ⟨_, rfl, _, .ty "dict", .type "list", .type "dict", false, rfl, .ty _, .base (.lst ha), kit_ty (by decide +kernel), _, rfl, iteF ?_⟩
         refine ⟨_, rfl, _, .ty "list", .type "list", .type "list", true, rfl, .ty _, .base (.lst ha), kit_ty (by decide +kernel), _, rfl, iteT ?_⟩
         refine ⟨_, rfl, a, rfl, ⟨_, SqL.of ha⟩, fun M hM => ?_⟩
         have hM0 := hM
         refine lc_list (K := K) (a := a) (xs := xs) (fun j H' => Same H H' ∧ ∃ ws, H' M = some (.lst ws) ∧ Paired (EqX n (cut (M :: X) H')) (xs.take j) ws) ⟨Same.new hM, [], upd_same, .nil⟩ (fun j H' _ z => SqL.of (z.1 _ _ ha)) ?_ ?_
         · rintro j y H1 hy ⟨sm, ws, hM1, hW⟩
           have lw : ws.length ≤ 10000 := by rw [← paired_len hW, List.length_take]; omega
           refine ⟨rfl, ?_⟩
           dsimp only [tYes]
           rw [if_pos rfl]
           refine ⟨_, rfl, y, M :: X, rfl, hid_alloc sm hX hM1, Tr.same n (cut_one sm hM) (hp y (List.mem_of_getElem? hy)), fun H2 w s2 e2 => ?_⟩
           refine ⟨ws, s2 _ _ hM1, by rw [sizeLine_eq]; omega, fun c o e => ?_, ws ++ [w], by rw [upd_same], ?_⟩
           · rw [upd_ne (ne_of_none e hM)]; exact s2 _ _ (sm _ _ e)
           · rw [cut_upd (by simp), take_succ_get hy]
             exact paired_snoc (paired_imp (fun _ _ e => EqX.same n (cut_same s2) e) hW) e2
         · rintro H1 ⟨sm, ws, hM1, hW⟩
           rw [List.take_length] at hW
           have nX := not_hid hX hM
           have lw : ws.length ≤ 10000 := by rw [← paired_len hW]; exact l0
           refine k H1 (.ref M) sm (.inr (.inl ⟨a, M, xs, ws, rfl, rfl, by rw [cut_out na]; exact sm _ _ ha, by rw [cut_out nX]; exact hM1, l0, paired_imp (fun _ _ e => EqX.same n (cut_mono fun b hb => List.mem_cons_of_mem _ hb) e) hW⟩))
       · obtain ⟨na, ha⟩ := cut_some ha
         refine ⟨_, rfl, _, .ty "dict", .type "tuple", .type "dict", false, rfl, .ty _, .base (.tup ha), kit_ty (by decide +kernel), _, rfl, iteF ?_⟩
         refine ⟨_, rfl, _, .ty "list", .type "tuple", .type "list", false, rfl, .ty _, .base (.tup ha), kit_ty (by decide +kernel), _, rfl, iteF ?_⟩
         refine ⟨_, rfl, _, .ty "tuple", .type "tuple", .type "tuple", true, rfl, .ty _, .base (.tup ha), kit_ty (by decide +kernel), _, rfl, iteT ?_⟩
         refine ⟨_, rfl, a, rfl, ⟨_, SqT.of ha⟩, fun M hM => ?_⟩
         have hM0 := hM
         refine lc_tup (K := K) (a := a) (xs := xs) (fun j H' => Same H H' ∧ ∃ ws, H' M = some (.lst ws) ∧ Paired (EqX n (cut (M :: X) H')) (xs.take j) ws) ⟨Same.new hM, [], upd_same, .nil⟩ (fun j H' _ z => SqT.of (z.1 _ _ ha)) ?_ ?_
         · rintro j y H1 hy ⟨sm, ws, hM1, hW⟩
           have lw : ws.length ≤ 10000 := by rw [← paired_len hW, List.length_take]; omega
           refine ⟨rfl, ?_⟩
           dsimp only [tYes]
           rw [if_pos rfl]
           refine ⟨_, rfl, y, M :: X, rfl, hid_alloc sm hX hM1, Tr.same n (cut_one sm hM) (hp y (List.mem_of_getElem? hy)), fun H2 w s2 e2 => ?_⟩
           refine ⟨ws, s2 _ _ hM1, by rw [sizeLine_eq]; omega, fun c o e => ?_, ws ++ [w], by rw [upd_same], ?_⟩
           · rw [upd_ne (ne_of_none e hM)]; exact s2 _ _ (sm _ _ e)
           · rw [cut_upd (by simp), take_succ_get hy]
             exact paired_snoc (paired_imp (fun _ _ e => EqX.same n (cut_same s2) e) hW) e2
         · rintro H1 ⟨sm, ws, hM1, hW⟩
           rw [List.take_length] at hW
           have nX := not_hid hX hM
           have lw : ws.length ≤ 10000 := by rw [← paired_len hW]; exact l0
           refine ⟨M, ws, rfl, .inl ⟨SqL.of hM1, fun l hl => ?_⟩⟩
           have g := Same.new (o := .tup ws) hl
           have sl := Same.trans sm g
           have nlX := not_hid hX (sm.free hl)
           refine k _ (.ref l) sl (.inr (.inr (.inl ⟨a, l, xs, ws, rfl, rfl, by rw [cut_out na]; exact sl _ _ ha, by rw [cut_out nlX]; exact upd_same, l0, paired_imp (fun _ _ e => EqX.same n (Same.trans (cut_mono fun b hb => List.mem_cons_of_mem _ hb) (cut_same g)) e) hW⟩)))
       · obtain ⟨na, ha⟩ := cut_some ha
         refine ⟨_, rfl, _, .ty "dict", .type "dict", .type "dict", true, rfl, .ty _, .base (.dK ha), kit_ty (by decide +kernel), _, rfl, iteT ?_⟩
         have ndk : (ks.map (·.1)).Nodup := by rw [ek]; exact inr_nd' nd
         have lks : ks.length ≤ 10000 := by have := congrArg List.length ek; rw [List.length_map, List.length_map] at this; omega
         refine ⟨a, _, ha, trivial, fun od => ?_⟩
         refine ⟨_, rfl, a, od, rfl, .inl ⟨ks, upd_same, fun M hM => ?_⟩⟩
         have nM : M ≠ a := fun e => by rw [e, upd_same] at hM; cases hM
         have hM0 : H M = none := upd_none' hM
         refine lc_it (walk_keys (d := a) (o := od) (kvs := ks)) (fun j H' => Same (L2.upd H a (.frz od (.dK ks))) H' ∧ ∃ (ps : List Addr) (kv2 : List (Key × V)), H' M = some (.lst (ps.map V.ref)) ∧ Paired (fun p (kv : Key × V) => (cut [M] H') p = some (.tup [kV kv.1, kv.2])) ps kv2 ∧ kv2.map (·.1) = (ks.take j).map (·.1) ∧ Paired (fun p q => EqX n (cut (a :: M :: X) H') p.2 q.2) (ks.take j) kv2)
           ⟨Same.new hM, [], [], upd_same, .nil, rfl, .nil⟩ (fun j H' _ z => z.1 _ _ upd_same) ?_ ?_
         · rintro j y H2 H3 hj ⟨sm, ps, kv2, hM2, hpr, ek2, hE⟩ ⟨rfl, k0, v0, hkv, rfl⟩
           have lps : ps.length ≤ 10000 := by
             rw [paired_len hpr, ← paired_len hE, List.length_take]; omega
           have fz := sm _ _ upd_same
           have old : ∀ {c o}, H c = some o → c ≠ a → H3 c = some o := fun {c o} e q => sm _ _ (by rw [upd_ne q]; exact e)
           refine ⟨rfl, ?_⟩
           dsimp only [tYes]
           rw [if_pos rfl]
           refine ⟨_, rfl, _, rfl, _, rfl, a, _, rfl, .inl ⟨ks, k0, .inr ⟨od, fz⟩, rfl, (val_at ndk hkv).symm⟩, v0, a :: M :: X, rfl, fun x hx => ?_, Tr.same n (fun b o e => ?_) (hp (k0, v0) (List.mem_of_getElem? hkv)), fun H4 w s4 e4 => ⟨by show 2 ≤ sizeLine; decide, fun T1 hT1 => ?_⟩⟩
           · rcases List.mem_cons.mp hx with z | hx
             · exact ⟨_, z ▸ fz⟩
             rcases List.mem_cons.mp hx with z | hx
             · exact ⟨_, z ▸ hM2⟩
             obtain ⟨o, ho⟩ := hX x hx
             by_cases q : x = a
             · exact ⟨_, q ▸ fz⟩
             · exact ⟨o, old ho q⟩
           · obtain ⟨h1, h2⟩ := cut_some e
             obtain ⟨h3, h4⟩ := cut_some h2
             have h1 : b ≠ a := by simpa using h1
             rw [cut_out (by simp only [List.mem_cons, not_or]; exact ⟨h1, ne_of_none h4 hM0, h3⟩)]
             exact old h4 h1
           have g := Same.new (o := .tup [kV k0, w]) hT1
           have hM4 := s4 _ _ hM2
           have nT : T1 ≠ M := fun e => by rw [e, hM4] at hT1; cases hT1
           refine ⟨_, g _ _ hM4, by rw [List.length_map, sizeLine_eq]; omega, fun c o e => ?_, ps ++ [T1], kv2 ++ [(k0, w)], by rw [upd_same, List.map_append]; rfl, ?_, ?_, ?_⟩
           · rw [upd_ne (ne_of_none e hM)]; exact g _ _ (s4 _ _ (sm _ _ e))
           · rw [cut_upd (by simp)]
             exact paired_snoc (paired_imp (fun _ _ e => cut_same (Same.trans s4 g) _ _ e) hpr) (by rw [cut_out (by simpa using nT)]; exact upd_same)
           · rw [List.map_append, ek2, take_succ_get hkv, List.map_append]; rfl
           · rw [cut_upd (by simp), take_succ_get hkv]
             exact paired_snoc (paired_imp (fun _ _ e => EqX.same n (cut_same (Same.trans s4 g)) e) hE) (EqX.same n (cut_same g) e4)
         · rintro H2 ⟨sm, ps, kv2, hM2, hpr, ek2, hE⟩
           rw [List.take_length] at ek2 hE
           have fz := sm _ _ upd_same
           have su : Same H (L2.upd H2 a (.dK ks)) := Same.unlock ha sm
           refine ⟨fz, M, ps, kv2, rfl, SqL.of (by rw [upd_ne nM]; exact hM2), paired_imp (fun p kv e => SqT.of (by
             have e := cut_le _ _ e
             rw [upd_ne (fun q => by rw [q, fz] at e; cases e)]; exact e)) hpr, fun B hB => ?_⟩
           rw [merge_id2 (by rw [ek2]; exact ndk)]
           have g := Same.new (o := .dK kv2) hB
           have nBX := not_hid hX (su.free hB)
           refine k _ (.ref B) (Same.trans su g) (.inr (.inr (.inr ⟨h1n, a, B, ks, kv2, ss, rfl, rfl, by rw [cut_out na]; exact g _ _ upd_same, by rw [cut_out nBX]; exact upd_same, ek, ek2.trans ek, nd, l0, paired_imp (fun p q e => EqX.same n (fun b o eb => ?_) e) hE⟩)))
           obtain ⟨h1, h2⟩ := cut_some eb
           simp only [List.mem_cons, not_or] at h1
           obtain ⟨q1, _, q3⟩ := h1
           rw [cut_out (by simpa using q1), cut_out q3]
           exact g _ _ (by rw [upd_ne q1]; exact h2)
    exact fnok_or (ih.mono (by omega)) deep fun vs H Q E ⟨x, X, e, hX, h, k⟩ => by
      rcases h with h | h
      · exact .inl ⟨x, X, e, hX, h, fun H' w s e => k H' w s (.inl e)⟩
      · exact .inr ⟨x, X, e, hX, h, k⟩
end
end D1
end L2
namespace L2
namespace D1
open PySem PySem.Spec PyProof.Rows D2 X5
abbrev sIsStG : Stmt := top 5
abbrev sIsPrG : Stmt := top 19
/-- plain and no text -/
inductive NS (H : Hp) : V → Prop
  | non : NS H .non
  | bl (b : Bool) : NS H (.bl b)
  | int (i : Int) : NS H (.int i)
  | lst {a : Addr} {xs : List V} (e : H a = some (.lst xs)) : NS H (.ref a)
  | dK {a : Addr} {ks : List (Key × V)} (e : H a = some (.dK ks)) : NS H (.ref a)
theorem NS.same {H H' : Hp} {v : V} (h : NS H v) (s : Same H H') : NS H' v := by
  cases h with
  | non => exact .non
  | bl b => exact .bl b
  | int i => exact .int i
  | lst e => exact .lst (s _ _ e)
  | dK e => exact .dK (s _ _ e)
/-- plain and no pair of texts -/
inductive OddI (H : Hp) : V → Prop
  | ns {v : V} (h : NS H v) : OddI H v
  | str (x : Str) : OddI H (.str x)
  | len {a : Addr} {xs : List V} (e : H a = some (.tup xs)) (l : xs.length ≠ 2) : OddI H (.ref a)
  | fst {a : Addr} {x y : V} (e : H a = some (.tup [x, y])) (h : NS H x) : OddI H (.ref a)
  | snd {a : Addr} {x : Str} {y : V} (e : H a = some (.tup [.str x, y])) (h : NS H y) : OddI H (.ref a)
theorem OddI.same {H H' : Hp} {v : V} (h : OddI H v) (s : Same H H') : OddI H' v := by
  cases h with
  | ns h => exact .ns (h.same s)
  | str x => exact .str x
  | len e l => exact .len (s _ _ e) l
  | fst e h => exact .fst (s _ _ e) (h.same s)
  | snd e h => exact .snd (s _ _ e) (h.same s)
theorem ns_ty {H : Hp} {v : V} (h : NS H v) : ∃ t : String, (∀ K : PySem.W.Frag, TyX K H v (.type t)) ∧ kitB t "str" = some false ∧ kitB t "tuple" = some false := by
  cases h with
  | non => exact ⟨"NoneType", fun _ => .base .non, by decide +kernel, by decide +kernel⟩
  | bl b => exact ⟨"bool", fun _ => .base (.bl b), by decide +kernel, by decide +kernel⟩
  | int i => exact ⟨"int", fun _ => .base (.int i), by decide +kernel, by decide +kernel⟩
  | lst e => exact ⟨"list", fun _ => .base (.lst e), by decide +kernel, by decide +kernel⟩
  | dK e => exact ⟨"dict", fun _ => .base (.dK e), by decide +kernel, by decide +kernel⟩
theorem rows_some {H : Hp} {kvs : List (Key × V)} {bk : Bk} (h : Rows H kvs bk) (x : Str) : (valV kvs (.inr x)).isSome = decide (x ∈ bk.map (·.1)) := by
  rw [← valV_any, Bool.eq_iff_iff, decide_eq_true_iff, List.any_eq_true]
  constructor
  · rintro ⟨p, hp, e⟩
    have m : p.1 ∈ kvs.map (·.1) := List.mem_map_of_mem hp
    rw [h.keys, of_decide_eq_true e] at m
    obtain ⟨r, hr, e2⟩ := List.mem_map.mp m
    exact List.mem_map.mpr ⟨r, hr, Sum.inr.inj e2⟩
  · intro m
    obtain ⟨r, hr, e⟩ := List.mem_map.mp m
    have : (Sum.inr x : Key) ∈ kvs.map (·.1) := by rw [h.keys]; exact List.mem_map.mpr ⟨r, hr, by rw [e]⟩
    obtain ⟨p, hp, e2⟩ := List.mem_map.mp this
    exact ⟨p, hp, decide_eq_true e2⟩
def spIsStG : Sp := fun vs H Q _ => ∃ (b : Addr) (kvs : List (Key × V)) (v : V) (r : Bool), vs = [.ref b, v] ∧ Rd H b (.dK kvs) ∧ ((∃ x, v = .str x ∧ r = (valV kvs (.inr x)).isSome) ∨ NS H v ∧ r = false) ∧ Q (.bl r) H
def inPB (bk cl : Bk) (p : Pr) : Bool := decide (p.1 ∈ bk.map (·.1)) && decide (p.2 ∈ cl.map (·.1))
theorem inPB_iff {bk cl : Bk} {p : Pr} : inPB bk cl p = true ↔ InP bk cl p := by unfold inPB InP; rw [Bool.and_eq_true, decide_eq_true_iff, decide_eq_true_iff]
def spIsPrG : Sp := fun vs H Q _ => ∃ (B : Addr) (bk cl : Bk) (v : V) (r : Bool), vs = [.ref B, v] ∧ BksAt H B bk cl ∧ ((∃ z p, v = .ref z ∧ PAt H z p ∧ r = inPB bk cl p) ∨ OddI H v ∧ r = false) ∧ Q (.bl r) H
section
variable {P : Program} {w : World} {K : PySem.W.Frag} {mg : Str → Option Value} {base : Heap}
abbrev CIsStG (P : Program) (w : World) (K : PySem.W.Frag) (mg : Str → Option Value) (base : Heap) := Cal P w K mg base "is_state_of" 1 ["book", "value"] spIsStG
abbrev CIsPrG (P : Program) (w : World) (K : PySem.W.Frag) (mg : Str → Option Value) (base : Heap) := Cal P w K mg base "is_pair_of" 2 ["books", "value"] spIsPrG
theorem scStG : FnScope ["book", "value"] ["book", "value"] (defScope sIsStG) := ⟨rfl, rfl, rfl, by decide +kernel, rfl, by decide +kernel, by decide +kernel⟩
theorem ok_isstg {f : Addr} {fd : FuncData} (F : Fun K "is_state_of" "is_state_of" sIsStG f fd) (T : Free3 mg) : FnOk P w K mg base CX0 1 f fd ["book", "value"] spIsStG := by
  refine F.ok scStG (fun vs H Q E h => ?_) (fun cdv A outer s H vs Q E hr h => ?_)
  · obtain ⟨b, kvs, v, r, rfl, _⟩ := h; rfl
  · obtain ⟨b, kvs, v, r, rfl, hb, hv, k⟩ := h
    have hu := hu_of hr
    refine ⟨_, pss_one (ps_ret (pe_and (pe_callB call_isi (by rfl) T.isi (by decide +kernel) (pa_cons (pv 1) (pa_cons (pe_bltn (v := .ty "str") rfl T.str (by decide +kernel) rfl) pa_nil))) (pe_one (pe_cmp (pc_din hu (pv 1) (pv 0)) rfl)))), ?_⟩
    rcases hv with ⟨x, rfl, rfl⟩ | ⟨h, rfl⟩
    · refine ⟨_, rfl, _, .ty "str", .type "str", .type "str", true, rfl, .ty _, .base (.str _), kit_ty (by decide +kernel), _, rfl, ?_⟩
      exact iteT ⟨_, rfl, _, rfl, b, _, rfl, .inl ⟨kvs, .inr x, hb, rfl, rfl⟩, k⟩
    · obtain ⟨t, ty, e, _⟩ := ns_ty h
      refine ⟨_, rfl, _, .ty "str", .type t, .type "str", false, rfl, .ty _, ty _, kit_ty e, _, rfl, ?_⟩
      exact iteF k
theorem scPrG : FnScope ["books", "value"] ["books", "value"] (defScope sIsPrG) := ⟨rfl, rfl, rfl, by decide +kernel, rfl, by decide +kernel, by decide +kernel⟩
theorem ok_isprg {f : Addr} {fd : FuncData} (F : Fun K "is_pair_of" "is_pair_of" sIsPrG f fd) (T : Free3 mg) (CS : CIsStG P w K mg base) : FnOk P w K mg base CX0 2 f fd ["books", "value"] spIsPrG := by
  refine F.ok scPrG (fun vs H Q E h => ?_) (fun cdv A outer s H vs Q E hr h => ?_)
  · obtain ⟨B, bk, cl, v, r, rfl, _⟩ := h; rfl
  · obtain ⟨B, bk, cl, v, r, rfl, ⟨b1, b2, hB, ⟨k1, hb1, hr1⟩, ⟨k2, hb2, hr2⟩⟩, hv, k⟩ := h
    refine ⟨_, pss_cons (ps_if (PW.pt (pw_or (pt_not (pt_val (pe_callB call_isi (by rfl) T.isi (by decide +kernel) (pa_cons (pv 1) (pa_cons (pe_bltn (v := .ty "tuple") rfl T.tuple (by decide +kernel) rfl) pa_nil))))) (pw_or1 (pt_cmpR op_ne (pe_callB call_len_seq (by rfl) T.len PySem.boot_len (pa_cons (pv 1) pa_nil)) pe_int (nomark _))))) (pss_one (ps_ret pe_bl)) pss_nil)
      (pss_one (ps_ret (pe_and (pe_cal CS (hr.mono (by decide)) rfl (pa_cons (pe_ix ix_tup (pv 0) pe_int (fun _ _ => rfl)) (pa_cons (pe_ix ix_tup (pv 1) pe_int (fun _ _ => rfl)) pa_nil))) (pe_one (pe_cal CS (hr.mono (by decide)) rfl (pa_cons (pe_ix ix_tup (pv 0) pe_int (fun _ _ => rfl)) (pa_cons (pe_ix ix_tup (pv 1) pe_int (fun _ _ => rfl)) pa_nil))))))), ?_⟩
    rcases hv with ⟨z, p, rfl, hz, rfl⟩ | ⟨hv, rfl⟩
    · refine ⟨_, rfl, _, .ty "tuple", .type "tuple", .type "tuple", true, rfl, .ty _, .base (.tup hz), kit_ty (by decide +kernel), _, rfl, ?_⟩
      refine iteF ⟨_, rfl, z, _, rfl, .inr (SqT.of hz), rfl, _, rfl, ?_⟩
      refine iteF ⟨_, rfl, B, _, _, _, rfl, rfl, SqT.of hB, atI_nat (j := 0) rfl, _, rfl, z, _, _, _, rfl, rfl, SqT.of hz, atI_nat (j := 0) rfl, b1, k1, .str p.1, _, rfl, .inl hb1, .inl ⟨p.1, rfl, rfl⟩, _, rfl, ?_⟩
      rw [rows_some hr1]
      unfold inPB at k
      cases c : decide (p.1 ∈ bk.map (·.1)) with
      | false => rw [c, Bool.false_and] at k; exact iteF k
      | true =>
        rw [c, Bool.true_and] at k
        refine iteT ⟨_, rfl, B, _, _, _, rfl, rfl, SqT.of hB, atI_nat (j := 1) rfl, _, rfl, z, _, _, _, rfl, rfl, SqT.of hz, atI_nat (j := 1) rfl, b2, k2, .str p.2, _, rfl, .inl hb2, .inl ⟨p.2, rfl, rfl⟩, ?_⟩
        rw [rows_some hr2]; exact k
    · have key : (∃ t : String, (∀ K : PySem.W.Frag, TyX K H v (.type t)) ∧ kitB t "tuple" = some false) ∨ ∃ (a : Addr) (xs : List V), v = .ref a ∧ H a = some (.tup xs) ∧ (xs.length ≠ 2 ∨ ∃ x y, xs = [x, y] ∧ (NS H x ∨ ∃ z, x = .str z ∧ NS H y)) := by
        cases hv with
        | ns h => obtain ⟨t, ty, _, e⟩ := ns_ty h; exact .inl ⟨t, ty, e⟩
        | str x => exact .inl ⟨"str", fun _ => .base (.str x), by decide +kernel⟩
        | len e l => exact .inr ⟨_, _, rfl, e, .inl l⟩
        | fst e h => exact .inr ⟨_, _, rfl, e, .inr ⟨_, _, rfl, .inl h⟩⟩
        | snd e h => exact .inr ⟨_, _, rfl, e, .inr ⟨_, _, rfl, .inr ⟨_, rfl, h⟩⟩⟩
      rcases key with ⟨t, ty, e⟩ | ⟨a, xs, rfl, ha, h⟩
      · refine ⟨_, rfl, _, .ty "tuple", .type t, .type "tuple", false, rfl, .ty _, ty _, kit_ty e, _, rfl, ?_⟩
        exact iteT (iteT k)
      refine ⟨_, rfl, _, .ty "tuple", .type "tuple", .type "tuple", true, rfl, .ty _, .base (.tup ha), kit_ty (by decide +kernel), _, rfl, ?_⟩
      refine iteF ⟨_, rfl, a, _, rfl, .inr (SqT.of ha), rfl, _, rfl, ?_⟩
      rcases h with l | ⟨x, y, rfl, h⟩
      · refine (if_pos ?_).mpr k
        rw [Bool.not_eq_true', decide_eq_false_iff_not]
        intro e
        have := V.int.inj e
        omega
      refine iteF ⟨_, rfl, B, _, _, _, rfl, rfl, SqT.of hB, atI_nat (j := 0) rfl, _, rfl, a, _, _, _, rfl, rfl, SqT.of ha, atI_nat (j := 0) rfl, b1, k1, x, ?_⟩
      rcases h with h | ⟨z, rfl, h⟩
      · exact ⟨false, rfl, .inl hb1, .inr ⟨h, rfl⟩, _, rfl, iteF k⟩
      · refine ⟨_, rfl, .inl hb1, .inl ⟨z, rfl, rfl⟩, _, rfl, ?_⟩
        cases (valV k1 (.inr z)).isSome with
        | false => exact iteF k
        | true => exact iteT ⟨_, rfl, B, _, _, _, rfl, rfl, SqT.of hB, atI_nat (j := 1) rfl, _, rfl, a, _, _, _, rfl, rfl, SqT.of ha, atI_nat (j := 1) rfl, b2, k2, y, false, rfl, .inl hb2, .inr ⟨h, rfl⟩, k⟩
end
end D1
end L2
namespace L2
namespace D1
open PySem PySem.Spec PyProof.Rows D2 X5 X6 Dq
abbrev sSafeT : Stmt := top 26
/-- an expression's dict, locked for good -/
def tFrz (t : TE) : TE := fun σ H Q => t σ H fun x H1 => ∃ d kvs, x = .ref d ∧ H1 d = some (.dK kvs) ∧ ∀ od, Q (.ref d) (L2.upd H1 d (.frz od (.dK kvs)))
theorem pe_frz {X : Cx} {e : Expr} {t : TE} (h : PE X e t) : PE X e (tFrz t) := by
  refine ⟨fun pins s σ H Q I q => ?_⟩
  refine thn (h.run pins s σ H _ I q) fun v s1 ⟨x, H1, I1, rx, d, kvs, ex, hd, k⟩ => ?_
  subst ex
  obtain ⟨od, I2⟩ := I1.lock hd trivial
  exact ⟨.ref d, _, I2, rx, k od⟩
theorem tyx_same {K : PySem.W.Frag} {H H' : Hp} {v : V} {t : Value} (h : TyX K H v t) (s : Same H H') : TyX K H' v t := by
  cases h with
  | base h =>
    cases h with
    | non => exact .base .non
    | bl x => exact .base (.bl x)
    | int x => exact .base (.int x)
    | str x => exact .base (.str x)
    | flt x => exact .base (.flt x)
    | lst e => exact .base (.lst (s _ _ e))
    | frz e => exact .base (.frz (s _ _ e))
    | tup e => exact .base (.tup (s _ _ e))
    | dK e => exact .base (.dK (s _ _ e))
    | dT e => exact .base (.dT (s _ _ e))
    | ins e cl ha hn htk hm => exact .base (.ins (s _ _ e) cl ha hn htk hm)
  | byt b => exact .byt b
  | set e => exact .set (s _ _ e)
  | kList e c => exact .kList e c
  | kTuple e c => exact .kTuple e c
  | kDict e c => exact .kDict e c
  | fTuple e => exact .fTuple (s _ _ e)
  | fDict e => exact .fDict (s _ _ e)
/-- isinstance(v, list) is told False -/
def NotL (K : PySem.W.Frag) (H : Hp) (v : V) : Prop := ∃ t, TyX K H v t ∧ PySem.W.kitOne K t (.type "list") = some false
def safeB (bk cl : Bk) (f : Pr) (ps : List Pr) : Bool := ps.all (inPB bk cl) && ascB ps && memG f ps && ps.all (fitP bk cl) && ps.all fun p => (stepP bk cl p).all fun t => memG t.2 ps
theorem dec_mem {x : Pr} {ps : List Pr} [Decidable (x ∈ ps)] : decide (x ∈ ps) = memG x ps := Bool.eq_iff_iff.mpr (decide_eq_true_iff.trans memG_iff.symm)
theorem all_flat {α β : Type} (f : α → List β) (g : β → Bool) (l : List α) : ((l.flatMap fun p => (f p).map g).all id) = l.all fun p => (f p).all g := by
  induction l with
  | nil => rfl
  | cons a r ih => rw [List.flatMap_cons, List.all_append, ih, all_map, List.all_cons]
theorem flat_len {α β : Type} (f : α → List β) : ∀ l : List α, (∀ x ∈ l, (f x).length ≤ 60) → (l.flatMap f).length ≤ l.length * 60
  | [], _ => Nat.zero_le _
  | a :: r, h => by
    rw [List.flatMap_cons, List.length_append, List.length_cons, Nat.succ_mul]
    have := flat_len f r fun x hx => h x (List.mem_cons_of_mem _ hx)
    have := h a List.mem_cons_self
    omega
/-- a list of pairs, a list with odd things, no list -/
def SafV (K : PySem.W.Frag) (H : Hp) (bk cl : Bk) (f : Pr) (v : V) (r : Bool) : Prop :=
  (∃ L us ps, v = .ref L ∧ H L = some (.lst us) ∧ Ats H us ps ∧ ps.length ≤ 10000 ∧ r = safeB bk cl f ps) ∨
  (∃ L us, v = .ref L ∧ H L = some (.lst us) ∧ us.length ≤ 10000 ∧ (∀ u ∈ us, OddI H u ∨ ∃ z p, u = .ref z ∧ PAt H z p) ∧ (∃ u ∈ us, OddI H u) ∧ r = false) ∨ NotL K H v ∧ r = false
def spSafeT (K : PySem.W.Frag) (C : Addr) : Sp := fun vs H Q _ => ∃ (q1 q2 : Addr) (bk cl : Bk) (st st' : Str) (v : V) (r : Bool), vs = [.ref q1, .ref q2, v] ∧ Two C H q1 q2 bk cl st st' ∧ DOk bk st ∧ DOk cl st' ∧ SafV K H (ordB bk) (ordB cl) (st, st') v r ∧ ∀ H', Same H H' → Q (.bl r) H'
section
variable {P : Program} {w : World} {K : PySem.W.Frag} {mg : Str → Option Value} {base : Heap} {C : Addr}
abbrev CAsc (P : Program) (w : World) (K : PySem.W.Frag) (mg : Str → Option Value) (base : Heap) := Cal P w K mg base "is_ascending" 1 ["items"] (spAsc K)
abbrev CFirstP (P : Program) (w : World) (K : PySem.W.Frag) (mg : Str → Option Value) (base : Heap) (C : Addr) := Cal P w K mg base "first_pair" 3 ["one", "other"] (spFirstPair C)
abbrev CFitP (P : Program) (w : World) (K : PySem.W.Frag) (mg : Str → Option Value) (base : Heap) := Cal P w K mg base "is_fitting" 1 ["books", "pair"] spFit
abbrev CShare (P : Program) (w : World) (K : PySem.W.Frag) (mg : Str → Option Value) (base : Heap) := Cal P w K mg base "shared_steps" 1 ["books", "pair"] (spNx stepP)
abbrev stbN : List Str := ["elder", "newer", "value", "books", "listed", "pair", "later"]
theorem scStb : FnScope stbN ["elder", "newer", "value"] (defScope sSafeT) := ⟨rfl, rfl, rfl, by decide +kernel, rfl, by decide +kernel, by decide +kernel⟩
theorem ok_safet {f : Addr} {fd : FuncData} (F : Fun K "is_safe_table" "is_safe_table" sSafeT f fd) (T : Free4 mg) (CB : CBooksOf P w K mg base C) (CP : CIsPrG P w K mg base) (CA : CAsc P w K mg base) (CF : CFirstP P w K mg base C) (CFi : CFitP P w K mg base) (CS : CShare P w K mg base) : FnOk P w K mg base CX0 5 f fd ["elder", "newer", "value"] (spSafeT K C) := by
  refine F.ok scStb (fun vs H Q E h => ?_) (fun cdv A outer s H vs Q E0' hr h => ?_)
  · obtain ⟨q1, q2, bk, cl, st, st', v, r, rfl, _⟩ := h; rfl
  · obtain ⟨q1, q2, bk, cl, st, st', v, r, rfl, tw, o1, o2, hv, k⟩ := h
    have hu := hu_of hr
    refine ⟨_, pss_cons (ps_set (i := 3) scStb.nd rfl (Or.inr rfl) (pe_cal CB (hr.mono (by decide)) rfl (pa_cons (pv 0) (pa_cons (pv 1) pa_nil))))
      (pss_cons (ps_if (PW.pt (pw_or (pt_not (pt_val (pe_callB call_isi (by rfl) T.isi (by decide +kernel) (pa_cons (pv 2) (pa_cons (pe_bltn (v := .ty "list") rfl T.list (by decide +kernel) rfl) pa_nil))))) (pw_or (pt_not (pt_val (pe_callB (cr_all rfl) (by rfl) T.all (by decide +kernel) (pa_cons (pe_lc (own := [("pair", 5)]) (g := gName 5) (tt := tYes) (te := tCall spIsPrG [] E0 (tCons (tVar 3) (tCons (tVar 5) tNil))) rfl scStb.nd (pi_list (pv 2))
            (blkOk_by (N := stbN) (sc := defScope sSafeT) (by decide +kernel)) (fun _ _ _ _ _ => pg_name (i := 5) scStb.nd rfl (Or.inl rfl)) (fun _ _ _ _ _ => pts_nil) (fun _ _ _ _ _ => pe_cal CP (hr.mono (by decide)) rfl (pa_cons (pv 3) (pa_cons (pv 5) pa_nil)))) pa_nil)))) (pw_or1 (pt_not (pt_val (pe_cal CA (hr.mono (by decide)) rfl (pa_cons (pv 2) pa_nil)))))))) (pss_one (ps_ret pe_bl)) pss_nil)
      (pss_cons (ps_set (i := 4) scStb.nd rfl (Or.inr rfl) (pe_dcT (own := [("pair", 5)]) (g := gName 5) (tt := tYes) (tk := tVar 5) (tv := tC (.bl true)) (Nat.lt_of_succ_lt hu) rfl scStb.nd (pi_list (pv 2)) (blkOk_by (N := stbN) (sc := defScope sSafeT) (by decide +kernel)) (fun _ _ _ _ _ => pg_name (i := 5) scStb.nd rfl (Or.inl rfl)) (fun _ _ _ _ _ => pts_nil) (fun _ _ _ _ _ => pv 5) (fun _ _ _ _ _ => pe_bl)))
      (pss_cons (ps_if (PW.pt (pw_or (pt_cmp (pc_dnotin hu (pe_cal CF (hr.mono (by decide)) rfl (pa_cons (pv 0) (pa_cons (pv 1) pa_nil))) (pv 4)) rfl) (pw_or1 (pt_not (pt_val (pe_callB (cr_all rfl) (by rfl) T.all (by decide +kernel) (pa_cons (pe_lc (own := [("pair", 5)]) (g := gName 5) (tt := tYes) (te := tCall spFit [] E0 (tCons (tVar 3) (tCons (tVar 5) tNil))) rfl scStb.nd (pi_list (pv 2))
            (blkOk_by (N := stbN) (sc := defScope sSafeT) (by decide +kernel)) (fun _ _ _ _ _ => pg_name (i := 5) scStb.nd rfl (Or.inl rfl)) (fun _ _ _ _ _ => pts_nil) (fun _ _ _ _ _ => pe_cal CFi (hr.mono (by decide)) rfl (pa_cons (pv 3) (pa_cons (pv 5) pa_nil)))) pa_nil))))))) (pss_one (ps_ret pe_bl)) pss_nil)
      (pss_one (ps_ret (pe_callB (cr_all rfl) (by rfl) T.all (by decide +kernel) (pa_cons (pe_lc2 (own := [("pair", 5), ("later", 6)]) (vs1 := [6]) (g := gName 5) (tt := tYes) (g1 := gName 6) (tt1 := tYes) (wi1 := iVals (tFrz (tCall (spNx stepP) [] E0 (tCons (tVar 3) (tCons (tVar 5) tNil))))) (te := tDIn (tVar 6) (tVar 4)) rfl scStb.nd (pi_list (pv 2))
          (blkOk_by (N := stbN) (sc := defScope sSafeT) (by decide +kernel)) (by decide) (fun _ _ _ _ _ => pg_name (i := 5) scStb.nd rfl (Or.inl rfl)) (fun _ _ _ _ _ => pts_nil)
          (fun _ _ _ _ _ => pi_values (pe_frz (pe_cal CS (hr.mono (by decide)) rfl (pa_cons (pv 3) (pa_cons (pv 5) pa_nil))))) (fun _ _ _ _ _ => pg_name (i := 6) scStb.nd rfl (Or.inl rfl)) (fun _ _ _ _ _ => pts_nil)
          (fun _ _ _ _ _ => pe_cmp (pc_din hu (pv 6) (pv 4)) rfl)) pa_nil))))))), ?_⟩
    refine ⟨_, rfl, _, rfl, q1, q2, bk, cl, st, st', rfl, tw, o1, o2, fun H1 B s1 nB hB => ?_⟩
    have bb : BB (ordB bk) (ordB cl) := DOk.bb o1.ord o2.ord
    have tw1 := tw.same s1
    rcases hv with ⟨L, us, ps, rfl, hL, hA, l, rfl⟩ | ⟨L, us, rfl, hL, l, hodd, ⟨u0, hu0, ho0⟩, rfl⟩ | ⟨⟨t, ty, e⟩, rfl⟩
    · have hL1 := s1 _ _ hL
      have hA1 := hA.same s1
      have lu := hA.len
      have rf : (∀ p ∈ ps, InP (ordB bk) (ordB cl) p) ∧ ascB ps = true ∧ memG (st, st') ps = true ∧ ps.all (fitP (ordB bk) (ordB cl)) = true → safeB (ordB bk) (ordB cl) (st, st') ps = ps.all fun p => (stepP (ordB bk) (ordB cl) p).all fun t => memG t.2 ps := fun ⟨a, b, c, d⟩ => by
        unfold safeB
        rw [List.all_eq_true.mpr fun p hp => inPB_iff.mpr (a p hp), b, c, d]; rfl
      refine ⟨_, rfl, _, .ty "list", .type "list", .type "list", true, rfl, .ty _, .base (.lst hL1), kit_ty (by decide +kernel), _, rfl, ?_⟩
      refine iteF ⟨_, rfl, L, rfl, ⟨_, SqL.of hL1⟩, fun M hM => ?_⟩
      refine lc_list (K := K) (a := L) (xs := us) (fun i H' => Same H1 H' ∧ H' M = some (.lst (((ps.take i).map (inPB (ordB bk) (ordB cl))).map V.bl))) ⟨Same.new hM, upd_same⟩ (fun i H' _ z => SqL.of (z.1 _ _ hL1)) ?_ ?_
      · rintro i v H2 hv ⟨sm, hM2⟩
        obtain ⟨p, hp, z, rfl, hz⟩ := paired_get hA1 hv
        have li : i < us.length := (List.getElem?_eq_some_iff.mp hv).1
        refine ⟨rfl, ?_⟩
        dsimp only [tYes]
        rw [if_pos rfl]
        refine ⟨_, rfl, _, rfl, B, _, _, .ref z, _, rfl, hB.same sm, .inl ⟨z, p, rfl, sm _ _ hz, rfl⟩, ?_⟩
        refine ⟨_, hM2, by rw [List.length_map, List.length_map, List.length_take, sizeLine_eq]; omega, fun c o e => ?_, by rw [upd_same, take_succ_get hp, List.map_append, List.map_append]; rfl⟩
        rw [upd_ne (ne_of_none e hM)]; exact sm _ _ e
      rintro H2 ⟨s2, hM2⟩
      rw [lu, List.take_length] at hM2
      refine ⟨M, _, rfl, SqL.of hM2, ?_⟩
      rw [all_map]
      have s02 := Same.trans s1 s2
      cases c1 : ps.all (inPB (ordB bk) (ordB cl)) with
      | false =>
        have e : safeB (ordB bk) (ordB cl) (st, st') ps = false := by unfold safeB; rw [c1]; simp
        rw [e] at k
        exact ⟨_, rfl, iteT (iteT (k H2 s02))⟩
      | true =>
      have inp : ∀ p ∈ ps, InP (ordB bk) (ordB cl) p := fun p hp => inPB_iff.mp (List.all_eq_true.mp c1 p hp)
      refine ⟨_, rfl, iteF ?_⟩
      refine ⟨_, rfl, L, us, ps, rfl, s2 _ _ hL1, hA1.same s2, l, fun H3 s3 => ⟨_, rfl, ?_⟩⟩
      have s13 := Same.trans s2 s3
      have s03 := Same.trans s1 s13
      cases c2 : ascB ps with
      | false =>
        have e : safeB (ordB bk) (ordB cl) (st, st') ps = false := by unfold safeB; rw [c1, c2]; simp
        rw [e] at k
        exact iteT (k H3 s03)
      | true =>
      have hL3 := s13 _ _ hL1
      have hA3 := hA1.same s13
      have pnd : ps.Nodup := (ascB_iff.mp c2).imp fun {a b} h e => by rw [e, ltP_irrefl] at h; cases h
      refine iteF ⟨_, rfl, L, rfl, ⟨_, SqL.of hL3⟩, fun F0 hF => ?_⟩
      refine dct_it (walk_list (a := L) (xs := us)) (fun i H' => Same H3 H' ∧ H' F0 = some (.dT (FT (ps.take i)))) ⟨Same.new hF, upd_same⟩ (fun i H' _ z => SqL.of (z.1 _ _ hL3)) ?_ ?_
      · rintro i x H4 H5 hi ⟨s4, hF4⟩ ⟨rfl, hx⟩
        obtain ⟨p, hp, z, rfl, hz⟩ := paired_get hA3 hx
        have nn : p ∉ ps.take i := fun m => by
          have := not_before (gs := []) (ls := ps) (by simpa using pnd) hp
          rw [List.nil_append] at this
          exact this m
        refine ⟨rfl, ?_⟩
        dsimp only [tYes]
        rw [if_pos rfl]
        refine ⟨_, rfl, _, kP p, z, rfl, s4 _ _ hz, hF4, by rw [FT, List.length_map, List.length_take, sizeLine_eq]; omega, fun c o e => ?_, by rw [upd_same, FT_put nn, take_succ_get hp]⟩
        rw [upd_ne (ne_of_none e hF)]; exact s4 _ _ e
      rintro H4 ⟨s4, hF4⟩
      rw [lu, List.take_length] at hF4
      have s14 := Same.trans s13 s4
      refine ⟨_, rfl, _, rfl, q1, q2, bk, cl, st, st', rfl, tw1.same s14, fun H5 z0 s5 nz0 hz0 => ?_⟩
      have s15 := Same.trans s14 s5
      have hF5 := s5 _ _ hF4
      refine ⟨_, rfl, F0, _, rfl, DGet.t (k := kP (st, st')) hF5 hz0, _, rfl, ?_⟩
      rw [FT_val]
      cases c3 : decide ((st, st') ∈ ps) with
      | false =>
        have e : safeB (ordB bk) (ordB cl) (st, st') ps = false := by unfold safeB; rw [memG_not.mpr (of_decide_eq_false c3)]; simp
        rw [e] at k
        exact iteT (k H5 (Same.trans s1 s15))
      | true =>
      have hL5 := s15 _ _ hL1
      have hA5 := hA1.same s15
      have hB5 := hB.same s15
      refine iteF ⟨_, rfl, L, rfl, ⟨_, SqL.of hL5⟩, fun M6 hM6 => ?_⟩
      refine lc_list (K := K) (a := L) (xs := us) (fun i H' => Same H5 H' ∧ H' M6 = some (.lst (((ps.take i).map (fitP (ordB bk) (ordB cl))).map V.bl))) ⟨Same.new hM6, upd_same⟩ (fun i H' _ z => SqL.of (z.1 _ _ hL5)) ?_ ?_
      · rintro i v H6 hv ⟨sm, hM⟩
        obtain ⟨p, hp, z, rfl, hz⟩ := paired_get hA5 hv
        have li : i < us.length := (List.getElem?_eq_some_iff.mp hv).1
        refine ⟨rfl, ?_⟩
        dsimp only [tYes]
        rw [if_pos rfl]
        refine ⟨_, rfl, _, rfl, B, z, _, _, p, rfl, hB5.same sm, sm _ _ hz, inp p (List.mem_of_getElem? hp), bb, fun H7 s7 => ?_⟩
        refine ⟨_, s7 _ _ hM, by rw [List.length_map, List.length_map, List.length_take, sizeLine_eq]; omega, fun c o e => ?_, by rw [upd_same, take_succ_get hp, List.map_append, List.map_append]; rfl⟩
        rw [upd_ne (ne_of_none e hM6)]; exact s7 _ _ (sm _ _ e)
      rintro H6 ⟨s6, hM⟩
      rw [lu, List.take_length] at hM
      refine ⟨M6, _, rfl, SqL.of hM, ?_⟩
      rw [all_map]
      have s16 := Same.trans s15 s6
      cases c4 : ps.all (fitP (ordB bk) (ordB cl)) with
      | false =>
        have e : safeB (ordB bk) (ordB cl) (st, st') ps = false := by unfold safeB; rw [c4]; simp
        rw [e] at k
        exact ⟨_, rfl, iteT (k H6 (Same.trans s1 s16))⟩
      | true =>
      rw [rf ⟨inp, c2, memG_iff.mpr (of_decide_eq_true c3), c4⟩] at k
      have hL6 := s6 _ _ hL5
      have hA6 := hA5.same s6
      have hF6 := s6 _ _ hF5
      obtain ⟨b1, b2, hBt, hb1, hb2⟩ := hB5.same s6
      have lst0 : ∀ p ∈ ps, (stepP (ordB bk) (ordB cl) p).length ≤ 60 := fun p hp => by
        unfold stepP
        split
        · rw [List.length_map]
          exact Nat.le_trans (List.length_filter_le _ _) (bb.w1.len2 _ (row_mem (inp p hp).1))
        · exact Nat.zero_le _
      refine ⟨_, rfl, iteF ⟨_, rfl, L, rfl, ⟨_, SqL.of hL6⟩, fun D hD => ?_⟩⟩
      have sn : ∀ {i p}, ps[i]? = some p → ((ps.take (i + 1)).flatMap fun p => (stepP (ordB bk) (ordB cl) p).map fun t => memG t.2 ps) = ((ps.take i).flatMap fun p => (stepP (ordB bk) (ordB cl) p).map fun t => memG t.2 ps) ++ (stepP (ordB bk) (ordB cl) p).map fun t => memG t.2 ps := fun {i p} e => by
        rw [take_succ_get e, List.flatMap_append, List.flatMap_singleton]
      have lnf : ∀ i, ((ps.take i).flatMap fun p => (stepP (ordB bk) (ordB cl) p).map fun t => memG t.2 ps).length ≤ 600000 := fun i => by
        have := flat_len (fun p => (stepP (ordB bk) (ordB cl) p).map fun t => memG t.2 ps) (ps.take i) fun x hx => by rw [List.length_map]; exact lst0 x (List.mem_of_mem_take hx)
        rw [List.length_take] at this
        omega
      refine lp_it (walk_list (a := L) (xs := us)) (fun i H' => Same H6 H' ∧ H' D = some (.lst (((ps.take i).flatMap fun p => (stepP (ordB bk) (ordB cl) p).map fun t => memG t.2 ps).map V.bl))) ⟨Same.new hD, upd_same⟩ (fun i H' _ z => SqL.of (z.1 _ _ hL6)) ?_ ?_
      · rintro i v H7 H8 hi ⟨sm, hD7⟩ ⟨rfl, hv⟩
        obtain ⟨p, hp, z, rfl, hz⟩ := paired_get hA6 hv
        have pm := List.mem_of_getElem? hp
        have ip := inp p pm
        refine ⟨rfl, ?_⟩
        dsimp only [tYes]
        rw [if_pos rfl]
        refine ⟨_, rfl, _, rfl, B, z, b1, b2, ordB bk, ordB cl, p, rfl, sm _ _ hBt, hb1.same sm, hb2.same sm, sm _ _ hz, ip.1, ip.2, bb.w1, bb.w2, bb.n1, bb.n2, fun H9 R s9 nR ⟨kr, hR, pR⟩ => ⟨R, kr, rfl, hR, fun od => ⟨R, od, kr, rfl, upd_same, ?_⟩⟩⟩
        have hD9 := s9 _ _ hD7
        have nRD : R ≠ D := fun e => by rw [e, hD9] at hR; cases hR
        have nR6 : H6 R = none := sm.free nR
        have lkr : kr.length = (stepP (ordB bk) (ordB cl) p).length := paired_len pR
        have cv : ∀ {H'}, Same (cut [D] (L2.upd H9 R (.frz od (.dK kr)))) H' → Same H6 H' := fun s c o e => s _ _ (by
          rw [cut_out (by simpa using ne_of_none e hD), upd_ne (ne_of_none e nR6)]; exact s9 _ _ (sm _ _ e))
        refine lp_it (walk_values (d := R) (o := od) (kvs := kr)) (fun j H' => Same (cut [D] (L2.upd H9 R (.frz od (.dK kr)))) H' ∧ H' D = some (.lst ((((ps.take i).flatMap fun p => (stepP (ordB bk) (ordB cl) p).map fun t => memG t.2 ps) ++ ((stepP (ordB bk) (ordB cl) p).take j).map fun t => memG t.2 ps).map V.bl)))
          ⟨cut_le, by rw [upd_ne (Ne.symm nRD), List.take_zero, List.map_nil, List.append_nil]; exact hD9⟩ (fun j H' _ z => z.1 _ _ (by rw [cut_out (by simpa using nRD)]; exact upd_same)) ?_ ?_
        · rintro j y H10 H11 hj ⟨s10, hD10⟩ ⟨rfl, k0, hkv⟩
          obtain ⟨t, ht, _, z2, ez, hz2⟩ := paired_get pR hkv
          have ez : y = .ref z2 := ez
          subst ez
          have hz10 : PAt H11 z2 t.2 := s10 _ _ (by
            rw [cut_out (by
              have : z2 ≠ D := fun e => by rw [PAt, e, hD9] at hz2; cases hz2
              simpa using this), upd_ne (fun e => by rw [PAt, e, hR] at hz2; cases hz2)]
            exact hz2)
          refine ⟨rfl, ?_⟩
          dsimp only [tYes]
          rw [if_pos rfl]
          refine ⟨_, rfl, _, rfl, F0, _, rfl, DGet.t (k := kP t.2) (cv s10 _ _ hF6) hz10, ?_⟩
          rw [FT_val, dec_mem]
          refine ⟨_, hD10, ?_, fun c o e => ?_, ?_⟩
          · have h1 := lnf i
            have h2 := lst0 p pm
            rw [List.length_map, List.length_append, List.length_map, List.length_take, sizeLine_eq]
            omega
          · have nc : c ≠ D := fun q => by rw [q, cut_in (by simp)] at e; cases e
            rw [upd_ne nc]; exact s10 _ _ e
          · rw [upd_same, take_succ_get ht]
            simp only [List.map_append, List.append_assoc]
            rfl
        · rintro H10 ⟨s10, hD10⟩
          rw [lkr, List.take_length] at hD10
          refine ⟨cv s10, ?_⟩
          rw [sn hp]; exact hD10
      · rintro H7 ⟨sm, hD7⟩
        rw [lu, List.take_length] at hD7
        refine ⟨D, _, rfl, SqL.of hD7, ?_⟩
        rw [all_flat]
        exact k H7 (Same.trans s1 (Same.trans s16 sm))
    · have hL1 := s1 _ _ hL
      refine ⟨_, rfl, _, .ty "list", .type "list", .type "list", true, rfl, .ty _, .base (.lst hL1), kit_ty (by decide +kernel), _, rfl, ?_⟩
      refine iteF ⟨_, rfl, L, rfl, ⟨_, SqL.of hL1⟩, fun M hM => ?_⟩
      obtain ⟨j0, hj0⟩ := List.getElem?_of_mem hu0
      refine lc_list (K := K) (a := L) (xs := us) (fun i H' => Same H1 H' ∧ ∃ bs : List Bool, H' M = some (.lst (bs.map V.bl)) ∧ bs.length = i ∧ (j0 < i → false ∈ bs)) ⟨Same.new hM, [], upd_same, rfl, fun h => absurd h (Nat.not_lt_zero _)⟩ (fun i H' _ z => SqL.of (z.1 _ _ hL1)) ?_ ?_
      · rintro i v H2 hv ⟨sm, bs, hM2, lb, hf⟩
        have li : i < us.length := (List.getElem?_eq_some_iff.mp hv).1
        refine ⟨rfl, ?_⟩
        dsimp only [tYes]
        rw [if_pos rfl]
        have s2 := Same.trans s1 sm
        have fin : ∀ b : Bool, (i = j0 → b = false) → ∃ xs, H2 M = some (.lst xs) ∧ xs.length < sizeLine ∧ (Same H1 (L2.upd H2 M (.lst (xs ++ [.bl b]))) ∧ ∃ bs : List Bool, (L2.upd H2 M (.lst (xs ++ [.bl b]))) M = some (.lst (bs.map V.bl)) ∧ bs.length = i + 1 ∧ (j0 < i + 1 → false ∈ bs)) := fun b hb => by
          refine ⟨_, hM2, by rw [List.length_map, lb, sizeLine_eq]; omega, fun c o e => ?_, bs ++ [b], by rw [upd_same, List.map_append]; rfl, by rw [List.length_append, lb]; rfl, fun h => ?_⟩
          · rw [upd_ne (ne_of_none e hM)]; exact sm _ _ e
          · by_cases c : i = j0
            · rw [hb c]; simp
            · exact List.mem_append_left _ (hf (by omega))
        rcases hodd v (List.mem_of_getElem? hv) with h | ⟨z, p, rfl, hz⟩
        · exact ⟨_, rfl, _, rfl, B, _, _, v, false, rfl, hB.same sm, .inr ⟨h.same s2, rfl⟩, fin false fun _ => rfl⟩
        · refine ⟨_, rfl, _, rfl, B, _, _, .ref z, _, rfl, hB.same sm, .inl ⟨z, p, rfl, s2 _ _ hz, rfl⟩, fin _ fun e => ?_⟩
          subst e
          rw [hv] at hj0
          rw [← Option.some.inj hj0] at ho0
          cases ho0 with
          | ns h => cases h with
            | lst e => rw [show H z = _ from hz] at e; cases e
            | dK e => rw [show H z = _ from hz] at e; cases e
          | len e l2 => rw [show H z = _ from hz] at e; cases e; exact absurd rfl l2
          | fst e h => rw [show H z = _ from hz] at e; cases e; cases h
          | snd e h => rw [show H z = _ from hz] at e; cases e; cases h
      · rintro H2 ⟨sm, bs, hM2, lb, hf⟩
        have ff := hf (List.getElem?_eq_some_iff.mp hj0).1
        refine ⟨M, _, rfl, SqL.of hM2, ?_⟩
        have e : bs.all id = false := by
          rw [List.all_eq_false]; exact ⟨false, ff, by decide⟩
        rw [e]
        exact ⟨_, rfl, iteT (iteT (k H2 (Same.trans s1 sm)))⟩
    · refine ⟨_, rfl, _, .ty "list", t, .type "list", false, rfl, .ty _, tyx_same ty s1, e, _, rfl, ?_⟩
      exact iteT (iteT (k H1 s1))
end
end D1
end L2
namespace PySem.SeqAt
open PySem
open MeetsSeq
open PySem.W
theorem str_eq_declines_dict (b : Str) (u : Tok) (l : Addr) (c : Value) (es : Array DictEntry) (ep : Nat) (dd : Option Addr) (sl : Array (Option Value)) :
    Meets (Builtin.«str.__eq__» ⟨[.str b u, .ref l], []⟩) (fun _ R s => s.heap.get? l = some { cls := c, dict := dd, data := .dict es ep, slots := sl } ∧ R (.ok (.ret .notImplemented)) s) :=
  .of_wp fun prog w A R s h => by obtain ⟨hp, g, d, tk, os⟩ := s; obtain ⟨hl, h⟩ := h; wp_walk using AutoSeq1.wpAny_loadPart' hl, wpAny_load hl; exact ⟨_, rfl, h⟩
theorem dict_eq_declines_str (l : Addr) (b : Str) (u : Tok) :
    Meets (Builtin.«dict.__eq__» ⟨[.ref l, .str b u], []⟩) (fun _ R s => s.TypeIs (.ref l) "dict" ∧ R (.ok (.ret .notImplemented)) s) :=
  .of_wp fun prog w A R s h => by
    obtain ⟨hl, h⟩ := h
    show wpAny _ _ (Builtin.Dict.dictSlotArgs "__eq__" ⟨[.ref l, .str b u], []⟩ >>= _) _ _ s
    refine wpAny_bind ?_
    unfold Builtin.Dict.dictSlotArgs
    refine wpAny_bind (wpAny_notOrdered_dict hl ?_)
    show wpAny _ _ (pure (Value.ref l, Value.str b u)) _ _ s
    refine wpAny_pure ?_
    refine wpAny_bind (wpAny_isInstance (T := "str") (typeIs_str s b u) PySem.F.sub_str_dict ?_)
    simp only [Bool.not_false, if_true]
    refine wpAny_bind (wpAny_rule ?_)
    exact wpAny_pure ⟨_, rfl, h⟩
section
variable {A : Around} {s : Shared}
theorem RcAt.str_dict {l : Addr} {es : Array DictEntry} {ep : Nat} {dd : Option Addr} {sl : Array (Option Value)} (b : Str) (u : Tok) (ho : s.heap.get? l = some { cls := .type "dict", dict := dd, data := .dict es ep, slots := sl }) (hu : A.units < cLine) : RcAt A s (.str b u) (.ref l) false := fun prog w E Q h =>
  rc_eq_decline_or (k := false) (typeIs_str s b u) ⟨_, ho, rfl⟩ (by decide) PySem.F.sub_dict_str F.slot_str_eq PySem.F.slot_dict_eq_refl
    (fun _ hq => call_meets F.slot_str_eq (typeIs_str s b u) F.entry_str_eq (F.args_str_eq_2 _ _) (str_eq_declines_dict b u l (.type "dict") es ep dd sl) ⟨ho, hq⟩)
    (fun _ hq => call_meets PySem.F.slot_dict_eq_refl ⟨_, ho, rfl⟩ PySem.F.entry_dict_eq (PySem.F.args_dict_eq_2 _ _) (dict_eq_declines_str l b u) ⟨⟨_, ho, rfl⟩, hq⟩)
    (fun _ hq => wpAny_of_eq (rfl : isSame (.str b u) (.ref l) = pure false) hq) (.inr hu) h
theorem EqAt.str_dict {l : Addr} {es : Array DictEntry} {ep : Nat} {dd : Option Addr} {sl : Array (Option Value)} (b : Str) (u : Tok) (ho : s.heap.get? l = some { cls := .type "dict", dict := dd, data := .dict es ep, slots := sl }) (hu : A.units < cLine) : EqAt A s (.str b u) (.ref l) false := fun prog w E Q h => by
  unfold eqBool
  refine wpAny_holding ?_
  refine wpAny_ite_split (fun hab => absurd (eq_of_beq hab) nofun) (fun _ => ?_)
  exact wpAny_bind (RcAt.str_dict b u ho hu prog w E _ (wpAny_truthy_bool h))
end
end PySem.SeqAt
namespace L2
namespace D1
open PySem PySem.Spec PyProof.Rows D2 X5 X6 Dq
/-- a tuple that is no pair of texts -/
def OddT (H : Hp) (a : Addr) : Prop := (∃ ss : List Str, H a = some (.tup (ss.map V.str)) ∧ ss.length ≠ 2) ∨ (∃ x : Str, H a = some (.tup [.str x, .non])) ∨ ∃ (l d : Addr) (xs : List V), H a = some (.tup [.ref l, .ref d]) ∧ H l = some (.lst xs) ∧ H d = some (.dK [])
theorem OddT.same {H H' : Hp} {a : Addr} (h : OddT H a) (s : Same H H') : OddT H' a := by
  rcases h with ⟨ss, e, l⟩ | ⟨x, e⟩ | ⟨l, d, xs, e, e1, e2⟩
  · exact .inl ⟨ss, s _ _ e, l⟩
  · exact .inr (.inl ⟨x, s _ _ e⟩)
  · exact .inr (.inr ⟨l, d, xs, s _ _ e, s _ _ e1, s _ _ e2⟩)
theorem OddT.odd {H : Hp} {a : Addr} (h : OddT H a) : OddI H (.ref a) := by
  rcases h with ⟨ss, e, l⟩ | ⟨x, e⟩ | ⟨l, d, xs, e, e1, e2⟩
  · exact .len e (by rw [List.length_map]; exact l)
  · exact .snd e .non
  · exact .fst e (.lst e1)
def rInOdd (K : PySem.W.Frag) : R2 := fun x y H Q => ∃ (a L : Addr) (vs : List V) (ps : List Pr), x = .ref a ∧ OddT H a ∧ y = .ref L ∧ SqL K H L vs ∧ Ats H vs ps ∧ Q (.bl false) H
theorem eq_odd {X : Cx} {pins : List (Addr × Obj)} {σ : L2.St} {H : Hp} {s : Shared} {z a : Addr} {p : Pr} {A : Around} (hu : A.in1.units < cLine) (hA : A.units < cLine) (I : Inv X pins σ H s) (hz : PAt H z p) (ho : OddT H a) : PySem.SeqAt.EqAt A s (.ref z) (.ref a) false := by
  obtain ⟨its, rv, ht, _⟩ := I.tuple (SqT.of hz)
  cases rv with
  | cons r1 rv => cases rv with
    | cons r2 rv =>
      cases rv
      obtain ⟨t1, rfl⟩ := r1
      obtain ⟨t2, rfl⟩ := r2
      have hb0 : A.in1.units < cLine := hu
      rcases ho with ⟨ss, e, l⟩ | ⟨x, e⟩ | ⟨l, d, xs, e, e1, e2⟩
      · have hne : z ≠ a := fun q => by
          have hz' : H z = some (.tup [.str p.1, .str p.2]) := hz
          rw [q, e] at hz'
          have := congrArg List.length (HO.tup.inj (Option.some.inj hz'))
          rw [List.length_map] at this
          exact l this
        obtain ⟨its2, rv2, hb, _⟩ := I.tuple (SqT.of e)
        have ln : its2.length = ss.length := by rw [← rv2.length, List.length_map]
        have t := PySem.SeqAt.RcAt.tuples (A := A) (e := fun j => ([p.1, p.2][j]?).getD "" == (ss[j]?).getD "") ht hb hA fun j h1 h2 => by
          have h1' : j < 2 := by simpa using h1
          have h2' : j < its2.length := by simpa using h2
          have hs : ss[j]? = some ss[j] := List.getElem?_eq_getElem (by omega)
          obtain ⟨u2, q2, ⟨t3, rfl⟩⟩ := rv2.get (show (ss.map V.str)[j]? = some (.str ss[j]) by rw [List.getElem?_map, hs]; rfl)
          have q3 : its2.toArray[j] = .str ss[j] t3 := by
            have : its2[j]? = some its2[j] := List.getElem?_eq_getElem h2'
            rw [this] at q2; simpa using Option.some.inj q2
          rw [q3, hs, Option.getD_some]
          clear q3 q2
          rcases j with _ | _ | j
          · exact PySem.SeqAt.EqAt.str_str _ _ _ _
          · exact PySem.SeqAt.EqAt.str_str _ _ _ _
          · omega
        have e0 : ((List.range (min [Value.str p.1 t1, Value.str p.2 t2].toArray.size its2.toArray.size)).all (fun j => ([p.1, p.2][j]?).getD "" == (ss[j]?).getD "") && [Value.str p.1 t1, Value.str p.2 t2].toArray.size == its2.toArray.size) = false := by
          rw [Bool.and_eq_false_iff]
          right
          simp only [List.size_toArray, ln]
          exact beq_false_of_ne (fun q => l q.symm)
        rw [e0] at t
        exact PySem.SeqAt.EqAt.of_refs hne t
      · have hne : z ≠ a := fun q => by
          have hz' : H z = some (.tup [.str p.1, .str p.2]) := hz
          rw [q, e] at hz'
          cases hz'
        obtain ⟨its2, rv2, hb, _⟩ := I.tuple (SqT.of e)
        cases rv2 with
        | cons q1 rv2 => cases rv2 with
          | cons q2 rv2 =>
            cases rv2
            obtain ⟨t3, rfl⟩ := q1
            cases q2
            have t := PySem.SeqAt.RcAt.tuples (A := A) (e := fun j => if j = 0 then p.1 == x else false) ht hb hA fun j h1 h2 => by
              match j, h1 with
              | 0, _ => exact PySem.SeqAt.EqAt.str_str _ _ _ _
              | 1, _ => exact PySem.SeqAt.EqAt.str_none _ _
            have e0 : ∀ b : Bool, ((List.range (min 2 2)).all (fun j => if j = 0 then b else false) && (2 : Nat) == 2) = false := fun b => by cases b <;> decide
            exact PySem.SeqAt.EqAt.of_refs hne ((e0 (p.1 == x)) ▸ t)
      · have hne : z ≠ a := fun q => by
          have hz' : H z = some (.tup [.str p.1, .str p.2]) := hz
          rw [q, e] at hz'
          cases hz'
        obtain ⟨its2, rv2, hb, _⟩ := I.tuple (SqT.of e)
        cases rv2 with
        | cons q1 rv2 => cases rv2 with
          | cons q2 rv2 =>
            cases rv2
            cases q1
            cases q2
            obtain ⟨its3, _, hl3, _⟩ := I.list (SqL.of e1)
            obtain ⟨_, _, vb, _, ⟨⟨cls, dd, data, sl⟩, es, ep, hd, hx, hda, _⟩⟩ := (show ObjOk X.prog X.w H s.heap d (.dK []) from I.hok d _ e2)
            have hc : cls = .type "dict" := hx.1
            have hda : data = .dict es ep := hda
            subst hc hda
            have t := PySem.SeqAt.RcAt.tuples (A := A) (e := fun _ => false) ht hb hA fun j h1 h2 => by
              match j, h1 with
              | 0, _ => exact PySem.SeqAt.EqAt.str_list _ _ hl3.isList hb0
              | 1, _ => exact PySem.SeqAt.EqAt.str_dict _ _ hd hb0
            exact PySem.SeqAt.EqAt.of_refs hne t
theorem op_inOdd {X : Cx} (hu : X.A.units + 2 < cLine) : OpR X (compareOp .In) (rInOdd X.K) := by
  intro pins s σ H x y v u Q I rx ry h
  obtain ⟨a, L, vs, ps, rfl, ho, rfl, hl, hA, k⟩ := h
  obtain rfl : v = Value.ref a := rx
  obtain rfl : u = Value.ref L := ry
  obtain ⟨its, rv, hL, _⟩ := I.list hl
  have hz : ∀ y, y ∈ its.toArray → PySem.SeqAt.EqAt X.A.in1 s y (.ref a) ((fun _ => false) y) := fun y hy => by
    obtain ⟨i, hi, e⟩ := List.getElem_of_mem (by simpa using hy : y ∈ its)
    have lv := rv.length
    have hv : vs[i]? = some vs[i] := List.getElem?_eq_getElem (by omega)
    obtain ⟨u, q, ru⟩ := rv.get hv
    obtain ⟨p, hp, z, ez, hzz⟩ := paired_get hA hv
    rw [ez] at ru
    cases ru
    rw [List.getElem?_eq_getElem hi, e] at q
    rw [Option.some.inj q]
    exact eq_odd (by show X.A.units + 1 + 1 < cLine; omega) (by show X.A.units + 1 < cLine; omega) I hzz ho
  exact PySem.SeqAt.in_listAt _ hL.isList hz ⟨.bl false, H, I, by simp [RelV], k⟩
end D1
end L2
namespace L2
namespace D1
open PySem PySem.Spec PyProof.Rows D2 X5 X6 Dq
theorem ltP_ps (p q : Pr) : ltP p q = ltPS p q := by
  show (if p.1 = q.1 then decide (p.2.cps.toList < q.2.cps.toList) else decide (p.1.cps.toList < q.1.cps.toList)) = _
  unfold ltPS
  rw [ltCps_eq, ltCps_eq]
theorem leG_lt {a b : Pr} (h : leG Pr a b = true) (n : a ≠ b) : ltP a b = true := by
  cases c : ltP a b with
  | true => rfl
  | false =>
    unfold leG at h
    have h1 : ltP b a = false := Bool.not_eq_true' _ ▸ h
    rw [ltP_ps] at c h1
    exact absurd (lePS_anti (p := a) (q := b) h1 c) n
theorem pr_anti {a b : Pr} (h1 : leG Pr a b = true) (h2 : leG Pr b a = true) : a = b := by
  by_cases e : a = b
  · exact e
  · have h := leG_lt h1 e
    have g := leG_lt h2 (Ne.symm e)
    have := lt_trans h g
    rw [ltP_irrefl] at this; cases this
theorem lt_le {a b : Pr} (h : ltP a b = true) : leG Pr a b = true := by
  unfold leG
  rw [Bool.not_eq_true']
  cases c : ltP b a with
  | false => exact c
  | true =>
    have := lt_trans h c
    rw [ltP_irrefl] at this; cases this
def adjB (ps : List Pr) : Bool := (List.range (ps.length - 1)).any fun i => eqG (atP ps (i + 1)) (atP ps i)
theorem asc_sort (ps : List Pr) : ascB ps = (eqG ps (srtG Pr ps) && !adjB ps) := by
  rw [Bool.eq_iff_iff, Bool.and_eq_true, eqG_iff, Bool.not_eq_true']
  constructor
  · intro h
    have pw := ascB_iff.mp h
    refine ⟨?_, ?_⟩
    · exact (List.Perm.eq_of_pairwise (fun _ _ _ _ h g => pr_anti h g) (srtG_pw ps) (pw.imp fun e => lt_le e) (srtG_perm ps)).symm
    · refine List.any_eq_false.mpr fun i hi t => ?_
      have e := eqG_iff.mp t
      have l := List.all_eq_true.mp h i hi
      rw [e, ltP_irrefl] at l; cases l
  · rintro ⟨h, g⟩
    have pw := srtG_pw ps
    rw [← h] at pw
    refine List.all_eq_true.mpr fun i hi => ?_
    have li : i + 1 < ps.length := by have := List.mem_range.mp hi; omega
    have n := List.any_eq_false.mp g i hi
    refine leG_lt ?_ fun e => n (eqG_iff.mpr e.symm)
    have := List.pairwise_iff_getElem.mp pw i (i + 1) (by omega) li (by omega)
    unfold atP
    rw [List.getD_eq_getElem?_getD, List.getD_eq_getElem?_getD, List.getElem?_eq_getElem li, List.getElem?_eq_getElem (show i < ps.length by omega)]
    exact this
end D1
end L2
namespace L2
namespace D1
open PySem PySem.Spec PyProof.Rows D2 X5 X6 Dq
abbrev sIsTab : Stmt := top 59
abbrev Lot51 := List Pr
/-- plain, no pair of texts, of the kinds that are tried -/
def OddJ (H : Hp) (v : V) : Prop := NS H v ∨ (∃ x : Str, v = .str x) ∨ ∃ a, v = .ref a ∧ OddT H a
theorem OddJ.same {H H' : Hp} {v : V} (h : OddJ H v) (s : Same H H') : OddJ H' v := h.imp (fun h => h.same s) (fun h => h.imp id fun ⟨a, e, h⟩ => ⟨a, e, h.same s⟩)
theorem OddJ.odd {H : Hp} {v : V} (h : OddJ H v) : OddI H v := by
  rcases h with h | ⟨x, rfl⟩ | ⟨a, rfl, h⟩
  · exact .ns h
  · exact .str x
  · exact h.odd
def SafW (K : PySem.W.Frag) (H : Hp) (bk cl : Bk) (f : Pr) (v : V) (r : Bool) : Prop :=
  (∃ L us ps, v = .ref L ∧ H L = some (.lst us) ∧ Ats H us ps ∧ ps.length ≤ 10000 ∧ r = safeB bk cl f ps) ∨
  (∃ L us, v = .ref L ∧ H L = some (.lst us) ∧ us.length ≤ 10000 ∧ (∀ u ∈ us, OddJ H u ∨ ∃ z p, u = .ref z ∧ PAt H z p) ∧ (∃ u ∈ us, OddJ H u) ∧ r = false) ∨ NotL K H v ∧ r = false
theorem SafW.v {K : PySem.W.Frag} {H : Hp} {bk cl : Bk} {f : Pr} {v : V} {r : Bool} (h : SafW K H bk cl f v r) : SafV K H bk cl f v r := by
  rcases h with h | ⟨L, us, e, hL, l, ho, ⟨u, hu, h⟩, er⟩ | h
  · exact .inl h
  · exact .inr (.inl ⟨L, us, e, hL, l, fun u hu => (ho u hu).imp (fun h => h.odd) id, ⟨u, hu, h.odd⟩, er⟩)
  · exact .inr (.inr h)
def rInTab (K : PySem.W.Frag) : R2 := fun x y H Q => Dq.rIn Pr K x y H Q ∨ rInOdd K x y H Q
theorem op_inTab {X : Cx} (hu : X.A.units + 1 + PySem.W.Datum.depth Pr < cLine) (hu2 : X.A.units + 2 < cLine) : OpR X (compareOp .In) (rInTab X.K) := by
  intro pins s σ H x y v u Q I rx ry h
  rcases h with h | h
  · exact op_inG hu pins s σ H x y v u Q I rx ry h
  · exact op_inOdd hu2 pins s σ H x y v u Q I rx ry h
def spIsTab (K : PySem.W.Frag) : Sp := fun vs H Q _ => ∃ (W1 W2 : Addr) (bk cl : Bk) (st st' : Str) (v : V) (r : Bool), vs = [.ref W1, .ref W2, v] ∧ WorldAt H W1 bk st ∧ WorldAt H W2 cl st' ∧ DOk bk st ∧ DOk cl st' ∧ SafW K H (ordB bk) (ordB cl) (st, st') v r ∧ ∀ H', Same H H' → Q (.bl r) H'
/-- a tuple, and one of the pairs -/
def tItT (K : PySem.W.Frag) (bk cl : Bk) : TE := fun σ H Q => ∃ (v0 v1 v2 v5 v6 : Option V) (G : Addr) (v : V) (nx : Pr → List (Str × Pr)) (b : Bool), σ = [v0, v1, v2, some (.ref G), some v, v5, v6] ∧ QrAt H G nx (allP bk cl) ∧ (allP bk cl).length ≤ 10000 ∧ ((OddJ H v ∧ b = false) ∨ ∃ z p, v = .ref z ∧ PAt H z p ∧ b = memG p (allP bk cl)) ∧ ∀ H', Same H H' → Q (.bl b) H'
/-- alike neighbours -/
def scIt1 : Scope := { kind := ScopeKind.function, names := [(Str.ofString ".0", NameKind.local), (Str.ofString "_law_pair", NameKind.cell), (Str.ofString "all", NameKind.globalImplicit), (Str.ofString "_law_steps", NameKind.cell), (Str.ofString "_law_value", NameKind.cell)], isGenerator := false, isCoroutine := false }
def tCls : TE := fun σ H Q => ∃ (v0 v1 v5 v6 : Option V) (L G z : Addr) (us : List V) (ps ns : List Pr) (nx : Pr → List (Str × Pr)) (p : Pr), σ = [v0, v1, some (.ref L), some (.ref G), some (.ref z), v5, v6] ∧ H L = some (.lst us) ∧ Ats H us ps ∧ QrAt H G nx ns ∧ p ∈ ns ∧ PAt H z p ∧ ((nx p).map (·.1)).Nodup ∧ (nx p).length ≤ 60 ∧ ∀ H', Same H H' → Q (.bl ((nx p).all fun t => memG t.2 ps)) H'
theorem kat_ats {H : Hp} {nx : Pr → List (Str × Pr)} : ∀ {zs : List Addr} {kvs : List (List Key × V)} {ns : List Pr}, KAt H zs kvs → QRows H nx kvs ns → Ats H (zs.map V.ref) ns
  | _, _, _, .nil, .nil => .nil
  | _, _, _, .cons h t, .cons g r => .cons ⟨_, rfl, by
      have e := g.1
      rw [show H _ = _ from h, e]; rfl⟩ (kat_ats t r)
section
variable {P : Program} {w : World} {K : PySem.W.Frag} {mg : Str → Option Value} {base : Heap} {C : Addr}
abbrev CLFits (P : Program) (w : World) (K : PySem.W.Frag) (mg : Str → Option Value) (base : Heap) := Cal P w K mg base "_law_fits" 1 ["_law_elder", "_law_newer_here", "_law_pair"] spLFits
abbrev CLPlain (P : Program) (w : World) (K : PySem.W.Frag) (mg : Str → Option Value) (base : Heap) := Cal P w K mg base "_law_plain_steps" 1 ["_law_elder", "_law_newer_here"] spLPlain
abbrev itN : List Str := ["_law_elder", "_law_newer_here", "_law_value", "_law_steps", "_law_pair", "_law_at", "_law_word_here"]
theorem scIt : FnScope itN ["_law_elder", "_law_newer_here", "_law_value"] (defScope sIsTab) := ⟨rfl, rfl, rfl, by decide +kernel, rfl, by decide +kernel, by decide +kernel⟩
theorem ok_istab {f : Addr} {fd : FuncData} (F : Fun K "_law_is_table" "_law_is_table" sIsTab f fd) (T : Free4 mg) (CP : CLPlain P w K mg base) (CF : CLFits P w K mg base) : FnOk P w K mg base CX0 2 f fd ["_law_elder", "_law_newer_here", "_law_value"] (spIsTab K) := by
  refine F.ok scIt (fun vs H Q E h => ?_) (fun cdv A outer s H vs Q E0' hr h => ?_)
  · obtain ⟨W1, W2, bk, cl, st, st', v, r, rfl, _⟩ := h; rfl
  · obtain ⟨W1, W2, bk, cl, st, st', v, r, rfl, w1, w2, o1, o2, hv, k⟩ := h
    have hu := hu_of hr
    refine ⟨_, pss_cons (ps_set (i := 3) scIt.nd rfl (Or.inr rfl) (pe_cal CP (hr.mono (by decide)) rfl (pa_cons (pv 0) (pa_cons (pv 1) pa_nil))))
      (pss_cons (ps_if (PW.pt (pw_or (pt_not (pt_val (pe_callB call_isi (by rfl) T.isi (by decide +kernel) (pa_cons (pv 2) (pa_cons (pe_bltn (v := .ty "list") rfl T.list (by decide +kernel) rfl) pa_nil))))) (pw_or1 (pt_not (pt_val (pe_callB (cr_all rfl) (by rfl) T.all (by decide +kernel) (pa_cons (pe_lc (own := [("_law_pair", 4)]) (g := gName 4) (tt := tYes) (te := tItT K bk cl) rfl scIt.nd (pi_list (pv 2))
          (blkOk_by (N := itN) (sc := defScope sIsTab) (by decide +kernel)) (fun _ _ _ _ _ => pg_name (i := 4) scIt.nd rfl (Or.inl rfl)) (fun _ _ _ _ _ => pts_nil)
          (fun _ _ _ _ _ => pe_imp (t' := tItT K bk cl) (pe_and (pe_callB call_isi (by rfl) T.isi (by decide +kernel) (pa_cons (pv 4) (pa_cons (pe_bltn (v := .ty "tuple") rfl T.tuple (by decide +kernel) rfl) pa_nil))) (pe_one (pe_cmpR (op_inTab (Room.u9 hr (n := 1 + PySem.W.Datum.depth Pr) (by decide)) (Room.u9 hr (n := 2) (by decide))) (pv 4) (pe_callTy (call_listT rfl) (by rfl) T.list (by decide +kernel) (pa_cons (pv 3) pa_nil)) (by rfl)))) ?itm)) pa_nil))))))) (pss_one (ps_ret pe_bl)) pss_nil)
      (pss_cons (ps_if (PW.pt (pw_or (pt_cmpR (op_neG (α := Lot51) (Room.u9 hr (n := PySem.W.Datum.depth Lot51) (by decide))) (pv 2) (pe_callB (cr_sortG (α := Pr) (Room.u9 hr (n := 2 + PySem.W.Datum.depth Pr) (by decide))) (by rfl) T.sorted (by decide +kernel) (pa_cons (pv 2) pa_nil)) (by rfl)) (pw_or1 (pt_val (pe_callB (cr_any rfl) (by rfl) T.any (by decide +kernel) (pa_cons (pe_lc (own := [("_law_at", 5)]) (g := gName 5) (tt := tYes) (te := tOp (Dq.rEq Pr) (tOp (rIxL K) (tVar 2) (tVar 5)) (tOp (rIxL K) (tVar 2) (tOp rSub (tVar 5) (tC (.int 1))))) rfl scIt.nd (pi_range2 rfl T.range (pa_cons pe_int (pa_cons (pe_callB call_len_seq (by rfl) T.len PySem.boot_len (pa_cons (pv 2) pa_nil)) pa_nil)))
          (blkOk_by (N := itN) (sc := defScope sIsTab) (by decide +kernel)) (fun _ _ _ _ _ => pg_name (i := 5) scIt.nd rfl (Or.inl rfl)) (fun _ _ _ _ _ => pts_nil) (fun _ _ _ _ _ => pe_cmpR (Dq.op_eqG (α := Pr) (Room.u9 hr (n := PySem.W.Datum.depth Pr) (by decide))) (pe_ix ix_list (pv 2) (pv 5) (fun _ _ => rfl)) (pe_ix ix_list (pv 2) (pe_op op_sub (pv 5) pe_int) (fun _ _ => rfl)) (by rfl))) pa_nil)))))) (pss_one (ps_ret pe_bl)) pss_nil)
      (pss_cons (ps_if (PW.pt (pw_or (pt_cmpR (op_ninG (α := Pr) (Room.u9 hr (n := 1 + PySem.W.Datum.depth Pr) (by decide))) (pe_tup (pa_cons (pe_ix ix_list (pv 0) pe_int (fun _ _ => rfl)) (pa_cons (pe_ix ix_list (pv 1) pe_int (fun _ _ => rfl)) pa_nil))) (pv 2) (by rfl)) (pw_or1 (pt_not (pt_val (pe_callB (cr_all rfl) (by rfl) T.all (by decide +kernel) (pa_cons (pe_lc (own := [("_law_pair", 4)]) (g := gName 4) (tt := tYes) (te := tCall spLFits [] E0 (tCons (tVar 0) (tCons (tVar 1) (tCons (tVar 4) tNil)))) rfl scIt.nd (pi_list (pv 2))
          (blkOk_by (N := itN) (sc := defScope sIsTab) (by decide +kernel)) (fun _ _ _ _ _ => pg_name (i := 4) scIt.nd rfl (Or.inl rfl)) (fun _ _ _ _ _ => pts_nil) (fun _ _ _ _ _ => pe_cal CF (hr.mono (by decide)) rfl (pa_cons (pv 0) (pa_cons (pv 1) (pa_cons (pv 4) pa_nil))))) pa_nil))))))) (pss_one (ps_ret pe_bl)) pss_nil)
      (pss_one (ps_ret (pe_callB (cr_all rfl) (by rfl) T.all (by decide +kernel) (pa_cons (pe_lc (own := [("_law_pair", 4)]) (g := gName 4) (tt := tYes) (te := tCls) rfl scIt.nd (pi_list (pv 2))
          (blkOk_by (N := itN) (sc := defScope sIsTab) (by decide +kernel)) (fun _ _ _ _ _ => pg_name (i := 4) scIt.nd rfl (Or.inr rfl)) (fun _ _ _ _ _ => pts_nil)
          (fun _ _ _ _ _ => pe_imp (t' := tCls) (pe_callB (cr_all rfl) (by rfl) T.all (by decide +kernel) (pa_cons (pe_lock (pe_lc (own := [("_law_word_here", 6)]) (g := gName 6) (tt := tYes) (te := tOp (Dq.rIn Pr K) (tDGet (tDGet (tVar 3) (tVar 4)) (tVar 6)) (tVar 2)) rfl scIt.nd (pi_keys (pe_dget hu (pv 3) (pv 4) (fun _ _ => rfl)))
            (blkOk_by (N := itN) (sc := scIt1) (by decide +kernel)) (fun _ _ _ _ _ => pg_name (i := 6) scIt.nd rfl (Or.inl rfl)) (fun _ _ _ _ _ => pts_nil) (fun _ _ _ _ _ => pe_cmpR (op_inG (α := Pr) (Room.u9 hr (n := 1 + PySem.W.Datum.depth Pr) (by decide))) (pe_dget hu (pe_dget hu (pv 3) (pv 4) (fun _ _ => rfl)) (pv 6) (fun _ _ => rfl)) (pv 2) (by rfl)))) pa_nil)) ?cls)) pa_nil))))))), ?_⟩
    case itm =>
      rintro σ H Q ⟨v0, v1, v2, v5, v6, G, v, nx, b, rfl, ⟨kvs, hG, hQ⟩, l, hv, q⟩
      rcases hv with ⟨h | ⟨x, rfl⟩ | ⟨a, rfl, ho⟩, rfl⟩ | ⟨z, p, rfl, hz, rfl⟩
      · obtain ⟨t, ty, _, e⟩ := ns_ty h
        exact ⟨_, rfl, _, .ty "tuple", .type t, .type "tuple", false, rfl, .ty _, ty _, kit_ty e, _, rfl, iteF (q H (Same.refl _))⟩
      · exact ⟨_, rfl, _, .ty "tuple", .type "str", .type "tuple", false, rfl, .ty _, .base (.str x), kit_ty (by decide +kernel), _, rfl, iteF (q H (Same.refl _))⟩
      · have ty : ∃ xs, H a = some (.tup xs) := by
          rcases ho with ⟨ss, e, _⟩ | ⟨x, e⟩ | ⟨l, d, xs, e, _⟩ <;> exact ⟨_, e⟩
        obtain ⟨xs, ha⟩ := ty
        refine ⟨_, rfl, _, .ty "tuple", .type "tuple", .type "tuple", true, rfl, .ty _, .base (.tup ha), kit_ty (by decide +kernel), _, rfl, iteT ⟨_, rfl, _, rfl, G, kvs, rfl, .inl hG, fun zs p hz hp => ?_⟩⟩
        have g := Same.new (o := .lst (zs.map V.ref)) hp
        exact .inr ⟨a, p, _, _, rfl, ho.same g, rfl, SqL.of upd_same, (kat_ats hz hQ).same g, q _ g⟩
      · refine ⟨_, rfl, _, .ty "tuple", .type "tuple", .type "tuple", true, rfl, .ty _, .base (.tup hz), kit_ty (by decide +kernel), _, rfl, iteT ⟨_, rfl, _, rfl, G, kvs, rfl, .inl hG, fun zs p' hzs hp => ?_⟩⟩
        have g := Same.new (o := .lst (zs.map V.ref)) hp
        exact .inl ⟨p, _, p', _, ⟨z, rfl, g _ _ hz⟩, rfl, SqL.of upd_same, (kat_ats hzs hQ).same g, q _ g⟩
    case cls =>
      rintro σ H Q ⟨v0, v1, v5, v6, L, G, z, us, ps, ns, nx, p, rfl, hL, hA, ⟨kvs, hG, hQ⟩, pn, hz, nk, l60, q⟩
      obtain ⟨a, ev, ks, ha, hP⟩ := hQ.look pn
      have nLa : L ≠ a := fun e => by rw [e, ha] at hL; cases hL
      have nza : z ≠ a := fun e => by rw [PAt, e, ha] at hz; cases hz
      have nGa : G ≠ a := fun e => by rw [e, ha] at hG; cases hG
      have lk : ks.length = (nx p).length := paired_len hP
      refine ⟨a, _, ha, trivial, fun od => ?_⟩
      have hG1 : (L2.upd H a (.frz od (.dK ks))) G = some (.dT kvs) := by rw [upd_ne nGa]; exact hG
      have hz1 : PAt (L2.upd H a (.frz od (.dK ks))) z p := by rw [PAt, upd_ne nza]; exact hz
      have hL1 : (L2.upd H a (.frz od (.dK ks))) L = some (.lst us) := by rw [upd_ne nLa]; exact hL
      have fz : (L2.upd H a (.frz od (.dK ks))) a = some (.frz od (.dK ks)) := upd_same
      have hA1 : Ats (L2.upd H a (.frz od (.dK ks))) us ps := paired_imp (fun v p ⟨y, ey, hy⟩ => ⟨y, ey, by rw [upd_ne (fun q => by rw [q, ha] at hy; cases hy)]; exact hy⟩) hA
      have hP1 : PRows (L2.upd H a (.frz od (.dK ks))) ks (nx p) := paired_imp (fun kv t ⟨e, y, ey, hy⟩ => ⟨e, y, ey, by rw [PAt, upd_ne (fun q => by rw [PAt, q, ha] at hy; cases hy)]; exact hy⟩) hP
      refine ⟨_, rfl, _, rfl, G, _, rfl, by rw [← ev]; exact DGet.t (k := kP p) hG1 hz1, a, od, rfl, .inl ⟨ks, fz, fun M hM => ?_⟩⟩
      have nMa : M ≠ a := fun e => by rw [e, fz] at hM; cases hM
      refine lc_it (walk_keys (d := a) (o := od) (kvs := ks)) (fun j H' => Same (L2.upd H a (.frz od (.dK ks))) H' ∧ H' M = some (.lst ((((nx p).take j).map fun t => memG t.2 ps).map V.bl))) ⟨Same.new hM, upd_same⟩ (fun j H' _ z => z.1 _ _ fz) ?_ ?_
      · rintro j x H2 H3 hj ⟨sm, hM2⟩ ⟨rfl, k0, v0, hkv, rfl⟩
        obtain ⟨t, ht, ek, _⟩ := paired_get hP1 hkv
        have ek : k0 = .inr t.1 := ek
        subst ek
        obtain ⟨y, vz, hy⟩ := PRows.get hP1 nk ht
        refine ⟨rfl, ?_⟩
        dsimp only [tYes]
        rw [if_pos rfl]
        refine ⟨_, rfl, _, rfl, G, _, rfl, by rw [← ev]; exact DGet.t (k := kP p) (sm _ _ hG1) (sm _ _ hz1), _, rfl, a, _, rfl, .inl ⟨ks, .inr t.1, .inr ⟨od, sm _ _ fz⟩, rfl, vz.symm⟩, _, rfl, t.2, ps, L, us, ⟨y, rfl, sm _ _ hy⟩, rfl, SqL.of (sm _ _ hL1), hA1.same sm, ?_⟩
        refine ⟨_, hM2, by rw [List.length_map, List.length_map, List.length_take, sizeLine_eq]; omega, fun c o e => ?_, by rw [upd_same, take_succ_get ht, List.map_append, List.map_append]; rfl⟩
        rw [upd_ne (ne_of_none e hM)]; exact sm _ _ e
      · rintro H2 ⟨sm, hM2⟩
        rw [lk, List.take_length] at hM2
        have su := Same.unlock ha sm
        refine ⟨sm _ _ fz, M, _, rfl, SqL.of (by rw [upd_ne nMa]; exact hM2), ?_⟩
        rw [all_map]
        exact q _ su
    refine ⟨_, rfl, _, rfl, W1, W2, bk, cl, st, st', rfl, w1, w2, o1, o2, fun H1 G s1 nG hG => ?_⟩
    have bb := DOk.bb o1 o2
    have la := len_allP bb
    have mi : ∀ p, memG p (allP bk cl) = inPB (ordB bk) (ordB cl) p := fun p => by
      rw [Bool.eq_iff_iff, memG_iff, inPB_iff, allP_eq, mem_pairsT]
      unfold InP
      rw [ordB_names, ordB_names, (srt_perm _).mem_iff, (srt_perm _).mem_iff]
    rcases hv with ⟨L, us, ps, rfl, hL, hA, l, rfl⟩ | ⟨L, us, rfl, hL, l, hodd, ⟨u0, hu0, ho0⟩, rfl⟩ | ⟨⟨t, ty, e⟩, rfl⟩
    · have hL1 := s1 _ _ hL
      have hA1 := hA.same s1
      have lu := hA.len
      refine ⟨_, rfl, _, .ty "list", .type "list", .type "list", true, rfl, .ty _, .base (.lst hL1), kit_ty (by decide +kernel), _, rfl, ?_⟩
      refine iteF ⟨_, rfl, L, rfl, ⟨_, SqL.of hL1⟩, fun M hM => ?_⟩
      refine lc_list (K := K) (a := L) (xs := us) (fun i H' => Same H1 H' ∧ H' M = some (.lst (((ps.take i).map (inPB (ordB bk) (ordB cl))).map V.bl))) ⟨Same.new hM, upd_same⟩ (fun i H' _ z => SqL.of (z.1 _ _ hL1)) ?_ ?_
      · rintro i v H2 hv ⟨sm, hM2⟩
        obtain ⟨p, hp, z, rfl, hz⟩ := paired_get hA1 hv
        have li : i < us.length := (List.getElem?_eq_some_iff.mp hv).1
        refine ⟨rfl, ?_⟩
        dsimp only [tYes]
        rw [if_pos rfl]
        refine ⟨_, _, _, _, _, G, .ref z, _, _, rfl, hG.same sm, by omega, .inr ⟨z, p, rfl, sm _ _ hz, rfl⟩, fun H3 s3 => ?_⟩
        rw [mi]
        refine ⟨_, s3 _ _ hM2, by rw [List.length_map, List.length_map, List.length_take, sizeLine_eq]; omega, fun c o e => ?_, by rw [upd_same, take_succ_get hp, List.map_append, List.map_append]; rfl⟩
        rw [upd_ne (ne_of_none e hM)]; exact s3 _ _ (sm _ _ e)
      rintro H2 ⟨s2, hM2⟩
      rw [lu, List.take_length] at hM2
      refine ⟨M, _, rfl, SqL.of hM2, ?_⟩
      rw [all_map]
      have s02 := Same.trans s1 s2
      cases c1 : ps.all (inPB (ordB bk) (ordB cl)) with
      | false =>
        have e : safeB (ordB bk) (ordB cl) (st, st') ps = false := by unfold safeB; rw [c1]; simp
        rw [e] at k
        exact ⟨_, rfl, iteT (k H2 s02)⟩
      | true =>
      have inp : ∀ p ∈ ps, InP (ordB bk) (ordB cl) p := fun p hp => inPB_iff.mp (List.all_eq_true.mp c1 p hp)
      have hL2 := s2 _ _ hL1
      have hA2 := hA1.same s2
      have sb : ascB ps = false → safeB (ordB bk) (ordB cl) (st, st') ps = false := fun h => by unfold safeB; rw [h]; simp
      rw [asc_sort] at sb
      refine ⟨_, rfl, iteF ?_⟩
      refine ⟨_, rfl, _, rfl, L, us, ps, rfl, SqL.of hL2, hA2, fun p3 ws hw hp3 => ?_⟩
      have g3 := Same.new (o := .lst ws) hp3
      have e3 : (L2.upd H2 p3 (.lst ws)) p3 = some (.lst ws) := upd_same
      have hw3 := hw.same g3
      generalize L2.upd H2 p3 (.lst ws) = H3 at g3 e3 hw3
      have s03 := Same.trans s02 g3
      refine ⟨ps, srtG Pr ps, ⟨L, us, rfl, g3 _ _ hL2, hA2.same g3⟩, ⟨p3, ws, rfl, e3, hw3⟩, _, rfl, ?_⟩
      cases c2 : eqG ps (srtG Pr ps) with
      | false =>
        rw [sb (by rw [c2]; rfl)] at k
        exact iteT (k H3 s03)
      | true =>
      rw [c2, Bool.true_and, Bool.not_eq_false'] at sb
      refine iteF ?_
      have hL3 := g3 _ _ hL2
      have hA3 := hA2.same g3
      refine ⟨_, rfl, L, _, rfl, .inl (SqL.of hL3), 1, _, rfl, by omega, fun D hD => ?_⟩
      have hn : ((us.length : Int) - 1).toNat = ps.length - 1 := by omega
      rw [hn]
      refine lc_range (lo := 1) (n := ps.length - 1) (fun i H' => Same H3 H' ∧ H' D = some (.lst (((List.range i).map fun i => eqG (atP ps (i + 1)) (atP ps i)).map V.bl))) ⟨Same.new hD, upd_same⟩ ?_ ?_
      · rintro i H4 hi ⟨sm, hD'⟩
        have h1 := List.getElem?_eq_getElem (show i < ps.length by omega)
        have h2 := List.getElem?_eq_getElem (show i + 1 < ps.length by omega)
        obtain ⟨z1, e1, hz1⟩ := ats_get hA3 h1
        obtain ⟨z2, e2, hz2⟩ := ats_get hA3 h2
        have a1 : atP ps i = ps[i]'(by omega) := by unfold atP; rw [List.getD_eq_getElem?_getD, h1]; rfl
        have a2 : atP ps (i + 1) = ps[i + 1]'(by omega) := by unfold atP; rw [List.getD_eq_getElem?_getD, h2]; rfl
        refine ⟨rfl, ?_⟩
        dsimp only [tYes]
        rw [if_pos rfl]
        refine ⟨_, rfl, _, rfl, L, _, _, _, rfl, rfl, SqL.of (sm _ _ hL3), by rw [show (1 + (i : Int)) = ((i + 1 : Nat) : Int) by omega]; exact atI_nat (j := i + 1) e2, _, rfl, _, rfl, _, _, rfl, rfl, L, _, _, _, rfl, rfl, SqL.of (sm _ _ hL3), by rw [show (1 + (i : Int)) - 1 = (i : Int) by omega]; exact atI_nat (j := i) e1, _, _, ⟨z2, rfl, sm _ _ hz2⟩, ⟨z1, rfl, sm _ _ hz1⟩, ?_⟩
        refine ⟨_, hD', by rw [List.length_map, List.length_map, List.length_range, sizeLine_eq]; omega, fun c u e => ?_, ?_⟩
        · rw [upd_ne (ne_of_none e hD)]; exact sm _ _ e
        · rw [upd_same, List.range_succ, List.map_append, List.map_append, ← a1, ← a2]; rfl
      rintro H4 ⟨s4, hD'⟩
      refine ⟨D, _, rfl, SqL.of hD', _, rfl, ?_⟩
      have ea : (((List.range (ps.length - 1)).map fun i => eqG (atP ps (i + 1)) (atP ps i)).any id) = adjB ps := by rw [List.any_map]; rfl
      rw [ea]
      have s04 := Same.trans s03 s4
      cases c3 : adjB ps with
      | true =>
        rw [sb c3] at k
        exact iteT (k H4 s04)
      | false =>
      have c2' : ascB ps = true := by rw [asc_sort, c2, c3]; rfl
      have hL4 := s4 _ _ hL3
      have hA4 := hA3.same s4
      obtain ⟨bb1, hW1, _⟩ := id w1
      obtain ⟨bb2, hW2, _⟩ := id w2
      refine iteF ⟨_, rfl, W1, _, _, _, rfl, rfl, SqL.of (s04 _ _ hW1), atI_nat (j := 1) rfl, _, rfl, W2, _, _, _, rfl, rfl, SqL.of (s04 _ _ hW2), atI_nat (j := 1) rfl, by show 2 ≤ sizeLine; decide, fun T1 hT1 => ?_⟩
      have g5 := Same.new (o := .tup [.str st, .str st']) hT1
      have e5 : (L2.upd H4 T1 (.tup [.str st, .str st'])) T1 = some (.tup [.str st, .str st']) := upd_same
      generalize L2.upd H4 T1 (.tup [.str st, .str st']) = H5 at g5 e5
      have s05 := Same.trans s04 g5
      refine ⟨_, rfl, (st, st'), ps, L, us, ⟨T1, rfl, e5⟩, rfl, SqL.of (g5 _ _ hL4), hA4.same g5, _, rfl, ?_⟩
      cases c4 : memG (st, st') ps with
      | false =>
        have e : safeB (ordB bk) (ordB cl) (st, st') ps = false := by unfold safeB; rw [c4]; simp
        rw [e] at k
        exact iteT (k H5 s05)
      | true =>
      have hL5 := g5 _ _ hL4
      have hA5 := hA4.same g5
      have inp0 : ∀ p ∈ ps, InP bk cl p := fun p hp => by
        obtain ⟨a, b⟩ := inp p hp
        rw [ordB_names, (srt_perm _).mem_iff] at a b
        exact ⟨a, b⟩
      refine iteF ⟨_, rfl, L, rfl, ⟨_, SqL.of hL5⟩, fun M6 hM6 => ?_⟩
      refine lc_list (K := K) (a := L) (xs := us) (fun i H' => Same H5 H' ∧ H' M6 = some (.lst (((ps.take i).map (fitP bk cl)).map V.bl))) ⟨Same.new hM6, upd_same⟩ (fun i H' _ z => SqL.of (z.1 _ _ hL5)) ?_ ?_
      · rintro i v H6 hv ⟨sm, hM⟩
        obtain ⟨p, hp, z, rfl, hz⟩ := paired_get hA5 hv
        have li : i < us.length := (List.getElem?_eq_some_iff.mp hv).1
        refine ⟨rfl, ?_⟩
        dsimp only [tYes]
        rw [if_pos rfl]
        have s06 := Same.trans s05 sm
        refine ⟨_, rfl, _, rfl, _, rfl, W1, W2, z, bk, cl, st, st', p, rfl, w1.same s06, w2.same s06, o1, o2, sm _ _ hz, inp0 p (List.mem_of_getElem? hp), fun H7 s7 => ?_⟩
        refine ⟨_, s7 _ _ hM, by rw [List.length_map, List.length_map, List.length_take, sizeLine_eq]; omega, fun c o e => ?_, by rw [upd_same, take_succ_get hp, List.map_append, List.map_append]; rfl⟩
        rw [upd_ne (ne_of_none e hM6)]; exact s7 _ _ (sm _ _ e)
      rintro H6 ⟨s6, hM⟩
      rw [lu, List.take_length] at hM
      refine ⟨M6, _, rfl, SqL.of hM, ?_⟩
      rw [all_map]
      have s06 := Same.trans s05 s6
      have ef : ps.all (fitP bk cl) = ps.all (fitP (ordB bk) (ordB cl)) := by
        rw [Bool.eq_iff_iff, List.all_eq_true, List.all_eq_true]
        exact forall_congr' fun p => forall_congr' fun hp => by rw [fitP_ord o1 o2 (inp0 p hp)]
      rw [ef]
      cases c5 : ps.all (fitP (ordB bk) (ordB cl)) with
      | false =>
        have e : safeB (ordB bk) (ordB cl) (st, st') ps = false := by unfold safeB; rw [c5]; simp
        rw [e] at k
        exact ⟨_, rfl, iteT (k H6 s06)⟩
      | true =>
      have es : safeB (ordB bk) (ordB cl) (st, st') ps = ps.all fun p => (stepP (ordB bk) (ordB cl) p).all fun t => memG t.2 ps := by
        unfold safeB
        rw [c1, c2', c4, c5]; rfl
      rw [es] at k
      have bbo : BB (ordB bk) (ordB cl) := DOk.bb o1.ord o2.ord
      have hL6 := s6 _ _ hL5
      have hA6 := hA5.same s6
      have hG6 := hG.same (Same.trans s2 (Same.trans g3 (Same.trans s4 (Same.trans g5 s6))))
      refine ⟨_, rfl, iteF ⟨_, rfl, L, rfl, ⟨_, SqL.of hL6⟩, fun D7 hD7 => ?_⟩⟩
      refine lc_list (K := K) (a := L) (xs := us) (fun i H' => Same H6 H' ∧ H' D7 = some (.lst (((ps.take i).map fun p => (stepP (ordB bk) (ordB cl) p).all fun t => memG t.2 ps).map V.bl))) ⟨Same.new hD7, upd_same⟩ (fun i H' _ z => SqL.of (z.1 _ _ hL6)) ?_ ?_
      · rintro i v H7 hv ⟨sm, hM⟩
        obtain ⟨p, hp, z, rfl, hz⟩ := paired_get hA6 hv
        have li : i < us.length := (List.getElem?_eq_some_iff.mp hv).1
        have pm := List.mem_of_getElem? hp
        refine ⟨rfl, ?_⟩
        dsimp only [tYes]
        rw [if_pos rfl]
        have ip := inp p pm
        have nk : ((stepP (ordB bk) (ordB cl) p).map (·.1)).Nodup := by
          unfold stepP
          split
          · rw [List.map_map]
            exact (List.filter_sublist.map _).nodup (bbo.n1 _ (row_mem ip.1))
          · exact List.nodup_nil
        have l60 : (stepP (ordB bk) (ordB cl) p).length ≤ 60 := by
          unfold stepP
          split
          · rw [List.length_map]
            exact Nat.le_trans (List.length_filter_le _ _) (bbo.w1.len2 _ (row_mem ip.1))
          · exact Nat.zero_le _
        refine ⟨_, _, _, _, L, G, z, us, ps, allP bk cl, _, p, rfl, sm _ _ hL6, hA6.same sm, hG6.same sm, mem_allP (inp0 p pm), sm _ _ hz, nk, l60, fun H8 s8 => ?_⟩
        refine ⟨_, s8 _ _ hM, by rw [List.length_map, List.length_map, List.length_take, sizeLine_eq]; omega, fun c o e => ?_, by rw [upd_same, take_succ_get hp, List.map_append, List.map_append]; rfl⟩
        rw [upd_ne (ne_of_none e hD7)]; exact s8 _ _ (sm _ _ e)
      · rintro H7 ⟨sm, hM⟩
        rw [lu, List.take_length] at hM
        refine ⟨D7, _, rfl, SqL.of hM, ?_⟩
        rw [all_map]
        exact k H7 (Same.trans s06 sm)
    · have hL1 := s1 _ _ hL
      refine ⟨_, rfl, _, .ty "list", .type "list", .type "list", true, rfl, .ty _, .base (.lst hL1), kit_ty (by decide +kernel), _, rfl, ?_⟩
      refine iteF ⟨_, rfl, L, rfl, ⟨_, SqL.of hL1⟩, fun M hM => ?_⟩
      obtain ⟨j0, hj0⟩ := List.getElem?_of_mem hu0
      refine lc_list (K := K) (a := L) (xs := us) (fun i H' => Same H1 H' ∧ ∃ bs : List Bool, H' M = some (.lst (bs.map V.bl)) ∧ bs.length = i ∧ (j0 < i → false ∈ bs)) ⟨Same.new hM, [], upd_same, rfl, fun h => absurd h (Nat.not_lt_zero _)⟩ (fun i H' _ z => SqL.of (z.1 _ _ hL1)) ?_ ?_
      · rintro i v H2 hv ⟨sm, bs, hM2, lb, hf⟩
        have li : i < us.length := (List.getElem?_eq_some_iff.mp hv).1
        refine ⟨rfl, ?_⟩
        dsimp only [tYes]
        rw [if_pos rfl]
        have s2 := Same.trans s1 sm
        have fin : ∀ (b : Bool), (i = j0 → b = false) → ∀ H3, Same H2 H3 → ∃ xs, H3 M = some (.lst xs) ∧ xs.length < sizeLine ∧ (Same H1 (L2.upd H3 M (.lst (xs ++ [.bl b]))) ∧ ∃ bs : List Bool, (L2.upd H3 M (.lst (xs ++ [.bl b]))) M = some (.lst (bs.map V.bl)) ∧ bs.length = i + 1 ∧ (j0 < i + 1 → false ∈ bs)) := fun b hb H3 s3 => by
          refine ⟨_, s3 _ _ hM2, by rw [List.length_map, lb, sizeLine_eq]; omega, fun c o e => ?_, bs ++ [b], by rw [upd_same, List.map_append]; rfl, by rw [List.length_append, lb]; rfl, fun h => ?_⟩
          · rw [upd_ne (ne_of_none e hM)]; exact s3 _ _ (sm _ _ e)
          · by_cases c : i = j0
            · rw [hb c]; simp
            · exact List.mem_append_left _ (hf (by omega))
        rcases hodd v (List.mem_of_getElem? hv) with h | ⟨z, p, rfl, hz⟩
        · exact ⟨_, _, _, _, _, G, v, _, false, rfl, hG.same sm, by omega, .inl ⟨h.same s2, rfl⟩, fin false fun _ => rfl⟩
        · refine ⟨_, _, _, _, _, G, .ref z, _, _, rfl, hG.same sm, by omega, .inr ⟨z, p, rfl, s2 _ _ hz, rfl⟩, fin _ fun e => ?_⟩
          subst e
          rw [hv] at hj0
          rw [← Option.some.inj hj0] at ho0
          have hz : H z = some (.tup [.str p.1, .str p.2]) := hz
          rcases ho0 with h | ⟨x, e⟩ | ⟨a, e, h⟩
          · cases h with
            | lst e => rw [hz] at e; cases e
            | dK e => rw [hz] at e; cases e
          · cases e
          · cases e
            rcases h with ⟨ss, e, l2⟩ | ⟨x, e⟩ | ⟨l3, d, xs, e, _, _⟩
            · rw [hz] at e
              have := congrArg List.length (HO.tup.inj (Option.some.inj e))
              rw [List.length_map] at this
              exact absurd this.symm l2
            · rw [hz] at e; cases e
            · rw [hz] at e; cases e
      · rintro H2 ⟨sm, bs, hM2, lb, hf⟩
        have ff := hf (List.getElem?_eq_some_iff.mp hj0).1
        refine ⟨M, _, rfl, SqL.of hM2, ?_⟩
        have e : bs.all id = false := by
          rw [List.all_eq_false]; exact ⟨false, ff, by decide⟩
        rw [e]
        exact ⟨_, rfl, iteT (k H2 (Same.trans s1 sm))⟩
    · refine ⟨_, rfl, _, .ty "list", t, .type "list", false, rfl, .ty _, tyx_same ty s1, e, _, rfl, ?_⟩
      exact iteT (k H1 s1)
end
end D1
end L2
namespace L2
namespace D1
open PySem PySem.Spec PyProof.Rows D2 X5
/-- a desk is no dict, list, tuple, bool -/
structure DskC (K : PySem.W.Frag) (C : Addr) : Prop where
  ins : C8.InsC K C
  nd : PySem.W.kitOne K (.ref C) (.type "dict") = some false
  nl : PySem.W.kitOne K (.ref C) (.type "list") = some false
  nt : PySem.W.kitOne K (.ref C) (.type "tuple") = some false
  nb : PySem.W.kitOne K (.ref C) (.type "bool") = some false
theorem DskC.ty {K : PySem.W.Frag} {C : Addr} (c : DskC K C) {H : Hp} {q : Addr} {bk : Bk} {st : Str} (h : DeskAt C H q bk st) : TyX K H (.ref q) (.ref C) := by
  obtain ⟨dx, b, e, _⟩ := h
  exact .base (.ins e c.ins.cl c.ins.ha c.ins.hn c.ins.htk c.ins.hm)
def spSameDk (C : Addr) : Sp := fun vs H Q _ => ∃ (q : Addr) (bk : Bk) (st : Str), vs = [.ref q] ∧ DeskAt C H q bk st ∧ Q (.ref q) H
def spExactDk (C : Addr) : Sp := fun vs H Q _ => ∃ (q : Addr) (bk : Bk) (st : Str), vs = [.ref q, .ref q] ∧ DeskAt C H q bk st ∧ DOk bk st ∧ ∀ H', Same H H' → Q (.bl true) H'
section
variable {P : Program} {w : World} {K : PySem.W.Frag} {mg : Str → Option Value} {base : Heap} {C : Addr}
theorem ok_lsamedk {f : Addr} {fd : FuncData} (F : Fun K "_law_same" "_law_same" sLSame f fd) (T : Free4 mg) (gE : mg "_law_same" = some (.ref f)) (bE : Binds K fd ["_law_thing"] []) (c : DskC K C) : FnOk P w K mg base CX0 1 f fd ["_law_thing"] (spSameDk C) := by
    have CE : Cal P w K mg base "_law_same" 0 ["_law_thing"] spNone := Cal.of gE F.kp ⟨fun _ _ _ _ h => h.elim, fun _ _ _ _ _ _ _ _ _ _ _ _ _ h => h.elim⟩ bE
    refine F.ok scSm (fun vs H Q E h => ?_) (fun cdv A outer s H vs Q E hr h => ?_)
    · obtain ⟨q, bk, st, rfl, _⟩ := h; rfl
    · obtain ⟨q, bk, st, rfl, hq, k⟩ := h
      have hu := hu_of hr
      refine ⟨_, pss_cons (ps_if (pt_val (pe_callB call_isi (by rfl) T.isi (by decide +kernel) (pa_cons (pv 0) (pa_cons (pe_bltn (v := .ty "dict") rfl T.dict (by decide +kernel) rfl) pa_nil)))) (pss_one (ps_ret (pe_callTy (call_dictP rfl) (by rfl) T.dict (by decide +kernel) (pa_cons (pe_lock (pe_lc (own := [("_law_key", 1)]) (g := gName 1) (tt := tYes) (te := tTup (tCons (tVar 1) (tCons (tCall spNone [] E0 (tCons (tDGet (tVar 0) (tVar 1)) tNil)) tNil))) rfl scSm.nd (pi_keys (pv 0))
            (blkOk_by (N := smN) (sc := defScope sLSame) (by decide +kernel)) (fun _ _ _ _ _ => pg_name (i := 1) scSm.nd rfl (Or.inl rfl)) (fun _ _ _ _ _ => pts_nil) (fun _ _ _ _ _ => pe_tup (pa_cons (pv 1) (pa_cons (pe_cal CE (hr.mono (by omega)) rfl (pa_cons (pe_dget hu (pv 0) (pv 1) (fun _ _ => rfl)) pa_nil)) pa_nil))))) pa_nil)))) pss_nil)
        (pss_cons (ps_if (pt_val (pe_callB call_isi (by rfl) T.isi (by decide +kernel) (pa_cons (pv 0) (pa_cons (pe_bltn (v := .ty "list") rfl T.list (by decide +kernel) rfl) pa_nil)))) (pss_one (ps_ret (pe_lc (own := [("_law_item", 2)]) (g := gName 2) (tt := tYes) (te := tCall spNone [] E0 (tCons (tVar 2) tNil)) rfl scSm.nd (pi_list (pv 0))
            (blkOk_by (N := smN) (sc := defScope sLSame) (by decide +kernel)) (fun _ _ _ _ _ => pg_name (i := 2) scSm.nd rfl (Or.inl rfl)) (fun _ _ _ _ _ => pts_nil) (fun _ _ _ _ _ => pe_cal CE (hr.mono (by omega)) rfl (pa_cons (pv 2) pa_nil))))) pss_nil)
        (pss_one (ps_ret (pe_ifExp (pt_val (pe_callB call_isi (by rfl) T.isi (by decide +kernel) (pa_cons (pv 0) (pa_cons (pe_bltn (v := .ty "tuple") rfl T.tuple (by decide +kernel) rfl) pa_nil)))) (pe_callTy call_tuple_of (by rfl) T.tuple (by decide +kernel) (pa_cons (pe_lc (own := [("_law_item", 2)]) (g := gName 2) (tt := tYes) (te := tCall spNone [] E0 (tCons (tVar 2) tNil)) rfl scSm.nd (pi_tup (pv 0))
            (blkOk_by (N := smN) (sc := defScope sLSame) (by decide +kernel)) (fun _ _ _ _ _ => pg_name (i := 2) scSm.nd rfl (Or.inl rfl)) (fun _ _ _ _ _ => pts_nil) (fun _ _ _ _ _ => pe_cal CE (hr.mono (by omega)) rfl (pa_cons (pv 2) pa_nil))) pa_nil)) (pv 0))))), ?_⟩
      refine ⟨_, rfl, _, .ty "dict", .ref C, .type "dict", false, rfl, .ty _, c.ty hq, c.nd, _, rfl, iteF ?_⟩
      refine ⟨_, rfl, _, .ty "list", .ref C, .type "list", false, rfl, .ty _, c.ty hq, c.nl, _, rfl, iteF ?_⟩
      refine ⟨_, rfl, _, .ty "tuple", .ref C, .type "tuple", false, rfl, .ty _, c.ty hq, c.nt, _, rfl, iteF ?_⟩
      exact ⟨_, rfl, k⟩
theorem kitTwoC {K : PySem.W.Frag} {C : Addr} (c : DskC K C) : PySem.W.kitAny K (.ref C) [.type "list", .type "tuple"] = some false := by
  refine kitAny_cons c.nl (fun e => ?_) (fun e => by cases e)
  exact kitAny_cons c.nt (fun _ => kitAny_nil) (fun e => by cases e)
theorem ok_exactdk {f : Addr} {fd : FuncData} (F : Fun K "_law_exact" "_law_exact" sExact f fd) (T : Free3 mg) (EQ : EqD P w K mg base C) (c : DskC K C) : FnOk P w K mg base CX0 2 f fd ["_law_mine", "_law_theirs"] (spExactDk C) := by
    refine F.ok scEx (fun vs H Q E h => ?_) (fun cdv A outer s H vs Q E0' hr h => ?_)
    · obtain ⟨q, bk, st, rfl, _⟩ := h; rfl
    · obtain ⟨q, bk, st, rfl, hq, ok, k⟩ := h
      have hu := hu_of hr
      refine ⟨_, pss_cons (ps_if (pt_val (pe_callB call_isiT (by rfl) T.isi (by decide +kernel) (pa_cons (pv 0) (pa_cons (pe_tup (pa_cons (pe_bltn (v := .ty "list") rfl T.list (by decide +kernel) rfl) (pa_cons (pe_bltn (v := .ty "tuple") rfl T.tuple (by decide +kernel) rfl) pa_nil))) pa_nil)))) pss_never pss_nil)
        (pss_cons (ps_if (pt_val (pe_callB call_isi (by rfl) T.isi (by decide +kernel) (pa_cons (pv 0) (pa_cons (pe_bltn (v := .ty "dict") rfl T.dict (by decide +kernel) rfl) pa_nil)))) pss_never pss_nil)
        (pss_one (ps_ret (pe_and (pe_cmpR op_eq (pe_callB call_isi (by rfl) T.isi (by decide +kernel) (pa_cons (pv 0) (pa_cons (pe_bltn (v := .ty "bool") rfl T.bool (by decide +kernel) rfl) pa_nil))) (pe_callB call_isi (by rfl) T.isi (by decide +kernel) (pa_cons (pv 1) (pa_cons (pe_bltn (v := .ty "bool") rfl T.bool (by decide +kernel) rfl) pa_nil))) (nomark _)) (pe_one (pe_cmpR (eqD EQ (hr.mono (by decide))) (pv 0) (pv 1) (by rfl))))))), ?_⟩
      refine ⟨_, rfl, by show 2 ≤ sizeLine; decide, fun T1 hT1 => ?_⟩
      have g := Same.new (o := .tup [.ty "list", .ty "tuple"]) hT1
      have hq1 := hq.same g
      refine ⟨.ref q, T1, [.ty "list", .ty "tuple"], .ref C, [.type "list", .type "tuple"], false, rfl, upd_same, .cons (.ty _) (.cons (.ty _) .nil), c.ty hq1, kitTwoC c, _, rfl, iteF ?_⟩
      refine ⟨_, rfl, _, .ty "dict", .ref C, .type "dict", false, rfl, .ty _, c.ty hq1, c.nd, _, rfl, iteF ?_⟩
      refine ⟨_, rfl, _, .ty "bool", .ref C, .type "bool", false, rfl, .ty _, c.ty hq1, c.nb, _, rfl, _, .ty "bool", .ref C, .type "bool", false, rfl, .ty _, c.ty hq1, c.nb, rfl, _, rfl, ?_⟩
      rw [decide_eq_true rfl]
      refine iteT ⟨_, rfl, _, rfl, ?_⟩
      exact rEqB_of (r := true) ⟨bk, bk, st, st, hq1, hq1, rfl, ok, by simp⟩ (k _ g)
end
end D1
end L2
namespace L2
namespace D1
open PySem PySem.Spec PyProof.Rows D2 X5 X6
/-- pairs with nought -/
def ZT (ps : List Pr) : List (List Key × V) := ps.map fun p => (kP p, .int 0)
theorem ZT_val : ∀ {ps : List Pr}, ps.Nodup → ∀ {p : Pr}, p ∈ ps → valV (ZT ps) (kP p) = some (.int 0)
  | q :: r, nd, p, h => by
    show valV ((kP q, V.int 0) :: ZT r) (kP p) = _
    by_cases e : q = p
    · subst e; exact valV_pos (p := (kP q, V.int 0)) rfl
    · rw [valV_neg (fun z => e (kP_inj z))]
      exact ZT_val (List.nodup_cons.mp nd).2 (by
        rcases List.mem_cons.mp h with z | z
        · exact absurd z.symm e
        · exact z)
theorem ZT_nd {ps : List Pr} (nd : ps.Nodup) : ((ZT ps).map (·.1)).Nodup := by
  unfold ZT
  rw [List.map_map]
  exact List.Pairwise.map _ (fun a b e q => e (kP_inj q)) nd
def spSameDT : Sp := fun vs H Q _ => ∃ (d : Addr) (ps : List Pr), vs = [.ref d] ∧ H d = some (.dT (ZT ps)) ∧ ps.Nodup ∧ ps.length ≤ 10000 ∧ ∀ H' e, Same H H' → H e = none → H' e = some (.dT (ZT ps)) → Q (.ref e) H'
section
variable {P : Program} {w : World} {K : PySem.W.Frag} {mg : Str → Option Value} {base : Heap} {C : Addr}
theorem ok_lsamedt {f : Addr} {fd : FuncData} (F : Fun K "_law_same" "_law_same" sLSame f fd) (T : Free4 mg) (CE : Cal P w K mg base "_law_same" 1 ["_law_thing"] (spSame 0)) : FnOk P w K mg base CX0 2 f fd ["_law_thing"] spSameDT := by
    refine F.ok scSm (fun vs H Q E h => ?_) (fun cdv A outer s H vs Q E hr h => ?_)
    · obtain ⟨d, ps, rfl, _⟩ := h; rfl
    · obtain ⟨d, ps, rfl, hd, nd, l, k⟩ := h
      have hu := hu_of hr
      refine ⟨_, pss_cons (ps_if (pt_val (pe_callB call_isi (by rfl) T.isi (by decide +kernel) (pa_cons (pv 0) (pa_cons (pe_bltn (v := .ty "dict") rfl T.dict (by decide +kernel) rfl) pa_nil)))) (pss_one (ps_ret (pe_callTy (X6.call_dictT rfl (by have := hr.un; show (A.deeper _).units + 2 < cLine; omega)) (by rfl) T.dict (by decide +kernel) (pa_cons (pe_lock (pe_lc (own := [("_law_key", 1)]) (g := gName 1) (tt := tYes) (te := tTup (tCons (tVar 1) (tCons (tCall (spSame 0) [] E0 (tCons (tDGet (tVar 0) (tVar 1)) tNil)) tNil))) rfl scSm.nd (pi_keys (pv 0))
            (blkOk_by (N := smN) (sc := defScope sLSame) (by decide +kernel)) (fun _ _ _ _ _ => pg_name (i := 1) scSm.nd rfl (Or.inl rfl)) (fun _ _ _ _ _ => pts_nil) (fun _ _ _ _ _ => pe_tup (pa_cons (pv 1) (pa_cons (pe_cal CE (hr.mono (by omega)) rfl (pa_cons (pe_dget hu (pv 0) (pv 1) (fun _ _ => rfl)) pa_nil)) pa_nil))))) pa_nil)))) pss_nil)
        (pss_cons (ps_if (pt_val (pe_callB call_isi (by rfl) T.isi (by decide +kernel) (pa_cons (pv 0) (pa_cons (pe_bltn (v := .ty "list") rfl T.list (by decide +kernel) rfl) pa_nil)))) (pss_one (ps_ret (pe_lc (own := [("_law_item", 2)]) (g := gName 2) (tt := tYes) (te := tCall (spSame 0) [] E0 (tCons (tVar 2) tNil)) rfl scSm.nd (pi_list (pv 0))
            (blkOk_by (N := smN) (sc := defScope sLSame) (by decide +kernel)) (fun _ _ _ _ _ => pg_name (i := 2) scSm.nd rfl (Or.inl rfl)) (fun _ _ _ _ _ => pts_nil) (fun _ _ _ _ _ => pe_cal CE (hr.mono (by omega)) rfl (pa_cons (pv 2) pa_nil))))) pss_nil)
        (pss_one (ps_ret (pe_ifExp (pt_val (pe_callB call_isi (by rfl) T.isi (by decide +kernel) (pa_cons (pv 0) (pa_cons (pe_bltn (v := .ty "tuple") rfl T.tuple (by decide +kernel) rfl) pa_nil)))) (pe_callTy call_tuple_of (by rfl) T.tuple (by decide +kernel) (pa_cons (pe_lc (own := [("_law_item", 2)]) (g := gName 2) (tt := tYes) (te := tCall (spSame 0) [] E0 (tCons (tVar 2) tNil)) rfl scSm.nd (pi_tup (pv 0))
            (blkOk_by (N := smN) (sc := defScope sLSame) (by decide +kernel)) (fun _ _ _ _ _ => pg_name (i := 2) scSm.nd rfl (Or.inl rfl)) (fun _ _ _ _ _ => pts_nil) (fun _ _ _ _ _ => pe_cal CE (hr.mono (by omega)) rfl (pa_cons (pv 2) pa_nil))) pa_nil)) (pv 0))))), ?_⟩
      refine ⟨_, rfl, _, .ty "dict", .type "dict", .type "dict", true, rfl, .ty _, .base (.dT hd), kit_ty (by decide +kernel), _, rfl, iteT ?_⟩
      refine ⟨d, _, hd, trivial, fun od => ?_⟩
      have fz0 : (L2.upd H d (.frz od (.dT (ZT ps)))) d = some (.frz od (.dT (ZT ps))) := upd_same
      refine ⟨_, rfl, d, od, rfl, .inr ⟨ZT ps, fz0, fun M hM => ?_⟩⟩
      have nM : M ≠ d := fun e => by rw [e, fz0] at hM; cases hM
      have lz : (ZT ps).length = ps.length := by rw [ZT, List.length_map]
      refine lc_it (walk_keysT (d := d) (o := od) (kvs := ZT ps)) (fun j H' => Same (L2.upd H d (.frz od (.dT (ZT ps)))) H' ∧ ∃ (ts : List Addr) (es : List (Addr × List Key × V)), H' M = some (.lst (ts.map V.ref)) ∧ PrT (cut [M] H') ts es ∧ es.map (·.2) = ZT (ps.take j)) ⟨Same.new hM, [], [], upd_same, .nil, rfl⟩ (fun j H' _ z => z.1 _ _ fz0) ?_ ?_
      · rintro j x H2 H3 hj ⟨sm, ts, es, hM2, hT, he⟩ ⟨rfl, k0, v0, q, hkv, rfl, hq⟩
        rw [ZT, List.getElem?_map] at hkv
        obtain ⟨p, hp, e⟩ := Option.map_eq_some_iff.mp hkv
        cases e
        have lts : ts.length ≤ 10000 := by
          have h1 : ts.length = es.length := paired_len hT
          have h2 := congrArg List.length he
          rw [ZT, List.length_map, List.length_map, List.length_take] at h2
          omega
        refine ⟨rfl, ?_⟩
        dsimp only [tYes]
        rw [if_pos rfl]
        refine ⟨_, rfl, _, rfl, _, rfl, d, _, rfl, .inr ⟨ZT ps, kP p, q, .inr ⟨od, sm _ _ fz0⟩, rfl, hq, (ZT_val nd (List.mem_of_getElem? hp)).symm⟩, .int 0, [], rfl, (fun x hx => by cases hx), Leaf.int 0, fun H4 w s4 e4 => ⟨by show 2 ≤ sizeLine; decide, fun T1 hT1 => ?_⟩⟩
        obtain ⟨_, rfl⟩ := e4
        have g := Same.new (o := .tup [.ref q, .int 0]) hT1
        have hM4 := s4 _ _ hM2
        have nT : T1 ≠ M := fun e => by rw [e, hM4] at hT1; cases hT1
        have nq : q ≠ M := fun e => by rw [e, hM2] at hq; cases hq
        refine ⟨_, g _ _ hM4, by rw [List.length_map, sizeLine_eq]; omega, fun c o e => ?_, ts ++ [T1], es ++ [(q, kP p, .int 0)], by rw [upd_same, List.map_append]; rfl, ?_, ?_⟩
        · rw [upd_ne (ne_of_none e hM)]; exact g _ _ (s4 _ _ (sm _ _ e))
        · rw [cut_upd (by simp)]
          exact paired_snoc (paired_imp (fun _ _ ⟨a, b⟩ => ⟨cut_same (Same.trans s4 g) _ _ a, cut_same (Same.trans s4 g) _ _ b⟩) hT) ⟨by rw [cut_out (by simpa using nT)]; exact upd_same, by rw [cut_out (by simpa using nq)]; exact g _ _ (s4 _ _ hq)⟩
        · rw [List.map_append, he, take_succ_get hp, ZT, ZT, List.map_append]; rfl
      · rintro H2 ⟨sm, ts, es, hM2, hT, he⟩
        rw [lz, List.take_length] at he
        have fz := sm _ _ fz0
        have su : Same H (L2.upd H2 d (.dT (ZT ps))) := Same.unlock hd sm
        have st : ∀ {c o}, (cut [M] H2) c = some (.tup o) → (L2.upd H2 d (.dT (ZT ps))) c = some (.tup o) := fun {c o} e => by
          have e := cut_le _ _ e
          rw [upd_ne (fun q => by rw [q, fz] at e; cases e)]; exact e
        refine ⟨fz, M, ts, es, rfl, SqL.of (by rw [upd_ne nM]; exact hM2), paired_imp (fun _ _ ⟨a, b⟩ => ⟨st a, st b⟩) hT, ?_, fun B hB => ?_⟩
        · have : es.map (·.2.1) = (ZT ps).map (·.1) := by rw [← he, List.map_map]; rfl
          rw [this]; exact ZT_nd nd
        · rw [he]
          exact k _ B (Same.trans su (Same.new hB)) (su.free hB) upd_same
end
end D1
end L2
namespace L2
namespace D1
open PySem PySem.Spec PyProof.Rows D2 X5 X6
theorem kat_eq {H : Hp} : ∀ {ps : List Pr} {zs ys : List Addr}, KAt H zs (ZT ps) → KAt H ys (ZT ps) → Paired (EqX 1 H) (zs.map V.ref) (ys.map V.ref)
  | [], _, _, .nil, .nil => .nil
  | _ :: _, _, _, .cons h t, .cons g r => .cons (.inr (.inr (.inl ⟨_, _, _, _, rfl, rfl, h, g, by show 2 ≤ 10000; decide, .cons (eqx_str _) (.cons (eqx_str _) .nil)⟩))) (kat_eq t r)
def spExactDT : Sp := fun vs H Q _ => ∃ (d e : Addr) (ps : List Pr), vs = [.ref d, .ref e] ∧ d ≠ e ∧ H d = some (.dT (ZT ps)) ∧ H e = some (.dT (ZT ps)) ∧ ps.Nodup ∧ ps.length ≤ 10000 ∧ ∀ H', Same H H' → Q (.bl true) H'
section
variable {P : Program} {w : World} {K : PySem.W.Frag} {mg : Str → Option Value} {base : Heap} {C : Addr}
theorem ok_exactdt {f : Addr} {fd : FuncData} (F : Fun K "_law_exact" "_law_exact" sExact f fd) (T : Free3 mg) (CE : Cal P w K mg base "_law_exact" 3 ["_law_mine", "_law_theirs"] (spExact 2)) : FnOk P w K mg base CX0 4 f fd ["_law_mine", "_law_theirs"] spExactDT := by
    refine F.ok scEx (fun vs H Q E h => ?_) (fun cdv A outer s H vs Q E0' hr h => ?_)
    · obtain ⟨d, e, ps, rfl, _⟩ := h; rfl
    · obtain ⟨d, e, ps, rfl, nde, hd, he, nd, l, k⟩ := h
      have hu := hu_of hr
      refine ⟨_, pss_cons (ps_if (pt_val (pe_callB call_isiT (by rfl) T.isi (by decide +kernel) (pa_cons (pv 0) (pa_cons (pe_tup (pa_cons (pe_bltn (v := .ty "list") rfl T.list (by decide +kernel) rfl) (pa_cons (pe_bltn (v := .ty "tuple") rfl T.tuple (by decide +kernel) rfl) pa_nil))) pa_nil)))) pss_never pss_nil)
         (pss_cons (ps_if (pt_val (pe_callB call_isi (by rfl) T.isi (by decide +kernel) (pa_cons (pv 0) (pa_cons (pe_bltn (v := .ty "dict") rfl T.dict (by decide +kernel) rfl) pa_nil)))) (pss_cons (ps_set (i := 2) scEx.nd rfl (Or.inl rfl) (pe_and (pe_callB call_isi (by rfl) T.isi (by decide +kernel) (pa_cons (pv 1) (pa_cons (pe_bltn (v := .ty "dict") rfl T.dict (by decide +kernel) rfl) pa_nil))) (pe_one (pe_cal CE (hr.mono (by omega)) rfl (pa_cons (pe_callTy (call_listT rfl) (by rfl) T.list (by decide +kernel) (pa_cons (pv 0) pa_nil)) (pa_cons (pe_callTy (call_listT rfl) (by rfl) T.list (by decide +kernel) (pa_cons (pv 1) pa_nil)) pa_nil))))))
           (pss_one (ps_ret (pe_and (pv 2) (pe_one (pe_callB (cr_all rfl) (by rfl) T.all (by decide +kernel) (pa_cons (pe_lock (pe_lc (own := [("_law_key", 5)]) (g := gName 5) (tt := tYes) (te := tCall (spExact 2) [] E0 (tCons (tDGet (tVar 0) (tVar 5)) (tCons (tDGet (tVar 1) (tVar 5)) tNil))) rfl scEx.nd (pi_keys (pv 0))
             (blkOk_by (N := ["_law_mine", "_law_theirs", "_law_alike", "_law_a", "_law_b", "_law_key"]) (sc := defScope sExact) (by decide +kernel)) (fun _ _ _ _ _ => pg_name (i := 5) scEx.nd rfl (Or.inl rfl)) (fun _ _ _ _ _ => pts_nil)
             (fun _ _ _ _ _ => pe_cal CE (hr.mono (by omega)) rfl (pa_cons (pe_dget hu (pv 0) (pv 5) (fun _ _ => rfl)) (pa_cons (pe_dget hu (pv 1) (pv 5) (fun _ _ => rfl)) pa_nil))))) pa_nil))))))) pss_nil)
         pss_never), ?_⟩
      refine ⟨_, rfl, by show 2 ≤ sizeLine; decide, fun T1 hT1 => ?_⟩
      have s1 := Same.new (o := .tup [.ty "list", .ty "tuple"]) hT1
      have ha1 := s1 _ _ hd
      have hb1 := s1 _ _ he
      refine ⟨.ref d, T1, [.ty "list", .ty "tuple"], .type "dict", [.type "list", .type "tuple"], false, rfl, upd_same, .cons (.ty _) (.cons (.ty _) .nil), .base (.dT ha1), kitTwo (b1 := false) (b2 := false) (by decide +kernel) (by decide +kernel), _, rfl, iteF ?_⟩
      generalize L2.upd H T1 (.tup [.ty "list", .ty "tuple"]) = H1 at ha1 hb1 s1
      refine ⟨_, rfl, _, .ty "dict", .type "dict", .type "dict", true, rfl, .ty _, .base (.dT ha1), kit_ty (by decide +kernel), _, rfl, iteT ?_⟩
      refine ⟨_, rfl, _, .ty "dict", .type "dict", .type "dict", true, rfl, .ty _, .base (.dT hb1), kit_ty (by decide +kernel), _, rfl, iteT ?_⟩
      refine ⟨_, rfl, d, _, rfl, .inl ha1, fun zs M1 hz1 hM1 => ⟨_, rfl, e, _, rfl, .inl (Same.new hM1 _ _ hb1), fun ys M2 hz2 hM2 => ?_⟩⟩
      have nM : M1 ≠ M2 := fun q => by rw [← q, upd_same] at hM2; cases hM2
      have lzs : zs.length = ps.length := by rw [paired_len hz1, ZT, List.length_map]
      refine ⟨_, _, rfl, ?_, fun H2 s2 => ?_⟩
      · refine .inr (.inl ⟨M1, M2, zs.map V.ref, ys.map V.ref, rfl, rfl, by rw [upd_ne nM, upd_same], by rw [upd_same], by rw [List.length_map]; omega, ?_⟩)
        refine kat_eq (ps := ps) (paired_imp (fun _ _ e => Same.new hM2 _ _ (Same.new hM1 _ _ e)) hz1) (paired_imp (fun _ _ e => Same.new hM2 _ _ e) hz2)
      have s12 : Same H1 H2 := fun c u e => s2 _ _ (Same.new hM2 _ _ (Same.new hM1 _ _ e))
      have ha2 := s12 _ _ ha1
      have hb2 := s12 _ _ hb1
      refine ⟨_, rfl, _, rfl, iteT ⟨d, _, ha2, trivial, fun od => ?_⟩⟩
      have fz0 : (L2.upd H2 d (.frz od (.dT (ZT ps)))) d = some (.frz od (.dT (ZT ps))) := upd_same
      have hb3 : (L2.upd H2 d (.frz od (.dT (ZT ps)))) e = some (.dT (ZT ps)) := by rw [upd_ne (Ne.symm nde)]; exact hb2
      refine ⟨_, rfl, d, od, rfl, .inr ⟨ZT ps, fz0, fun D hD => ?_⟩⟩
      have nD : D ≠ d := fun q => by rw [q, fz0] at hD; cases hD
      have lz : (ZT ps).length = ps.length := by rw [ZT, List.length_map]
      refine lc_it (walk_keysT (d := d) (o := od) (kvs := ZT ps)) (fun j H' => Same (L2.upd H2 d (.frz od (.dT (ZT ps)))) H' ∧ H' D = some (.lst ((List.replicate j true).map V.bl))) ⟨Same.new hD, upd_same⟩ (fun j H' _ z => z.1 _ _ fz0) ?_ ?_
      · rintro j x H3 H4 hj ⟨sm, hD3⟩ ⟨rfl, k0, v0, q, hkv, rfl, hq⟩
        rw [ZT, List.getElem?_map] at hkv
        obtain ⟨p, hp, e0⟩ := Option.map_eq_some_iff.mp hkv
        cases e0
        have vz := (ZT_val nd (List.mem_of_getElem? hp)).symm
        refine ⟨rfl, ?_⟩
        dsimp only [tYes]
        rw [if_pos rfl]
        refine ⟨_, rfl, _, rfl, d, _, rfl, .inr ⟨ZT ps, kP p, q, .inr ⟨od, sm _ _ fz0⟩, rfl, hq, vz⟩, _, rfl, _, rfl, e, _, rfl, .inr ⟨ZT ps, kP p, q, .inl (sm _ _ hb3), rfl, hq, vz⟩, _, _, rfl, EqX.up (m := 0) ⟨.int 0, rfl⟩ (Nat.zero_le _), fun H5 s5 => ?_⟩
        refine ⟨_, s5 _ _ hD3, by rw [List.length_map, List.length_replicate, sizeLine_eq]; omega, fun c u e => ?_, by rw [upd_same, repl_snoc]⟩
        rw [upd_ne (ne_of_none e hD)]; exact s5 _ _ (sm _ _ e)
      · rintro H3 ⟨sm, hD3⟩
        have su := Same.unlock ha2 sm
        refine ⟨sm _ _ fz0, D, _, rfl, SqL.of (by rw [upd_ne nD]; exact hD3), ?_⟩
        rw [all_true]
        exact k _ (Same.trans s1 (Same.trans s12 su))
end
end D1
end L2
namespace L2
namespace D1
open PySem PySem.Spec PyProof.Rows D2 X5 X6 Dq
abbrev sJudged : Stmt := top 62
/-- a value of the kinds that are tried -/
def ValA (C : Addr) (H : Hp) (v : V) : Prop := Tr 4 H v ∨ (∃ (q : Addr) (bk : Bk) (st : Str), v = .ref q ∧ DeskAt C H q bk st ∧ DOk bk st) ∨ ∃ (d : Addr) (ps : List Pr), v = .ref d ∧ H d = some (.dT (ZT ps)) ∧ ps.Nodup ∧ ps.length ≤ 10000
/-- such a value and its copy -/
def CpA (C : Addr) (H : Hp) (v w : V) : Prop := EqX 4 H v w ∨ (∃ (q : Addr) (bk : Bk) (st : Str), v = .ref q ∧ w = .ref q ∧ DeskAt C H q bk st ∧ DOk bk st) ∨ ∃ (d e : Addr) (ps : List Pr), v = .ref d ∧ w = .ref e ∧ d ≠ e ∧ H d = some (.dT (ZT ps)) ∧ H e = some (.dT (ZT ps)) ∧ ps.Nodup ∧ ps.length ≤ 10000
theorem ValA.same {C : Addr} {H H' : Hp} {v : V} (h : ValA C H v) (s : Same H H') : ValA C H' v := by
  rcases h with h | ⟨q, bk, st, e, h, o⟩ | ⟨d, ps, e, h, nd, l⟩
  · exact .inl (Tr.same 4 s h)
  · exact .inr (.inl ⟨q, bk, st, e, h.same s, o⟩)
  · exact .inr (.inr ⟨d, ps, e, s _ _ h, nd, l⟩)
theorem CpA.same {C : Addr} {H H' : Hp} {v w : V} (h : CpA C H v w) (s : Same H H') : CpA C H' v w := by
  rcases h with h | ⟨q, bk, st, e, e2, h, o⟩ | ⟨d, e, ps, e1, e2, n, h, g, nd, l⟩
  · exact .inl (EqX.same 4 s h)
  · exact .inr (.inl ⟨q, bk, st, e, e2, h.same s, o⟩)
  · exact .inr (.inr ⟨d, e, ps, e1, e2, n, s _ _ h, s _ _ g, nd, l⟩)
theorem SafW.same {K : PySem.W.Frag} {H H' : Hp} {bk cl : Bk} {f : Pr} {v : V} {r : Bool} (h : SafW K H bk cl f v r) (s : Same H H') : SafW K H' bk cl f v r := by
  rcases h with ⟨L, us, ps, e, hL, hA, l, er⟩ | ⟨L, us, e, hL, l, ho, ⟨u, hu, h⟩, er⟩ | ⟨⟨t, ty, e⟩, er⟩
  · exact .inl ⟨L, us, ps, e, s _ _ hL, hA.same s, l, er⟩
  · exact .inr (.inl ⟨L, us, e, s _ _ hL, l, fun u hu => (ho u hu).imp (fun h => h.same s) fun ⟨z, p, e, hz⟩ => ⟨z, p, e, s _ _ hz⟩, ⟨u, hu, h.same s⟩, er⟩)
  · exact .inr (.inr ⟨⟨t, tyx_same ty s, e⟩, er⟩)
def spSameA (C : Addr) : Sp := fun vs H Q _ => ∃ v, vs = [v] ∧ ValA C H v ∧ ∀ H' w, Same H H' → CpA C H' v w → Q w H'
def spExactA (C : Addr) : Sp := fun vs H Q _ => ∃ v w, vs = [v, w] ∧ CpA C H v w ∧ ∀ H', Same H H' → Q (.bl true) H'
def spJudged (K : PySem.W.Frag) (C : Addr) : Sp := fun vs H Q _ => ∃ (W1 W2 q1 q2 : Addr) (bk cl : Bk) (st st' : Str) (v : V) (r : Bool), vs = [.ref W1, .ref W2, .ref q1, .ref q2, v] ∧ WorldAt H W1 bk st ∧ WorldAt H W2 cl st' ∧ Two C H q1 q2 bk cl st st' ∧ DOk bk st ∧ DOk cl st' ∧ SafW K H (ordB bk) (ordB cl) (st, st') v r ∧ ValA C H v ∧ ∀ H', Same H H' → Q (.bl true) H'
section
variable {P : Program} {w : World} {K : PySem.W.Frag} {mg : Str → Option Value} {base : Heap} {C : Addr}
theorem ok_samea {f : Addr} {fd : FuncData} (F : Fun K "_law_same" "_law_same" sLSame f fd) (T : Free4 mg) (gE : mg "_law_same" = some (.ref f)) (bE : Binds K fd ["_law_thing"] []) (c : DskC K C) : FnOk P w K mg base CX0 5 f fd ["_law_thing"] (spSameA C) := by
  have G := fun n => ok_lsame (P := P) (w := w) (base := base) F T gE bE n
  have CE : Cal P w K mg base "_law_same" 1 ["_law_thing"] (spSame 0) := Cal.of gE F.kp (G 0) bE
  have d1 := ok_lsamedk (P := P) (w := w) (base := base) F T gE bE c
  have d2 := ok_lsamedt (P := P) (w := w) (base := base) F T CE
  have d12 : FnOk P w K mg base CX0 5 f fd ["_law_thing"] (fun vs H Q E => spSameDk C vs H Q E ∨ spSameDT vs H Q E) := fnok_or (d1.mono (by decide)) (d2.mono (by decide)) fun _ _ _ _ h => h
  refine fnok_or (G 4) d12 fun vs H Q E ⟨v, e, h, k⟩ => ?_
  rcases h with h | ⟨q, bk, st, rfl, h, o⟩ | ⟨d, ps, rfl, h, nd, l⟩
  · exact .inl ⟨v, [], e, (fun x hx => by cases hx), Tr.same 4 cut_nil h, fun H' w s e => k H' w s (.inl (EqX.same 4 cut_le e))⟩
  · exact .inr (.inl ⟨q, bk, st, e, h, k H _ (Same.refl _) (.inr (.inl ⟨q, bk, st, rfl, rfl, h, o⟩))⟩)
  · exact .inr (.inr ⟨d, ps, e, h, nd, l, fun H' x s n hx => k H' _ s (.inr (.inr ⟨d, x, ps, rfl, rfl, ne_of_none h n, s _ _ h, hx, nd, l⟩))⟩)
theorem ok_exacta {f : Addr} {fd : FuncData} (F : Fun K "_law_exact" "_law_exact" sExact f fd) (T : Free3 mg) (gE : mg "_law_exact" = some (.ref f)) (bE : Binds K fd ["_law_mine", "_law_theirs"] []) (EQ : EqD P w K mg base C) (c : DskC K C) : FnOk P w K mg base CX0 5 f fd ["_law_mine", "_law_theirs"] (spExactA C) := by
  have G := fun n => ok_exact (P := P) (w := w) (base := base) F T gE bE n
  have CE : Cal P w K mg base "_law_exact" 3 ["_law_mine", "_law_theirs"] (spExact 2) := Cal.of gE F.kp (G 2) bE
  have d12 : FnOk P w K mg base CX0 5 f fd ["_law_mine", "_law_theirs"] (fun vs H Q E => spExactDk C vs H Q E ∨ spExactDT vs H Q E) := fnok_or ((ok_exactdk F T EQ c).mono (by decide)) ((ok_exactdt F T CE).mono (by decide)) fun _ _ _ _ h => h
  refine fnok_or (G 4) d12 fun vs H Q E ⟨v, w, e, h, k⟩ => ?_
  rcases h with h | ⟨q, bk, st, rfl, rfl, h, o⟩ | ⟨d, x, ps, rfl, rfl, n, h, g, nd, l⟩
  · exact .inl ⟨v, w, e, h, k⟩
  · exact .inr (.inl ⟨q, bk, st, e, h, o, k⟩)
  · exact .inr (.inr ⟨d, x, ps, e, n, h, g, nd, l, k⟩)
abbrev CSameA (P : Program) (w : World) (K : PySem.W.Frag) (mg : Str → Option Value) (base : Heap) (C : Addr) := Cal P w K mg base "_law_same" 5 ["_law_thing"] (spSameA C)
abbrev CExactA (P : Program) (w : World) (K : PySem.W.Frag) (mg : Str → Option Value) (base : Heap) (C : Addr) := Cal P w K mg base "_law_exact" 5 ["_law_mine", "_law_theirs"] (spExactA C)
abbrev CIsTab (P : Program) (w : World) (K : PySem.W.Frag) (mg : Str → Option Value) (base : Heap) := Cal P w K mg base "_law_is_table" 2 ["_law_elder", "_law_newer_here", "_law_value"] (spIsTab K)
abbrev CSafeT (P : Program) (w : World) (K : PySem.W.Frag) (mg : Str → Option Value) (base : Heap) (C : Addr) := Cal P w K mg base "is_safe_table" 5 ["elder", "newer", "value"] (spSafeT K C)
abbrev juN : List Str := ["_law_elder", "_law_newer_here", "_law_one", "_law_other", "_law_value", "_law_due", "_law_shown"]
abbrev juP : List Str := ["_law_elder", "_law_newer_here", "_law_one", "_law_other", "_law_value"]
theorem scJu : FnScope juN juP (defScope sJudged) := ⟨rfl, rfl, rfl, by decide +kernel, rfl, by decide +kernel, by decide +kernel⟩
theorem ok_judged {f : Addr} {fd : FuncData} (F : Fun K "_law_judged" "_law_judged" sJudged f fd) (CT : CIsTab P w K mg base) (CS : CSameA P w K mg base C) (CX : CExact P w K mg base 0) (CXA : CExactA P w K mg base C) (CSf : CSafeT P w K mg base C) : FnOk P w K mg base CX0 6 f fd juP (spJudged K C) := by
  refine F.ok scJu (fun vs H Q E h => ?_) (fun cdv A outer s H vs Q E0' hr h => ?_)
  · obtain ⟨W1, W2, q1, q2, bk, cl, st, st', v, r, rfl, _⟩ := h; rfl
  · obtain ⟨W1, W2, q1, q2, bk, cl, st, st', v, r, rfl, w1, w2, tw, o1, o2, hv, ha, k⟩ := h
    refine ⟨_, pss_cons (ps_par (i := 5) (j := 6) rfl scJu.nd rfl rfl (by decide) rfl rfl (pa_cons (pe_cal CT (hr.mono (by decide)) rfl (pa_cons (pv 0) (pa_cons (pv 1) (pa_cons (pv 4) pa_nil)))) (pa_cons (pe_cal CS (hr.mono (by decide)) rfl (pa_cons (pv 4) pa_nil)) pa_nil)) (by rfl))
      (pss_one (ps_ret (pe_and (pe_cal CX (hr.mono (by decide)) rfl (pa_cons (pe_cal CSf (hr.mono (by decide)) rfl (pa_cons (pv 2) (pa_cons (pv 3) (pa_cons (pv 4) pa_nil)))) (pa_cons (pv 5) pa_nil))) (pe_one (pe_cal CXA (hr.mono (by decide)) rfl (pa_cons (pv 4) (pa_cons (pv 6) pa_nil))))))), ?_⟩
    refine ⟨_, rfl, _, rfl, _, rfl, W1, W2, bk, cl, st, st', v, r, rfl, w1, w2, o1, o2, hv, fun H1 s1 => ?_⟩
    refine ⟨_, rfl, v, rfl, ha.same s1, fun H2 x s2 hc => ⟨_, _, rfl, ?_⟩⟩
    have s12 := Same.trans s1 s2
    refine ⟨_, rfl, _, rfl, _, rfl, q1, q2, bk, cl, st, st', v, r, rfl, tw.same s12, o1, o2, (hv.same s12).v, fun H3 s3 => ?_⟩
    refine ⟨_, rfl, _, _, rfl, ⟨.bl r, rfl⟩, fun H4 s4 => ⟨_, rfl, iteT ?_⟩⟩
    have s24 := Same.trans s3 s4
    exact ⟨_, rfl, _, rfl, v, x, rfl, hc.same s24, fun H5 s5 => k H5 (Same.trans s12 (Same.trans s24 s5))⟩
end
end D1
end L2
namespace L2
namespace D1
open PySem PySem.Spec PyProof.Rows D2 X5 X6 Dq
/-- judged the same way by any two books -/
def Vl (K : PySem.W.Frag) (C : Addr) (H : Hp) (v : V) : Prop := ValA C H v ∧ ∀ bk cl f, ∃ r, SafW K H bk cl f v r
theorem Vl.same {K : PySem.W.Frag} {C : Addr} {H H' : Hp} {v : V} (h : Vl K C H v) (s : Same H H') : Vl K C H' v := ⟨h.1.same s, fun bk cl f => (h.2 bk cl f).imp fun _ e => e.same s⟩
/-- a list of pairs -/
def LotV (H : Hp) (v : V) (ps : List Pr) : Prop := ∃ L us, v = .ref L ∧ H L = some (.lst us) ∧ Ats H us ps
theorem LotV.same {H H' : Hp} {v : V} {ps : List Pr} (h : LotV H v ps) (s : Same H H') : LotV H' v ps := let ⟨L, us, e, a, b⟩ := h; ⟨L, us, e, s _ _ a, b.same s⟩
theorem tr_str {H : Hp} {n : Nat} (x : Str) : Tr n H (.str x) := Tr.up (m := 0) (Leaf.str x) (Nat.zero_le _)
theorem ats_mem {H : Hp} {us : List V} {ps : List Pr} (h : Ats H us ps) {v : V} (m : v ∈ us) : ∃ z p, v = .ref z ∧ PAt H z p := by
  obtain ⟨i, hi⟩ := List.getElem?_of_mem m
  obtain ⟨p, _, z, e, hz⟩ := paired_get h hi
  exact ⟨z, p, e, hz⟩
theorem tr_pair {H : Hp} {z : Addr} {p : Pr} (h : PAt H z p) : Tr 1 H (.ref z) := .inr (.inr (.inl ⟨z, _, rfl, h, by show 2 ≤ 10000; decide, fun y hy => by
  rcases List.mem_cons.mp hy with e | hy
  · rw [e]; exact Leaf.str _
  · rw [List.mem_singleton.mp hy]; exact Leaf.str _⟩))
theorem LotV.vl {K : PySem.W.Frag} {C : Addr} {H : Hp} {v : V} {ps : List Pr} (h : LotV H v ps) (l : ps.length ≤ 10000) : Vl K C H v := by
  obtain ⟨L, us, rfl, hL, hA⟩ := h
  refine ⟨.inl (Tr.up (m := 2) (.inr (.inl ⟨L, us, rfl, hL, by rw [hA.len]; exact l, fun y hy => ?_⟩)) (by decide)), fun bk cl f => ⟨_, .inl ⟨L, us, ps, rfl, hL, hA, l, rfl⟩⟩⟩
  obtain ⟨z, p, rfl, hz⟩ := ats_mem hA hy
  exact tr_pair hz
/-- no list -/
theorem notl_of {K : PySem.W.Frag} {H : Hp} {v : V} {t : String} (ty : TyX K H v (.type t)) (e : kitB t "list" = some false) : NotL K H v := ⟨_, ty, kit_ty e⟩
theorem vl_no {K : PySem.W.Frag} {C : Addr} {H : Hp} {v : V} (a : ValA C H v) (n : NotL K H v) : Vl K C H v := ⟨a, fun _ _ _ => ⟨false, .inr (.inr ⟨n, rfl⟩)⟩⟩
theorem vl_leaf {K : PySem.W.Frag} {C : Addr} {H : Hp} {v : V} (h : Leaf v) : Vl K C H v := by
  obtain ⟨t, _, ty, e, _⟩ := leaf_ty h
  exact vl_no (.inl (Tr.up (m := 0) h (Nat.zero_le _))) (notl_of (ty K H) e)
theorem vl_emptyD {K : PySem.W.Frag} {C : Addr} {H : Hp} {d : Addr} (h : H d = some (.dK [])) : Vl K C H (.ref d) :=
  vl_no (.inl (.inr (.inr (.inr ⟨by decide, d, [], [], rfl, h, rfl, List.nodup_nil, Nat.zero_le _, fun p hp => by cases hp⟩)))) (notl_of (.base (.dK h)) (by decide +kernel))
theorem vl_desk {K : PySem.W.Frag} {C : Addr} {H : Hp} {q : Addr} {bk : Bk} {st : Str} (c : DskC K C) (h : DeskAt C H q bk st) (o : DOk bk st) : Vl K C H (.ref q) :=
  vl_no (.inr (.inl ⟨q, bk, st, rfl, h, o⟩)) ⟨_, c.ty h, c.nl⟩
theorem vl_dT {K : PySem.W.Frag} {C : Addr} {H : Hp} {d : Addr} {ps : List Pr} (h : H d = some (.dT (ZT ps))) (nd : ps.Nodup) (l : ps.length ≤ 10000) : Vl K C H (.ref d) :=
  vl_no (.inr (.inr ⟨d, ps, rfl, h, nd, l⟩)) (notl_of (.base (.dT h)) (by decide +kernel))
/-- a tuple of pairs -/
theorem vl_tup {K : PySem.W.Frag} {C : Addr} {H : Hp} {a : Addr} {us : List V} {ps : List Pr} (h : H a = some (.tup us)) (hA : Ats H us ps) (l : ps.length ≤ 10000) : Vl K C H (.ref a) := by
  refine vl_no (.inl (Tr.up (m := 2) (.inr (.inr (.inl ⟨a, us, rfl, h, by rw [hA.len]; exact l, fun y hy => ?_⟩))) (by decide))) (notl_of (.base (.tup h)) (by decide +kernel))
  obtain ⟨z, p, rfl, hz⟩ := ats_mem hA hy
  exact tr_pair hz
/-- an item of a list that is judged: a pair, or an odd thing that is plain data -/
def ItV (H : Hp) (u : V) : Prop := Tr 3 H u ∧ (OddJ H u ∨ ∃ z p, u = .ref z ∧ PAt H z p)
theorem ItV.pair {H : Hp} {z : Addr} {p : Pr} (h : PAt H z p) : ItV H (.ref z) := ⟨Tr.up (tr_pair h) (by decide), .inr ⟨z, p, rfl, h⟩⟩
theorem ItV.same {H H' : Hp} {u : V} (h : ItV H u) (s : Same H H') : ItV H' u := ⟨Tr.same 3 s h.1, h.2.imp (fun h => h.same s) fun ⟨z, p, e, hz⟩ => ⟨z, p, e, s _ _ hz⟩⟩
theorem vl_odd {K : PySem.W.Frag} {C : Addr} {H : Hp} {L : Addr} {us : List V} (h : H L = some (.lst us)) (l : us.length ≤ 10000) (hi : ∀ u ∈ us, ItV H u) (ho : ∃ u ∈ us, OddJ H u) : Vl K C H (.ref L) :=
  ⟨.inl (.inr (.inl ⟨L, us, rfl, h, l, fun u hu => (hi u hu).1⟩)), fun _ _ _ => ⟨false, .inr (.inl ⟨L, us, rfl, h, l, fun u hu => (hi u hu).2, ho, rfl⟩)⟩⟩
theorem itv_non {H : Hp} : ItV H .non ∧ OddJ H .non := ⟨⟨Tr.up (m := 0) Leaf.non (Nat.zero_le _), .inl (.inl .non)⟩, .inl .non⟩
theorem itv_int {H : Hp} (i : Int) : ItV H (.int i) ∧ OddJ H (.int i) := ⟨⟨Tr.up (m := 0) (Leaf.int i) (Nat.zero_le _), .inl (.inl (.int i))⟩, .inl (.int i)⟩
theorem itv_str {H : Hp} (x : Str) : ItV H (.str x) ∧ OddJ H (.str x) := ⟨⟨tr_str x, .inl (.inr (.inl ⟨x, rfl⟩))⟩, .inr (.inl ⟨x, rfl⟩)⟩
theorem tr_strs {H : Hp} {n : Nat} {ss : List Str} : ∀ y ∈ ss.map V.str, Tr n H y := fun y hy => by
  obtain ⟨x, _, rfl⟩ := List.mem_map.mp hy
  exact tr_str x
/-- a list of texts -/
theorem itv_list {H : Hp} {a : Addr} {ss : List Str} (h : H a = some (.lst (ss.map V.str))) (l : ss.length ≤ 10000) : ItV H (.ref a) ∧ OddJ H (.ref a) :=
  ⟨⟨Tr.up (m := 1) (.inr (.inl ⟨a, _, rfl, h, by rw [List.length_map]; exact l, tr_strs⟩)) (by decide), .inl (.inl (.lst h))⟩, .inl (.lst h)⟩
/-- a list of pairs, within a list -/
theorem itv_lot {H : Hp} {v : V} {ps : List Pr} (h : LotV H v ps) (l : ps.length ≤ 10000) : ItV H v ∧ OddJ H v := by
  obtain ⟨L, us, rfl, hL, hA⟩ := h
  refine ⟨⟨Tr.up (m := 2) (.inr (.inl ⟨L, us, rfl, hL, by rw [hA.len]; exact l, fun y hy => ?_⟩)) (by decide), .inl (.inl (.lst hL))⟩, .inl (.lst hL)⟩
  obtain ⟨z, p, rfl, hz⟩ := ats_mem hA hy
  exact tr_pair hz
/-- texts in a tuple, not two -/
theorem itv_tup {H : Hp} {a : Addr} {ss : List Str} (h : H a = some (.tup (ss.map V.str))) (l : ss.length ≤ 10000) (n : ss.length ≠ 2) : ItV H (.ref a) ∧ OddJ H (.ref a) :=
  have o : OddJ H (.ref a) := .inr (.inr ⟨a, rfl, .inl ⟨ss, h, n⟩⟩)
  ⟨⟨Tr.up (m := 1) (.inr (.inr (.inl ⟨a, _, rfl, h, by rw [List.length_map]; exact l, tr_strs⟩))) (by decide), .inl o⟩, o⟩
theorem itv_none2 {H : Hp} {a : Addr} {x : Str} (h : H a = some (.tup [.str x, .non])) : ItV H (.ref a) ∧ OddJ H (.ref a) :=
  have o : OddJ H (.ref a) := .inr (.inr ⟨a, rfl, .inr (.inl ⟨x, h⟩)⟩)
  ⟨⟨Tr.up (m := 1) (.inr (.inr (.inl ⟨a, _, rfl, h, by show 2 ≤ 10000; decide, fun y hy => by
    rcases List.mem_cons.mp hy with e | hy
    · rw [e]; exact Leaf.str x
    · rw [List.mem_singleton.mp hy]; exact Leaf.non⟩))) (by decide), .inl o⟩, o⟩
theorem itv_ld {H : Hp} {a l d : Addr} (h : H a = some (.tup [.ref l, .ref d])) (hl : H l = some (.lst [])) (hd : H d = some (.dK [])) (n : d ≠ l) : ItV H (.ref a) ∧ OddJ H (.ref a) :=
  have o : OddJ H (.ref a) := .inr (.inr ⟨a, rfl, .inr (.inr ⟨l, d, [], h, hl, hd⟩)⟩)
  ⟨⟨Tr.up (m := 3) (.inr (.inr (.inl ⟨a, _, rfl, h, by show 2 ≤ 10000; decide, fun y hy => by
    rcases List.mem_cons.mp hy with e | hy
    · rw [e]; exact Tr.up (m := 1) (.inr (.inl ⟨l, [], rfl, hl, Nat.zero_le _, fun _ h => by cases h⟩)) (by decide)
    · rw [List.mem_singleton.mp hy]; exact .inr (.inr (.inr ⟨by decide, d, [], [], rfl, hd, rfl, List.nodup_nil, Nat.zero_le _, fun _ h => by cases h⟩))⟩))) (by decide), .inl o⟩, o⟩
end D1
end L2
namespace L2
namespace D1
open PySem PySem.Spec PyProof.Rows
section
variable {prog : Program} {w : World} {A : Around} {E : Value → Shared → Prop} {s : Shared}
theorem slice_back2 {sl : Addr} {vl vu vs : Value} {Q : Int × Int × Nat → Shared → Prop} (hs : s.heap.IsSliceOf sl vl vu vs) (pl : IsPart vl none) (pu : IsPart vu none) (ps : IsPart vs (some (-1)))
    (h : Q (1, -1, 2) s) : wpAny (model prog w) A (Builtin.Slice.sliceApplied (.ref sl) (pure (2 : Int))) Q E s := by
  obtain ⟨os, hos, hcs, hds⟩ := id hs
  unfold Builtin.Slice.sliceApplied Builtin.Slice.sliceFields
  refine wpAny_bind (wpAny_bind (wpAny_field hos hds (x := vl) rfl (wpAny_bind (wpAny_field hos hds (x := vu) rfl (wpAny_bind (wpAny_field hos hds (x := vs) rfl (wpAny_pure ?_)))))))
  refine wpAny_bind (HT.slicePart_ ps ?_)
  show wpAny _ _ (if ((-1 : Int) == 0) = true then _ else _) _ _ s
  rw [if_neg (by decide)]
  refine wpAny_bind (HT.slicePart_ pl (wpAny_bind (HT.slicePart_ pu (wpAny_bind (wpAny_pure ?_)))))
  exact wpAny_pure h
theorem getItem_back2 {t sl : Addr} {a b vl vu vs : Value} {Q : Value → Shared → Prop} (ht : IsTup s.heap t #[a, b]) (hs : s.heap.IsSliceOf sl vl vu vs) (pl : IsPart vl none) (pu : IsPart vu none) (ps : IsPart vs (some (-1)))
    (h : Q (.ref s.heap.objs.size) { s with heap := s.heap.push { cls := .type "tuple", data := .seq #[b, a] } }) : wpAny (model prog w) A (getItem (.ref t) (.ref sl)) Q E s := by
  have htake : sizeOk (.seq #[b, a]) := by
    show 2 ≤ sizeLine
    decide
  obtain ⟨os, hos, hcs, hds⟩ := id hs
  have hTs : s.TypeIs (.ref sl) "slice" := ⟨os, hos, hcs⟩
  unfold getItem
  try with_reducible refine wpAny_holding ?_
  first | refine wpAny_bind (wpAny_pure ?_) | skip
  refine wpAny_bind (wpAny_sequenceKey ht.typeIs (by decide) ?_)
  refine wpAny_bind (wpAny_callSpecial?_slot (name := Str.ofString "__getitem__") ht.typeIs PyProof.Rows.slot_tuple_getitem
    (wpAny_call_entry PyProof.Rows.slot_tuple_getitem ht.typeIs entry_tuple_getitem ?_ (args_tuple_getitem _ _)))
  show wpAny _ _ (Builtin.Tuple.tupleItemsOf (.ref t) >>= _) _ _ s
  refine wpAny_bind (tupleItemsOf_ ht ?_)
  refine wpAny_bind (wpAny_typeOf hTs ?_)
  rw [if_pos (by decide)]
  refine wpAny_bind (slice_back2 hs pl pu ps ?_)
  show wpAny _ _ (if (((1 : Int)) == 0 && (-1 : Int) == 1 && (2 : Nat) == 2) = true then _ else _) _ _ s
  rw [if_neg (by decide)]
  first
    | exact wpAny_bind (m := Builtin.Tuple.tupleExact _) (wpAny_newObj_type (wpAny_pure ⟨_, rfl, wpAny_pure h⟩) htake)
    | exact wpAny_bind (m := Builtin.Tuple.tupleExact _) (wpAny_newObj_type (wpAny_bind (wpAny_pure (wpAny_pure ⟨_, rfl, wpAny_pure h⟩))) htake)
    | exact wpAny_bind (wpAny_bind (m := Builtin.Tuple.tupleExact _) (wpAny_newObj_type (wpAny_pure (wpAny_pure ⟨_, rfl, wpAny_pure h⟩)) htake))
    | exact wpAny_bind (wpAny_bind (m := Builtin.Tuple.tupleExact _) (wpAny_newObj_type (wpAny_pure ⟨_, rfl, wpAny_pure h⟩) htake))
end
section
variable {X : Cx}
def tBack2 (K : PySem.W.Frag) (te : TE) : TE := fun σ H Q => te σ H fun x H1 => ∃ (a : Addr) (u v : V), x = .ref a ∧ SqT K H1 a [u, v] ∧ ∀ p, H1 p = none → Q (.ref p) (L2.upd H1 p (.tup [v, u]))
theorem pe_back2 {e : Expr} {te : TE} {k : Nat} {p1 p2 p3 pos : Pos} (he : PE X e te) : PE X (.Subscript e (.Slice none none (some (.UnaryOp .USub (.Constant (.int 1) k p1) p2)) p3) pos) (tBack2 X.K te) := by
  refine ⟨fun pins s σ H Q I h => ?_⟩
  refine Subscript_ (thn (he.run pins s σ H _ I h) fun v s1 ⟨x, H1, I1, r1, q1⟩ => ?_)
  obtain ⟨a, y, z, ex, hx, q⟩ := q1
  subst ex
  cases r1
  have hst : PO X (some (.UnaryOp .USub (.Constant (.int 1) k p1) p2)) (tPart (tUn (rU fun i => .int (-i)) (tC (.int 1)))) := po_some (pe_un un_neg pe_int)
  refine wpAny_Slice (thn (po_none.run pins s1 σ H1 (fun o H2 => o = none ∧ H2 = H1) I1 ⟨rfl, rfl⟩) fun vl s2 ⟨l, H2, I2, pl, el, e2⟩ => ?_)
  subst el e2
  refine thn (po_none.run pins s2 σ H2 (fun o H3 => o = none ∧ H3 = H2) I2 ⟨rfl, rfl⟩) fun vu s3 ⟨u, H3, I3, pu, eu, e3⟩ => ?_
  subst eu e3
  refine thn (hst.run pins s3 σ H3 (fun o H4 => o = some (-1) ∧ H4 = H3) I3 ⟨1, rfl, -1, rfl, rfl, rfl⟩) fun vs s4 ⟨o, H4, I4, ps, eo, e4⟩ => ?_
  subst eo e4
  have I5 : Inv X pins σ H4 { s4 with heap := s4.heap.push { cls := .type "slice", data := .fields #[vl, vu, vs] } } := I4.kept (t' := s4.toks) fun b ob q => Heap.get?_push_of_some _ q
  obtain ⟨its, r, ht, hz⟩ := I5.tuple hx
  cases r with
  | cons r1 r => cases r with
    | cons r2 r =>
      cases r
      show wpAny (model X.prog X.w) X.A (subscriptTail e (.Slice none none (some (.UnaryOp .USub (.Constant (.int 1) k p1) p2)) p3) (.ref a) (.ref s4.heap.objs.size)) (EP X pins σ Q) X.xe { s4 with heap := s4.heap.push { cls := .type "slice", data := .fields #[vl, vu, vs] } }
      refine tail_any (ops := [.ref a, .ref s4.heap.objs.size]) ht.typeIs (PyProof.Rows.slot_tuple_getitem.lookup) ?_ (by with_unfolding_all rfl)
      refine getItem_back2 ht (Heap.IsSliceOf.new _ vl vu vs) pl pu ps ?_
      refine ⟨.ref _, _, I5.laid (t' := s4.toks) (o := .tup [z, y]) (fun b ob q => Heap.get?_push_of_some _ q) (Nat.le_refl _) ?_, rfl, q _ (I5.hok.fresh (Nat.le_refl _))⟩
      exact ⟨by show 2 ≤ sizeLine; decide, _, .cons r2 (.cons r1 .nil), IsTup.new _ _⟩
end
end D1
end L2
namespace L2
namespace D1
open PySem PySem.Spec PyProof.Rows D2
def wdB (x : Str) : Bool := decide (1 ≤ x.length) && decide (x.length ≤ 8) && (tl x).all fun c => decide (97 ≤ c) && decide (c ≤ 122)
theorem wd_by {x : Str} (h : wdB x = true) : Wd x := by
  unfold wdB at h
  simp only [Bool.and_eq_true, decide_eq_true_eq, List.all_eq_true] at h
  exact ⟨h.1.1, h.1.2, fun c hc => h.2 c hc⟩
def dokB (bk : Bk) (st : Str) : Bool := !bk.isEmpty && decide ((bk.map (·.1)).Nodup) && decide (bk.length ≤ 60) && decide (st ∈ bk.map (·.1)) &&
  bk.all fun r => wdB r.1 && decide (r.2.2.length ≤ 60) && decide ((r.2.2.map (·.1)).Nodup) && (r.2.2.all fun t => wdB t.1 && wdB t.2 && decide (t.2 ∈ bk.map (·.1))) &&
    ((decide (r.2.1 = "done") && r.2.2.isEmpty) || ((decide (r.2.1 = "says") || decide (r.2.1 = "hears")) && !r.2.2.isEmpty))
theorem dok_by {bk : Bk} {st : Str} (h : dokB bk st = true) : DOk bk st := by
  unfold dokB at h
  simp only [Bool.and_eq_true, Bool.or_eq_true, decide_eq_true_eq, List.all_eq_true, Bool.not_eq_true'] at h
  obtain ⟨⟨⟨⟨h1, h2⟩, h3⟩, h4⟩, h5⟩ := h
  refine ⟨⟨(fun e => by rw [e] at h1; cases h1), h2, h3, fun r hr => ?_, fun r hr => (h5 r hr).1.1.1.2⟩, fun r hr => (h5 r hr).1.1.2, h4⟩
  obtain ⟨⟨⟨⟨a, b⟩, c⟩, d⟩, e⟩ := h5 r hr
  refine ⟨wd_by a, ?_, fun t ht => (d t ht).2⟩
  rcases e with ⟨e1, e2⟩ | ⟨e1, e2⟩
  · exact .inl ⟨e1, List.isEmpty_iff.mp e2⟩
  · exact .inr ⟨e1, (fun z => by rw [z] at e2; cases e2), by omega, fun t ht => ⟨wd_by (d t ht).1.1, wd_by (d t ht).1.2⟩⟩
/-- a written row -/
def tCRow (k : Str) (ts : List (Str × Str)) : TE := fun σ H Q => ∀ (H' : Hp) (T E : Addr), Same H H' → H T = none → H E = none → H' T = some (.tup [.str k, .ref E]) → TurnsAt H' E ts → Q (.ref T) H'
theorem crow0 {X : Cx} {k : Str} {pos pos' : Pos} {x1 j0 : Nat} {ps : Pos} : PE X (.Tuple [.Constant (.str k) j0 ps, .Dict [] [] pos] x1 pos') (tCRow k []) := by
  refine pe_imp (pe_tup (pa_cons pe_str (pa_cons pe_dnewK pa_nil))) ?_
  intro σ H Q kk E hE
  refine ⟨by show 2 ≤ sizeLine; decide, fun T hT => ?_⟩
  have s1 := Same.new (o := .dK []) hE
  have h : TurnsAt (L2.upd H E (.dK [])) E [] := upd_same
  exact kk _ T E (Same.trans s1 (Same.new hT)) (s1.free hT) hE upd_same (h.same (Same.new hT))
def trB (bk : Bk) : List (TE × TE) := bk.map fun r => (tC (.str r.1), tCRow r.2.1 r.2.2)
theorem trB_run (σ : L2.St) (p : Addr) : ∀ (bk : Bk) (H : Hp) (Q : List (V × V) → Hp → Prop), (∃ u, H p = some u) → (∀ (H' : Hp) (kvs : List (Key × V)), Same H H' → Rows (cut [p] H') kvs bk → Q (kvs.map fun kv => (kV kv.1, kv.2)) H') → tPairs (trB bk) σ H Q
  | [], H, Q, _, q => q H [] (Same.refl H) .nil
  | r :: bk, H, Q, hp, q => fun H1 T E s nT nE hT hE => by
    obtain ⟨u, hu⟩ := hp
    have n1 : T ≠ p := fun e => by rw [e, hu] at nT; cases nT
    have n2 : E ≠ p := fun e => by rw [e, hu] at nE; cases nE
    refine trB_run σ p bk H1 _ ⟨u, s _ _ hu⟩ fun H2 kvs s2 hR => ?_
    refine q H2 ((.inr r.1, .ref T) :: kvs) (Same.trans s s2) (.cons ⟨rfl, T, E, rfl, ?_, ?_⟩ hR)
    · rw [cut_out (by simpa using n1)]; exact s2 _ _ hT
    · rw [TurnsAt, cut_out (by simpa using n2)]; exact s2 _ _ hE
theorem disp_book {σ : L2.St} {bk : Bk} {H : Hp} {Q : VK} (nd : (bk.map (·.1)).Nodup) (l : bk.length ≤ 15) (k : ∀ H' b, Same H H' → H b = none → BookAt H' b bk → Q (.ref b) H') : tDisp (trB bk) σ H Q := fun p hp => by
  have s1 := Same.new (o := .dK []) hp
  refine trB_run σ p bk _ _ ⟨_, upd_same⟩ fun H' kvs s2 hR => ⟨s2 _ _ upd_same, kvs, rfl, by rw [hR.len]; exact l, ?_⟩
  have e1 : kvs.map (·.1) = (bk.map (·.1)).map Sum.inr := by rw [hR.keys, List.map_map]; rfl
  rw [merge_id2 (by rw [e1]; exact inr_nd' nd)]
  refine k _ p (fun c u e => ?_) hp ⟨kvs, upd_same, ?_⟩
  · rw [upd_ne (ne_of_none e hp)]; exact s2 _ _ (s1 _ _ e)
  · refine hR.same fun c u e => ?_
    obtain ⟨nc, e⟩ := cut_some e
    rw [upd_ne (by simpa using nc)]; exact e
def oneA : Bk := [("a", "done", [])]
theorem oneA_ok : DOk oneA "a" := dok_by (by decide +kernel)
/-- Desk({"a": ("done", {})}, "a") -/
def tOneA (C : Addr) : TE := fun _ H Q => ∀ (H' : Hp) (q : Addr), Same H H' → H q = none → DeskAt C H' q oneA "a" → Q (.ref q) H'
end D1
end L2
namespace L2
namespace D1
open PySem PySem.Spec PyProof.Rows D2
section
variable {K : PySem.W.Frag} {a : Addr} {xs : List V} {j : Nat} {tt : TT} {vs : List Nat} {σ : L2.St} {H1 : Hp} {D : Addr} {Qd : Hp → Prop}
/-- [x for x in xs if ..] -/
theorem lc_sub (hD : H1 D = none) (hx : H1 a = some (.lst xs)) (hz : xs.length < sizeLine)
    (hw : ∀ x : V, wipe ((wipe σ vs).set j (some x)) vs = wipe σ vs) (hj : ∀ x : V, ((wipe σ vs).set j (some x))[j]? = some (some x))
    (ht : ∀ (x : V) (H : Hp) (R : Bool → Hp → Prop), x ∈ xs → Same H1 H → (∀ b H', Same H H' → R b H') → tt ((wipe σ vs).set j (some x)) H R)
    (hd : ∀ (H : Hp) (ys : List V), Same H1 H → H D = some (.lst ys) → (∀ y ∈ ys, y ∈ xs) → ys.length ≤ xs.length → Qd H) :
    ∃ W : Nat → Nat → Hp → Prop, (∃ m, W 0 m (L2.upd H1 D (.lst []))) ∧ ∀ i m H, W i m H →
      ((Itl K a).stop i H ∧ Qd H) ∨ ((Itl K a).go i H ∧ ∃ Nx : Hp → Prop, (∀ H', Nx H' → ∃ m', m' < m ∧ W (i + 1) m' H') ∧ ∀ x H', (Itl K a).yld i H x H' → gName j x (wipe σ vs) H' fun σ2 H2 => wipe σ2 vs = wipe σ vs ∧ tt σ2 H2 fun b H3 =>
        if b = true then tVar j σ2 H3 fun y H4 => ∃ acc, H4 D = some (.lst acc) ∧ acc.length < sizeLine ∧ Nx (L2.upd H4 D (.lst (acc ++ [y]))) else Nx H3) := by
  refine lc_list (K := K) (a := a) (xs := xs) (fun i H' => Same H1 H' ∧ ∃ ys, H' D = some (.lst ys) ∧ (∀ y ∈ ys, y ∈ xs) ∧ ys.length ≤ i) ⟨Same.new hD, [], upd_same, (fun y hy => by cases hy), Nat.le_refl _⟩ (fun i H' _ z => SqL.of (z.1 _ _ hx)) ?_ ?_
  · rintro i x H hi ⟨sm, ys, hY, sub, l⟩
    have li : i < xs.length := (List.getElem?_eq_some_iff.mp hi).1
    refine ⟨hw x, ht x H _ (List.mem_of_getElem? hi) sm fun b H' s' => ?_⟩
    cases b with
    | false => exact (if_neg (by decide)).mpr ⟨Same.trans sm s', ys, s' _ _ hY, sub, by omega⟩
    | true =>
      refine (if_pos rfl).mpr ⟨x, hj x, ys, s' _ _ hY, by omega, fun c o e => ?_, ys ++ [x], upd_same, fun y hy => ?_, by rw [List.length_append]; show _ + 1 ≤ _; omega⟩
      · rw [upd_ne (ne_of_none e hD)]; exact s' _ _ (sm _ _ e)
      · rcases List.mem_append.mp hy with h | h
        · exact sub y h
        · rw [List.mem_singleton.mp h]; exact List.mem_of_getElem? hi
  · rintro H ⟨sm, ys, hY, sub, l⟩
    exact hd H ys sm hY sub l
/-- [k for k in d if ..], d with tuples as keys, locked -/
theorem lc_subT {d : Addr} {o : Obj} {kvs : List (List Key × V)} (hD : H1 D = none) (hx : H1 d = some (.frz o (.dT kvs))) (hz : kvs.length < sizeLine)
    (hw : ∀ x : V, wipe ((wipe σ vs).set j (some x)) vs = wipe σ vs) (hj : ∀ x : V, ((wipe σ vs).set j (some x))[j]? = some (some x))
    (ht : ∀ (k : List Key) (v : V) (q : Addr) (H : Hp) (R : Bool → Hp → Prop), (k, v) ∈ kvs → H q = some (.tup (k.map kV)) → q ≠ D → Same H1 H → (∀ b H', Same H H' → R b H') → tt ((wipe σ vs).set j (some (.ref q))) H R)
    (hd : ∀ (H : Hp) (ys : List V), Same H1 H → H D = some (.lst ys) → (∀ y ∈ ys, ∃ (k : List Key) (v : V) (q : Addr), (k, v) ∈ kvs ∧ y = .ref q ∧ H q = some (.tup (k.map kV))) → ys.length ≤ kvs.length → Qd H) :
    ∃ W : Nat → Nat → Hp → Prop, (∃ m, W 0 m (L2.upd H1 D (.lst []))) ∧ ∀ i m H, W i m H →
      ((Itkt d o kvs).stop i H ∧ Qd H) ∨ ((Itkt d o kvs).go i H ∧ ∃ Nx : Hp → Prop, (∀ H', Nx H' → ∃ m', m' < m ∧ W (i + 1) m' H') ∧ ∀ x H', (Itkt d o kvs).yld i H x H' → gName j x (wipe σ vs) H' fun σ2 H2 => wipe σ2 vs = wipe σ vs ∧ tt σ2 H2 fun b H3 =>
        if b = true then tVar j σ2 H3 fun y H4 => ∃ acc, H4 D = some (.lst acc) ∧ acc.length < sizeLine ∧ Nx (L2.upd H4 D (.lst (acc ++ [y]))) else Nx H3) := by
  refine lc_it (walk_keysT (d := d) (o := o) (kvs := kvs)) (fun i H' => Same H1 H' ∧ ∃ ys, H' D = some (.lst ys) ∧ (∀ y ∈ ys, ∃ (k : List Key) (v : V) (q : Addr), (k, v) ∈ kvs ∧ y = .ref q ∧ q ≠ D ∧ H' q = some (.tup (k.map kV))) ∧ ys.length ≤ i) ⟨Same.new hD, [], upd_same, (fun y hy => by cases hy), Nat.le_refl _⟩ (fun i H' _ z => z.1 _ _ hx) ?_ ?_
  · rintro i x H H' hi ⟨sm, ys, hY, sub, l⟩ ⟨rfl, k, v, q, hk, rfl, hq⟩
    have nq : q ≠ D := fun e => by rw [e, hY] at hq; cases hq
    refine ⟨hw _, ht k v q H' _ (List.mem_of_getElem? hk) hq nq sm fun b H2 s' => ?_⟩
    cases b with
    | false => exact (if_neg (by decide)).mpr ⟨Same.trans sm s', ys, s' _ _ hY, (fun y hy => by obtain ⟨k, v, q, h1, h2, h3, h4⟩ := sub y hy; exact ⟨k, v, q, h1, h2, h3, s' _ _ h4⟩), by omega⟩
    | true =>
      refine (if_pos rfl).mpr ⟨_, hj _, ys, s' _ _ hY, by omega, fun c o e => ?_, ys ++ [.ref q], upd_same, fun y hy => ?_, by rw [List.length_append]; show _ + 1 ≤ _; omega⟩
      · rw [upd_ne (ne_of_none e hD)]; exact s' _ _ (sm _ _ e)
      · rcases List.mem_append.mp hy with h | h
        · obtain ⟨k, v, q, h1, h2, h3, h4⟩ := sub y h
          exact ⟨k, v, q, h1, h2, h3, by rw [upd_ne h3]; exact s' _ _ h4⟩
        · exact ⟨k, v, q, List.mem_of_getElem? hk, List.mem_singleton.mp h, nq, by rw [upd_ne nq]; exact s' _ _ hq⟩
  · rintro H ⟨sm, ys, hY, sub, l⟩
    exact hd H ys sm hY (fun y hy => by obtain ⟨k, v, q, h1, h2, _, h4⟩ := sub y hy; exact ⟨k, v, q, h1, h2, h4⟩) l
end
end D1
end L2
namespace L2
namespace D1
open PySem PySem.Spec PyProof.Rows D2 X5 X6 Dq
abbrev sBent51 : Stmt := top 61
def spBent51 (K : PySem.W.Frag) (C : Addr) : Sp := fun vs H Q _ => ∃ (p : Addr) (v : V) (ls : Lot51) (t : Int), vs = [.ref p, v] ∧ Purse H p t ∧ LotV (cut [p] H) v ls ∧ ls ≠ [] ∧ ls.Nodup ∧ ls.length ≤ 4000 ∧ (∀ q ∈ ls, Wd q.1 ∧ Wd q.2) ∧ t < 2 ^ 25 ∧
  ∀ (H' : Hp) (R : Addr) (us : List V) (t' : Int), But p H H' → H R = none → H' R = some (.lst us) → us.length ≤ 100 → (∀ u ∈ us, Vl K C (cut [p] H') u) → Purse H' p t' → t' ≤ t + 1 → Q (.ref R) H'
theorem ats_of {H : Hp} : ∀ {us : List V}, (∀ u ∈ us, ∃ z p, u = .ref z ∧ PAt H z p) → ∃ ps : Lot51, Ats H us ps
  | [], _ => ⟨[], .nil⟩
  | u :: r, h => by
    obtain ⟨z, p, e, hz⟩ := h u List.mem_cons_self
    obtain ⟨ps, hp⟩ := ats_of fun u hu => h u (List.mem_cons_of_mem _ hu)
    exact ⟨p :: ps, .cons ⟨z, e, hz⟩ hp⟩
theorem vl_its {K : PySem.W.Frag} {C : Addr} {H : Hp} {L : Addr} {us : List V} (h : H L = some (.lst us)) (l : us.length ≤ 10000) (hi : ∀ u ∈ us, ItV H u) : Vl K C H (.ref L) := by
  rcases Classical.em (∃ u ∈ us, OddJ H u) with c | c
  · exact vl_odd h l hi c
  · obtain ⟨ps, hp⟩ := ats_of fun u hu => (hi u hu).2.resolve_left fun o => c ⟨u, hu, o⟩
    exact LotV.vl ⟨L, us, rfl, h, hp⟩ (by rw [← hp.len]; exact l)
theorem alloc {p a : Addr} {H : Hp} {o o' : HO} (hp : H p = some o') (n : H a = none) : Same H (L2.upd H a o) ∧ cut [p] (L2.upd H a o) a = some o := ⟨Same.new n, by rw [cut_out (by simpa using (ne_of_none hp n).symm), upd_same]⟩
def ItL (H : Hp) (us : List V) : Prop := ∀ u ∈ us, ItV H u
theorem ItL.add {H H' : Hp} {us : List V} {u : V} (h : ItL H us) (s : Same H H') (n : ItV H' u) : ItL H' (us ++ [u]) := fun x hx => by
  rcases List.mem_append.mp hx with m | m
  · exact (h x m).same s
  · rw [List.mem_singleton.mp m]; exact n
theorem ItL.app {H : Hp} {us vs : List V} (h : ItL H us) (g : ItL H vs) : ItL H (us ++ vs) := fun x hx => (List.mem_append.mp hx).elim (h x) (g x)
theorem ItL.same {H H' : Hp} {us : List V} (h : ItL H us) (s : Same H H') : ItL H' us := fun x hx => (h x hx).same s
def VlL (K : PySem.W.Frag) (C : Addr) (H : Hp) (us : List V) : Prop := ∀ u ∈ us, Vl K C H u
theorem VlL.add {K : PySem.W.Frag} {C : Addr} {H H' : Hp} {us : List V} {u : V} (h : VlL K C H us) (s : Same H H') (n : Vl K C H' u) : VlL K C H' (us ++ [u]) := fun x hx => by
  rcases List.mem_append.mp hx with m | m
  · exact (h x m).same s
  · rw [List.mem_singleton.mp m]; exact n
theorem VlL.app {K : PySem.W.Frag} {C : Addr} {H : Hp} {us vs : List V} (h : VlL K C H us) (g : VlL K C H vs) : VlL K C H (us ++ vs) := fun x hx => (List.mem_append.mp hx).elim (h x) (g x)
theorem VlL.same {K : PySem.W.Frag} {C : Addr} {H H' : Hp} {us : List V} (h : VlL K C H us) (s : Same H H') : VlL K C H' us := fun x hx => (h x hx).same s
section
variable {P : Program} {w : World} {K : PySem.W.Frag} {mg : Str → Option Value} {base : Heap} {C : Addr}
theorem cutV_in {us : List V} {lo hi : Option Int} {v : V} (h : v ∈ cutV us lo hi) : v ∈ us := List.mem_of_mem_drop (List.mem_of_mem_take h)
theorem cutV_len {us : List V} {lo hi : Option Int} : (cutV us lo hi).length ≤ us.length := by
  unfold cutV
  rw [List.length_take, List.length_drop]; omega
abbrev bnN : List Str := ["_law_purse_here", "_law_table", "_law_at", "_law_pair", "_law_odd", "_law_found", "_law_one"]
theorem scBn : FnScope bnN ["_law_purse_here", "_law_table"] (defScope sBent51) := ⟨rfl, rfl, rfl, by decide +kernel, rfl, by decide +kernel, by decide +kernel⟩
/-- a list between the front and the back of another one -/
def tBtw (p L : Addr) : TE := fun σ H Q => ∃ (v0 v3 v4 v5 : Option V) (us : List V) (i : Int) (o : V), σ = [v0, some (.ref L), some (.int i), v3, v4, v5, some o] ∧ H L = some (.lst us) ∧ us.length ≤ 4000 ∧ H p ≠ none ∧ ∀ (H' : Hp) (R : Addr) (ws : List V), Same H H' → H R = none → H' R = some (.lst ws) → ws.length ≤ 8001 → (∀ u ∈ ws, u ∈ us ∨ u = o) → Q (.ref R) H'
theorem ok_bent51 {f : Addr} {fd : FuncData} (F : Fun K "_law_bent" "_law_bent" sBent51 f fd) (T : Free4 mg) (D : DTxt K mg C) (DC : DskC K C) (MI : CMInit P w K mg base C) (CD : CDraw P w K mg base) : FnOk P w K mg base CX0 6 f fd ["_law_purse_here", "_law_table"] (spBent51 K C) := by
  obtain ⟨fI, fdI, mI, FI, bI⟩ := MI
  refine F.ok scBn (fun vs H Q E h => ?_) (fun cdv A outer s H vs Q E0' hr h => ?_)
  · obtain ⟨p, v, ls, t, rfl, _⟩ := h; rfl
  · obtain ⟨p, v, ls, t, rfl, hp, ⟨L, us, rfl, hLc, hA⟩, ne, nd, l5, wd, t1, k⟩ := h
    have hu := hu_of hr
    refine ⟨_, pss_cons (ps_set (i := 2) scBn.nd rfl (Or.inr rfl) (pe_cal CD (hr.mono (by decide)) rfl (pa_cons (pv 0) (pa_cons (pe_callB call_len_seq (by rfl) T.len PySem.boot_len (pa_cons (pv 1) pa_nil)) pa_nil))))
      (pss_cons (ps_set (i := 3) scBn.nd rfl (Or.inl rfl) (pe_ix ix_list (pv 1) (pv 2) (fun _ _ => rfl)))
      (pss_cons (ps_set (i := 4) scBn.nd rfl (Or.inl rfl) (pe_lst
        (pa_cons (pe_callTy call_list_of (by rfl) T.list (by decide +kernel) (pa_cons (pv 3) pa_nil))
        (pa_cons (pe_slice sl_tup (pv 3) po_none (po_some pe_int))
        (pa_cons (pe_op op_catT (pv 3) (pe_slice sl_tup (pv 3) po_none (po_some pe_int)))
        (pa_cons (pe_back2 (pv 3))
        (pa_cons pe_non (pa_cons pe_int
        (pa_cons (pe_join pe_str (pv 3))
        (pa_cons (pe_tup (pa_cons (pe_ix ix_tup (pv 3) pe_int (fun _ _ => rfl)) (pa_cons pe_non pa_nil)))
        (pa_cons (pe_tup (pa_cons (pe_ix ix_tup (pv 3) pe_int (fun _ _ => rfl)) (pa_cons pe_str pa_nil)))
        (pa_cons (pe_tup (pa_cons pe_str (pa_cons (pe_ix ix_tup (pv 3) pe_int (fun _ _ => rfl)) pa_nil)))
        (pa_cons (pe_tup (pa_cons (pe_lst pa_nil) (pa_cons pe_dnewK pa_nil))) pa_nil)))))))))))))
      (pss_cons (ps_set (i := 5) scBn.nd rfl (Or.inl rfl) (pe_lst
        (pa_cons pe_non (pa_cons pe_bl (pa_cons pe_int (pa_cons pe_str (pa_cons (pe_lst pa_nil) (pa_cons pe_dnewK (pa_cons (pe_tup pa_nil)
        (pa_cons (pe_imp (t' := tOneA C) (pe_make mI FI (hr.mono (by decide)) rfl D.mgC bI .nil pass0 (pa_cons (show PE _ _ (tDisp (trB oneA)) from pe_disp (pps_cons pe_str crow0 pps_nil) (by rfl) (by rfl) (fun z => by cases z) (by show 1 ≤ 15; decide)) (pa_cons pe_str pa_nil))) ?one)
        (pa_cons (pe_callTy call_tuple_of (by rfl) T.tuple (by decide +kernel) (pa_cons (pv 1) pa_nil))
        (pa_cons (pe_op op_cat (pv 1) (pe_slice sl_list (pv 1) (po_some (pe_un un_neg pe_int)) po_none))
        (pa_cons (pe_op op_cat (pe_slice sl_list (pv 1) po_none (po_some pe_int)) (pv 1))
        (pa_cons (pe_lst (pa_cons (pv 1) pa_nil))
        (pa_cons (pe_op op_cat (pv 1) (pe_lst (pa_cons pe_non pa_nil)))
        (pa_cons (pe_op op_cat (pe_lst (pa_cons pe_non pa_nil)) (pv 1)) pa_nil))))))))))))))))
      (pss_cons (ps_set (i := 5) scBn.nd rfl (Or.inl rfl) (pe_op op_cat (pe_op op_cat (pv 5) (pe_lc (own := [("_law_one", 6)]) (g := gName 6) (tt := tYes) (te := tBtw p L) rfl scBn.nd (pi_list (pv 4))
          (blkOk_by (N := bnN) (sc := defScope sBent51) (by decide +kernel)) (fun _ _ _ _ _ => pg_name (i := 6) scBn.nd rfl (Or.inl rfl)) (fun _ _ _ _ _ => pts_nil)
          (fun _ _ _ _ _ => pe_imp (t' := tBtw p L) (pe_op op_cat (pe_op op_cat (pe_slice sl_list (pv 1) po_none (po_some (pv 2))) (pe_lst (pa_cons (pv 6) pa_nil))) (pe_slice sl_list (pv 1) (po_some (pe_op op_add (pv 2) pe_int)) po_none)) ?btw)))
        (pe_lst (pa_cons (pe_callTy (X6.call_dictT rfl (by have := hr.un; show (A.deeper _).units + 2 < cLine; omega)) (by rfl) T.dict (by decide +kernel) (pa_cons (pe_lc (own := [("_law_one", 6)]) (g := gName 6) (tt := tYes) (te := tTup (tCons (tVar 6) (tCons (tC (.int 0)) tNil))) rfl scBn.nd (pi_list (pv 1))
          (blkOk_by (N := bnN) (sc := defScope sBent51) (by decide +kernel)) (fun _ _ _ _ _ => pg_name (i := 6) scBn.nd rfl (Or.inl rfl)) (fun _ _ _ _ _ => pts_nil) (fun _ _ _ _ _ => pe_tup (pa_cons (pv 6) (pa_cons pe_int pa_nil)))) pa_nil)) pa_nil))))
      (pss_one (ps_ret (pe_op op_cat (pv 5) (pe_op op_rep (pe_lst (pa_cons (pe_revL (pv 1)) pa_nil)) (pe_callTy call_int1 (by rfl) T.int (by decide +kernel) (pa_cons (pe_cmpR op_gt (pe_callB call_len_seq (by rfl) T.len PySem.boot_len (pa_cons (pv 1) pa_nil)) pe_int (nomark _)) pa_nil)))))))))), ?_⟩
    case one =>
      intro σ H Q q
      dsimp only [tMake, tCons, tC, tNil]
      refine disp_book (bk := oneA) (by decide +kernel) (by decide) fun G4 bb s34 nb hb => ?_
      exact fun x dx hx hdx _ => make_ok hb oneA_ok (fun G5 y s45 nq hd _ => q G5 y (Same.trans s34 s45) (s34.free nq) hd) x dx hx hdx
    case btw =>
      rintro σ H Q ⟨v0, v3, v4, v5, us, i, o, rfl, hL, l5, hp, q⟩
      refine ⟨_, rfl, _, rfl, i, rfl, L, us, rfl, SqL.of hL, fun A1 h1 => ?_⟩
      have s1 := Same.new (o := .lst (cutV us none (some i))) h1
      have e1 : (L2.upd H A1 (.lst (cutV us none (some i)))) A1 = some (.lst (cutV us none (some i))) := upd_same
      generalize L2.upd H A1 (.lst (cutV us none (some i))) = H1 at s1 e1 ⊢
      refine ⟨_, rfl, by show 1 ≤ sizeLine; decide, fun A2 h2 => ?_⟩
      have s2 := Same.new (o := .lst [o]) h2
      have e2 : (L2.upd H1 A2 (.lst [o])) A2 = some (.lst [o]) := upd_same
      generalize L2.upd H1 A2 (.lst [o]) = H2 at s2 e2 ⊢
      have c1 := cutV_len (us := us) (lo := none) (hi := some i)
      have c2 := cutV_len (us := us) (lo := some (i + 1)) (hi := none)
      refine ⟨A1, A2, _, _, rfl, rfl, s2 _ _ e1, e2, by rw [List.length_singleton, sizeLine_eq]; omega, fun A3 h3 => ?_⟩
      have s3 := Same.new (o := .lst (cutV us none (some i) ++ [o])) h3
      have e3 : (L2.upd H2 A3 (.lst (cutV us none (some i) ++ [o]))) A3 = some (.lst (cutV us none (some i) ++ [o])) := upd_same
      generalize L2.upd H2 A3 (.lst (cutV us none (some i) ++ [o])) = H3 at s3 e3 ⊢
      have s13 := Same.trans s1 (Same.trans s2 s3)
      refine ⟨_, rfl, ⟨_, rfl, _, _, rfl, rfl, ⟨i + 1, rfl, L, us, rfl, SqL.of (s13 _ _ hL), fun A4 h4 => ?_⟩⟩⟩
      have s4 := Same.new (o := .lst (cutV us (some (i + 1)) none)) h4
      have e4 : (L2.upd H3 A4 (.lst (cutV us (some (i + 1)) none))) A4 = some (.lst (cutV us (some (i + 1)) none)) := upd_same
      generalize L2.upd H3 A4 (.lst (cutV us (some (i + 1)) none)) = H4 at s4 e4 ⊢
      refine ⟨A3, A4, _, _, rfl, rfl, s4 _ _ e3, e4, by rw [List.length_append, List.length_singleton, sizeLine_eq]; omega, fun A5 h5 => ?_⟩
      have s14 := Same.trans s13 s4
      refine q _ A5 _ (Same.trans s14 (Same.new h5)) (s14.free h5) upd_same (by rw [List.length_append, List.length_append, List.length_singleton]; omega) fun u hu => ?_
      rcases List.mem_append.mp hu with hu | hu
      · rcases List.mem_append.mp hu with hu | hu
        · exact .inl (cutV_in hu)
        · exact .inr (List.mem_singleton.mp hu)
      · exact .inl (cutV_in hu)
    have hL := cut_le _ _ hLc
    have lu := hA.len
    have l1 : 1 ≤ ls.length := List.length_pos_iff.mpr ne
    have nLp : L ≠ p := fun e => (cut_some hLc).1 (by simp [e])
    refine ⟨_, rfl, _, rfl, L, _, rfl, .inl (SqL.of hL), p, _, t, rfl, hp, by omega, by omega, by omega, fun r t' o r0 rm tt hp1 => ?_⟩
    obtain ⟨n, rfl⟩ : ∃ n : Nat, r = n := ⟨r.toNat, by omega⟩
    have b0 := But.upd p H o
    have cs0 : cut [p] (L2.upd H p o) = cut [p] H := cut_upd (by simp)
    rw [← cs0] at hLc hA
    have hpn : H p ≠ none := fun e => by obtain ⟨o', e'⟩ := hp.some; rw [e] at e'; cases e'
    generalize L2.upd H p o = H0 at hp1 b0 cs0 hLc hA ⊢
    clear hL
    have hL := cut_le _ _ hLc
    obtain ⟨pg, pb, pz, eop, _⟩ := id hp1
    have ln : n < us.length := by omega
    have hun := List.getElem?_eq_getElem ln
    generalize us[n] = un at hun
    obtain ⟨q, hq, z, rfl, hz⟩ := paired_get hA hun
    have qm := List.mem_of_getElem? hq
    have hz0 := cut_le _ _ hz
    refine ⟨_, rfl, _, rfl, L, us, _, _, rfl, rfl, SqL.of hL, atI_nat (j := n) hun, ?_⟩
    obtain ⟨a, b⟩ := q
    have hz0 : H0 z = some (.tup [.str a, .str b]) := hz0
    have hz : cut [p] H0 z = some (.tup [.str a, .str b]) := hz
    refine ⟨_, rfl, z, _, rfl, .inr (SqT.of hz0), fun A1 h1 => ?_⟩
    have g1 := alloc (p := p) (o := .lst [.str a, .str b]) eop h1
    generalize L2.upd H0 A1 (.lst [.str a, .str b]) = H1 at g1 ⊢
    have O : ItL (cut [p] H1) [.ref A1] := fun u hu => by rw [List.mem_singleton.mp hu]; exact (itv_list (ss := [a, b]) g1.2 (by show 2 ≤ 10000; decide)).1
    have s01 := g1.1
    -- [:1]
    refine ⟨_, rfl, 1, rfl, z, _, rfl, SqT.of (s01 _ _ hz0), by show ¬(HT.sIx 2 0 none = 0 ∧ HT.sIx 2 2 (some 1) = 2); decide, fun A2 h2 => ?_⟩
    have g2 := alloc (p := p) (o := .tup [.str a]) (s01 _ _ eop) h2
    have e2 : L2.upd H1 A2 (.tup (cutV [V.str a, .str b] none (some 1))) = L2.upd H1 A2 (.tup [.str a]) := rfl
    rw [e2]
    generalize L2.upd H1 A2 (.tup [.str a]) = H2 at g2 ⊢
    clear e2
    have O := O.add (cut_same g2.1) (itv_tup (ss := [a]) g2.2 (by show 1 ≤ 10000; decide) (by show 1 ≠ 2; decide)).1
    have s02 := Same.trans s01 g2.1
    -- + [:1]
    refine ⟨_, rfl, _, rfl, 1, rfl, z, _, rfl, SqT.of (s02 _ _ hz0), by show ¬(HT.sIx 2 0 none = 0 ∧ HT.sIx 2 2 (some 1) = 2); decide, fun A3 h3 => ?_⟩
    have g3 := alloc (p := p) (o := .tup [.str a]) (s02 _ _ eop) h3
    have e2 : L2.upd H2 A3 (.tup (cutV [V.str a, .str b] none (some 1))) = L2.upd H2 A3 (.tup [.str a]) := rfl
    rw [e2]
    generalize L2.upd H2 A3 (.tup [.str a]) = H3 at g3 ⊢
    clear e2
    have s03 := Same.trans s02 g3.1
    refine ⟨z, A3, _, _, rfl, rfl, SqT.of (s03 _ _ hz0), SqT.of (cut_le _ _ g3.2), (fun e => by cases e), by show 3 ≤ sizeLine; decide, (fun e => by cases e), fun _ A4 h4 => ?_⟩
    have g4 := alloc (p := p) (o := .tup ([.str a, .str b] ++ [.str a])) (s03 _ _ eop) h4
    generalize L2.upd H3 A4 (.tup ([.str a, .str b] ++ [.str a])) = H4 at g4 ⊢
    have O := O.add (cut_same (Same.trans g3.1 g4.1)) (itv_tup (ss := [a, b, a]) g4.2 (by show 3 ≤ 10000; decide) (by show 3 ≠ 2; decide)).1
    have s04 := Same.trans s03 g4.1
    -- [::-1]
    refine ⟨_, rfl, z, _, _, rfl, SqT.of (s04 _ _ hz0), fun A5 h5 => ?_⟩
    have g5 := alloc (p := p) (o := .tup [.str b, .str a]) (s04 _ _ eop) h5
    generalize L2.upd H4 A5 (.tup [.str b, .str a]) = H5 at g5 ⊢
    have O := O.add (cut_same g5.1) (ItV.pair (p := (b, a)) g5.2)
    have s05 := Same.trans s04 g5.1
    have O := O.add (Same.refl _) itv_non.1
    have O := O.add (Same.refl _) (itv_int 5).1
    -- join
    have wq : Wd a ∧ Wd b := wd _ qm
    refine ⟨⟨_, rfl⟩, _, rfl, _, z, [a, b], rfl, rfl, .inr (SqT.of (s05 _ _ hz0)), ?_, ?_⟩
    · have := wq.1.hi
      have := wq.2.hi
      show a.length + (b.length + 0) + 2 * 0 ≤ 16777216
      omega
    have O := O.add (Same.refl _) (itv_str (Txt.join "" [a, b])).1
    -- (a, None)
    refine ⟨_, rfl, z, _, _, _, rfl, rfl, SqT.of (s05 _ _ hz0), atI_nat (j := 0) rfl, by show 2 ≤ sizeLine; decide, fun A6 h6 => ?_⟩
    have g6 := alloc (p := p) (o := .tup [.str a, .non]) (s05 _ _ eop) h6
    generalize L2.upd H5 A6 (.tup [.str a, .non]) = H6 at g6 ⊢
    have O := O.add (cut_same g6.1) (itv_none2 g6.2).1
    have s06 := Same.trans s05 g6.1
    refine ⟨_, rfl, z, _, _, _, rfl, rfl, SqT.of (s06 _ _ hz0), atI_nat (j := 0) rfl, by show 2 ≤ sizeLine; decide, fun A7 h7 => ?_⟩
    have g7 := alloc (p := p) (o := .tup [.str a, .str "zz"]) (s06 _ _ eop) h7
    generalize L2.upd H6 A7 (.tup [.str a, .str "zz"]) = H7 at g7 ⊢
    have O := O.add (cut_same g7.1) (ItV.pair (p := (a, "zz")) g7.2)
    have s07 := Same.trans s06 g7.1
    refine ⟨_, rfl, z, _, _, _, rfl, rfl, SqT.of (s07 _ _ hz0), atI_nat (j := 1) rfl, by show 2 ≤ sizeLine; decide, fun A8 h8 => ?_⟩
    have g8 := alloc (p := p) (o := .tup [.str "zz", .str b]) (s07 _ _ eop) h8
    generalize L2.upd H7 A8 (.tup [.str "zz", .str b]) = H8 at g8 ⊢
    have O := O.add (cut_same g8.1) (ItV.pair (p := ("zz", b)) g8.2)
    have s08 := Same.trans s07 g8.1
    -- ([], {})
    refine ⟨by show 0 ≤ sizeLine; decide, fun A9 h9 => ?_⟩
    have g9 := alloc (p := p) (o := .lst []) (s08 _ _ eop) h9
    generalize L2.upd H8 A9 (.lst []) = H9 at g9 ⊢
    intro A10 h10
    have g10 := alloc (p := p) (o := .dK []) (Same.trans s08 g9.1 _ _ eop) h10
    have n10 : A10 ≠ A9 := fun e => by rw [e, cut_le _ _ g9.2] at h10; cases h10
    generalize L2.upd H9 A10 (.dK []) = H10 at g10 ⊢
    have s010 := Same.trans s08 (Same.trans g9.1 g10.1)
    refine ⟨by show 2 ≤ sizeLine; decide, fun A11 h11 => ?_⟩
    have g11 := alloc (p := p) (o := .tup [.ref A9, .ref A10]) (s010 _ _ eop) h11
    generalize L2.upd H10 A11 (.tup [.ref A9, .ref A10]) = H11 at g11 ⊢
    have s1011 := cut_same (S := [p]) g11.1
    have O := O.add (cut_same (Same.trans g9.1 (Same.trans g10.1 g11.1))) (itv_ld g11.2 (s1011 _ _ (cut_same g10.1 _ _ g9.2)) (s1011 _ _ g10.2) n10).1
    have s011 := Same.trans s010 g11.1
    refine ⟨by show 11 ≤ sizeLine; decide, fun A12 h12 => ?_⟩
    have O : ItL (cut [p] H11) [.ref A1, .ref A2, .ref A4, .ref A5, .non, .int 5, .str (Txt.join "" [a, b]), .ref A6, .ref A7, .ref A8, .ref A11] := O
    have U : ItL (cut [p] H0) us := fun u hu => by
      obtain ⟨z, q, rfl, hz⟩ := ats_mem hA hu
      exact ItV.pair hz
    have g12 := alloc (p := p) (o := .lst [.ref A1, .ref A2, .ref A4, .ref A5, .non, .int 5, .str (Txt.join "" [a, b]), .ref A6, .ref A7, .ref A8, .ref A11]) (s011 _ _ eop) h12
    have O := O.same (cut_same g12.1)
    have s012 := Same.trans s011 g12.1
    obtain ⟨hO, g12⟩ : ItL (cut [p] _) _ ∧ cut [p] _ A12 = some (.lst _) := ⟨O, g12.2⟩
    generalize L2.upd H11 A12 (.lst [.ref A1, .ref A2, .ref A4, .ref A5, .non, .int 5, .str (Txt.join "" [a, b]), .ref A6, .ref A7, .ref A8, .ref A11]) = H12 at O g12 s012 hO ⊢
    have lO : [V.ref A1, .ref A2, .ref A4, .ref A5, .non, .int 5, .str (Txt.join "" [a, b]), .ref A6, .ref A7, .ref A8, .ref A11].length = 11 := rfl
    generalize [V.ref A1, .ref A2, .ref A4, .ref A5, .non, .int 5, .str (Txt.join "" [a, b]), .ref A6, .ref A7, .ref A8, .ref A11] = os at O g12 hO lO ⊢
    clear O
    clear h1 h2 h3 h4 h5 h6 h7 h8 h9 h10 h11 h12 n10 s1011
    have eo2 := s012 _ _ eop
    have hL2 := s012 _ _ hL
    have hLc2 := cut_same (S := [p]) s012 _ _ hLc
    have U2 := U.same (cut_same (S := [p]) s012)
    have hA2 := hA.same (cut_same (S := [p]) s012)
    clear s01 s02 s03 s04 s05 s06 s07 s08 s010 s011 g1 g2 g3 g4 g5 g6 g7 g8 g9 g10 g11
    -- the second list
    have W : VlL K C (cut [p] H12) [.non, .bl true, .int 0, .str "table"] := fun u hu => by
      rcases List.mem_cons.mp hu with e | hu
      · rw [e]; exact vl_leaf Leaf.non
      rcases List.mem_cons.mp hu with e | hu
      · rw [e]; exact vl_leaf (Leaf.bl true)
      rcases List.mem_cons.mp hu with e | hu
      · rw [e]; exact vl_leaf (Leaf.int 0)
      · rw [List.mem_singleton.mp hu]; exact vl_leaf (Leaf.str _)
    refine ⟨by show 0 ≤ sizeLine; decide, fun B1 h1 => ?_⟩
    have g1 := alloc (p := p) (o := .lst []) eo2 h1
    generalize L2.upd H12 B1 (.lst []) = G1 at g1 ⊢
    have W := W.add (cut_same g1.1) (vl_its (C := C) g1.2 (Nat.zero_le _) fun u hu => by cases hu)
    have s1 := g1.1
    intro B2 h2
    have g2 := alloc (p := p) (o := .dK []) (s1 _ _ eo2) h2
    generalize L2.upd G1 B2 (.dK []) = G2 at g2 ⊢
    have W := W.add (cut_same g2.1) (vl_emptyD (C := C) g2.2)
    have s2 := Same.trans s1 g2.1
    refine ⟨by show 0 ≤ sizeLine; decide, fun B3 h3 => ?_⟩
    have g3 := alloc (p := p) (o := .tup []) (s2 _ _ eo2) h3
    generalize L2.upd G2 B3 (.tup []) = G3 at g3 ⊢
    have W := W.add (cut_same g3.1) (vl_tup (C := C) (ps := []) g3.2 .nil (Nat.zero_le _))
    have s3 := Same.trans s2 g3.1
    -- the desk
    intro G5 q s35 nq hd
    have W := W.add (cut_same s35) (vl_desk DC (hd.but (T := p) (fun c o nc e => by rw [cut_out (by simpa using nc)]; exact e) (s35 _ _ (s3 _ _ eo2))) oneA_ok)
    have s5 := Same.trans s3 s35
    -- tuple(table)
    refine ⟨_, rfl, L, us, rfl, .inl ⟨SqL.of (s5 _ _ hL2), fun B6 h6 => ?_⟩⟩
    have g6 := alloc (p := p) (o := .tup us) (s5 _ _ eo2) h6
    generalize L2.upd G5 B6 (.tup us) = G6 at g6 ⊢
    have s6 := Same.trans s5 g6.1
    have W := W.add (cut_same g6.1) (vl_tup (C := C) g6.2 (hA2.same (cut_same s6)) (by omega))
    -- table + table[-1:]
    refine ⟨_, rfl, _, rfl, 1, rfl, -1, rfl, L, us, rfl, SqL.of (s6 _ _ hL2), fun B7 h7 => ?_⟩
    have cl1 := cutV_len (us := us) (lo := some (-1)) (hi := none)
    have cl2 := cutV_len (us := us) (lo := none) (hi := some 1)
    have g7 := alloc (p := p) (o := .lst (cutV us (some (-1)) none)) (s6 _ _ eo2) h7
    generalize L2.upd G6 B7 (.lst (cutV us (some (-1)) none)) = G7 at g7 ⊢
    have s7 := Same.trans s6 g7.1
    refine ⟨L, B7, _, _, rfl, rfl, s7 _ _ hL2, cut_le _ _ g7.2, by rw [sizeLine_eq]; omega, fun B8 h8 => ?_⟩
    have g8 := alloc (p := p) (o := .lst (us ++ cutV us (some (-1)) none)) (s7 _ _ eo2) h8
    generalize L2.upd G7 B8 (.lst (us ++ cutV us (some (-1)) none)) = G8 at g8 ⊢
    have s8 := Same.trans s7 g8.1
    have W := W.add (cut_same (Same.trans g7.1 g8.1)) (vl_its (C := C) g8.2 (by rw [List.length_append]; omega) ((U2.same (cut_same s8)).app fun u hu => U2.same (cut_same s8) u (cutV_in hu)))
    -- table[:1] + table
    refine ⟨_, rfl, 1, rfl, L, us, rfl, SqL.of (s8 _ _ hL2), fun B9 h9 => ⟨_, rfl, ?_⟩⟩
    have g9 := alloc (p := p) (o := .lst (cutV us none (some 1))) (s8 _ _ eo2) h9
    generalize L2.upd G8 B9 (.lst (cutV us none (some 1))) = G9 at g9 ⊢
    have s9 := Same.trans s8 g9.1
    refine ⟨B9, L, _, _, rfl, rfl, cut_le _ _ g9.2, s9 _ _ hL2, by rw [sizeLine_eq]; omega, fun B10 h10 => ?_⟩
    have g10 := alloc (p := p) (o := .lst (cutV us none (some 1) ++ us)) (s9 _ _ eo2) h10
    generalize L2.upd G9 B10 (.lst (cutV us none (some 1) ++ us)) = G10 at g10 ⊢
    have s10 := Same.trans s9 g10.1
    have W := W.add (cut_same (Same.trans g9.1 g10.1)) (vl_its (C := C) g10.2 (by rw [List.length_append]; omega) (ItL.app (fun u hu => U2.same (cut_same s10) u (cutV_in hu)) (U2.same (cut_same s10))))
    -- [table]
    refine ⟨_, rfl, by show 1 ≤ sizeLine; decide, fun B11 h11 => ?_⟩
    have g11 := alloc (p := p) (o := .lst [.ref L]) (s10 _ _ eo2) h11
    generalize L2.upd G10 B11 (.lst [.ref L]) = G11 at g11 ⊢
    have s11 := Same.trans s10 g11.1
    have W := W.add (cut_same g11.1) (vl_its (C := C) g11.2 (by show 1 ≤ 10000; decide) fun u hu => by
      rw [List.mem_singleton.mp hu]
      exact (itv_lot ⟨L, us, rfl, cut_same s11 _ _ hLc2, hA2.same (cut_same s11)⟩ (by omega)).1)
    -- table + [None]
    refine ⟨_, rfl, by show 1 ≤ sizeLine; decide, fun B12 h12 => ?_⟩
    have g12 := alloc (p := p) (o := .lst [.non]) (s11 _ _ eo2) h12
    generalize L2.upd G11 B12 (.lst [.non]) = G12 at g12 ⊢
    have s12 := Same.trans s11 g12.1
    refine ⟨L, B12, _, _, rfl, rfl, s12 _ _ hL2, cut_le _ _ g12.2, by show us.length + 1 ≤ sizeLine; rw [sizeLine_eq]; omega, fun B13 h13 => ?_⟩
    have g13 := alloc (p := p) (o := .lst (us ++ [.non])) (s12 _ _ eo2) h13
    generalize L2.upd G12 B13 (.lst (us ++ [.non])) = G13 at g13 ⊢
    have s13 := Same.trans s12 g13.1
    have W := W.add (cut_same (Same.trans g12.1 g13.1)) (vl_its (C := C) g13.2 (by rw [List.length_append]; show us.length + 1 ≤ 10000; omega) ((U2.same (cut_same s13)).add (Same.refl _) itv_non.1))
    -- [None] + table
    refine ⟨by show 1 ≤ sizeLine; decide, fun B14 h14 => ⟨_, rfl, ?_⟩⟩
    have g14 := alloc (p := p) (o := .lst [.non]) (s13 _ _ eo2) h14
    generalize L2.upd G13 B14 (.lst [.non]) = G14 at g14 ⊢
    have s14 := Same.trans s13 g14.1
    refine ⟨B14, L, _, _, rfl, rfl, cut_le _ _ g14.2, s14 _ _ hL2, by show 1 + us.length ≤ sizeLine; rw [sizeLine_eq]; omega, fun B15 h15 => ?_⟩
    have g15 := alloc (p := p) (o := .lst ([.non] ++ us)) (s14 _ _ eo2) h15
    generalize L2.upd G14 B15 (.lst ([.non] ++ us)) = G15 at g15 ⊢
    have s15 := Same.trans s14 g15.1
    have W := W.add (cut_same (Same.trans g14.1 g15.1)) (vl_its (C := C) g15.2 (by rw [List.length_append]; show 1 + us.length ≤ 10000; omega) (ItL.app (fun u hu => by rw [List.mem_singleton.mp hu]; exact itv_non.1) (U2.same (cut_same s15))))
    have W : VlL K C (cut [p] G15) [.non, .bl true, .int 0, .str "table", .ref B1, .ref B2, .ref B3, .ref q, .ref B6, .ref B8, .ref B10, .ref B11, .ref B13, .ref B15] := W
    refine ⟨by show 14 ≤ sizeLine; decide, fun B16 h16 => ?_⟩
    have g16 := alloc (p := p) (o := .lst [.non, .bl true, .int 0, .str "table", .ref B1, .ref B2, .ref B3, .ref q, .ref B6, .ref B8, .ref B10, .ref B11, .ref B13, .ref B15]) (s15 _ _ eo2) h16
    have lW : [V.non, .bl true, .int 0, .str "table", .ref B1, .ref B2, .ref B3, .ref q, .ref B6, .ref B8, .ref B10, .ref B11, .ref B13, .ref B15].length = 14 := rfl
    have W := W.same (cut_same (S := [p]) g16.1)
    have s16 := Same.trans s15 g16.1
    replace g16 := g16.2
    generalize L2.upd G15 B16 (.lst [.non, .bl true, .int 0, .str "table", .ref B1, .ref B2, .ref B3, .ref q, .ref B6, .ref B8, .ref B10, .ref B11, .ref B13, .ref B15]) = G16 at g16 W s16 ⊢
    generalize [V.non, .bl true, .int 0, .str "table", .ref B1, .ref B2, .ref B3, .ref q, .ref B6, .ref B8, .ref B10, .ref B11, .ref B13, .ref B15] = ws at g16 W lW ⊢
    clear h1 h2 h3 nq h6 h7 h8 h9 h10 h11 h12 h13 h14 h15 h16 g1 g2 g3 g6 g7 g8 g9 g10 g11 g12 g13 g14 g15 hd s1 s2 s3 s35 s5 s6 s7 s8 s9 s10 s11 s12 s13 s14 s15
    have hp16 := s16 _ _ eo2
    have hL16 := s16 _ _ hL2
    refine ⟨_, rfl, _, rfl, A12, rfl, ⟨_, SqL.of (s16 _ _ (cut_le _ _ g12))⟩, fun M hM => ?_⟩
    have nMp : M ≠ p := fun e => by rw [e, hp16] at hM; cases hM
    have hb : Same (cut [p] H12) (cut [M, p] G16) := Same.trans (cut_same s16) (cut_hide hM)
    refine lc_list (K := K) (a := A12) (xs := os) (fun i H' => Same G16 H' ∧ ∃ xs, H' M = some (.lst xs) ∧ xs.length = i ∧ VlL K C (cut [M, p] H') xs) ⟨Same.new hM, [], upd_same, rfl, fun u hu => by cases hu⟩ (fun i H' _ z => SqL.of (z.1 _ _ (s16 _ _ (cut_le _ _ g12)))) ?_ ?_
    · rintro i v H2 hv ⟨sm, xs, hM2, lx, W2⟩
      have li : i < os.length := (List.getElem?_eq_some_iff.mp hv).1
      refine ⟨rfl, ?_⟩
      dsimp only [tYes]
      rw [if_pos rfl]
      refine ⟨_, _, _, _, us, _, v, rfl, sm _ _ hL16, by omega, (by rw [sm _ _ hp16]; intro e; cases e), fun H3 R ys s3 nR hR lR sub => ?_⟩
      have nRM : R ≠ M := fun e => by rw [e, hM2] at nR; cases nR
      have nRp : R ≠ p := fun e => by rw [e, sm _ _ hp16] at nR; cases nR
      have bs : Same (cut [p] H12) (cut [M, p] H3) := Same.trans hb (cut_same (Same.trans sm s3))
      refine ⟨xs, s3 _ _ hM2, by rw [sizeLine_eq]; omega, fun c o e => ?_, xs ++ [.ref R], upd_same, by rw [List.length_append, lx]; rfl, ?_⟩
      · rw [upd_ne (ne_of_none e hM)]; exact s3 _ _ (sm _ _ e)
      · rw [cut_upd (by simp)]
        refine W2.add (cut_same s3) (vl_its (C := C) (H := cut [M, p] H3) (us := ys) (by rw [cut_out (by simp [nRM, nRp])]; exact hR) (by omega) fun u hu => ?_)
        rcases sub u hu with h | h
        · exact (U2 u h).same bs
        · rw [h]; exact (hO v (List.mem_of_getElem? hv)).same bs
    rintro H2 ⟨sm, xs, hM2, lx, W2⟩
    rw [lO] at lx
    have W2 : VlL K C (cut [p] H2) xs := W2.same (cut_mono (by simp))
    have s17 := Same.trans s16 sm
    refine ⟨B16, M, _, _, rfl, rfl, sm _ _ (cut_le _ _ g16), hM2, by rw [sizeLine_eq]; omega, fun E1 hE1 => ?_⟩
    have g1 := alloc (p := p) (o := .lst (ws ++ xs)) (sm _ _ hp16) hE1
    have W3 := ((W.same (cut_same (S := [p]) sm)).app W2).same (cut_same g1.1)
    generalize L2.upd H2 E1 (.lst (ws ++ xs)) = H3 at g1 W3 ⊢
    have s18 := Same.trans s17 g1.1
    -- the dict
    refine ⟨_, rfl, L, rfl, ⟨_, SqL.of (s18 _ _ hL2)⟩, fun N hN => ?_⟩
    have hp3 := s18 _ _ eo2
    have nNp : N ≠ p := fun e => by rw [e, hp3] at hN; cases hN
    refine lc_list (K := K) (a := L) (xs := us) (fun j H' => Same H3 H' ∧ ∃ (ts : List Addr) (es : List (Addr × List Key × V)), H' N = some (.lst (ts.map V.ref)) ∧ X6.PrT (cut [N] H') ts es ∧ es.map (·.2) = ZT (ls.take j)) ⟨Same.new hN, [], [], upd_same, .nil, rfl⟩ (fun i H' _ z => SqL.of (z.1 _ _ (s18 _ _ hL2))) ?_ ?_
    · rintro j v H4 hv ⟨sm4, ts, es, hN2, hT, he⟩
      obtain ⟨q, hq, z, rfl, hz⟩ := paired_get hA2 hv
      have hz4 : H4 z = some (.tup [.str q.1, .str q.2]) := sm4 _ _ (s18 _ _ (cut_le _ _ hz))
      have lts : ts.length ≤ 10000 := by
        have h1 : ts.length = es.length := paired_len hT
        have h2 := congrArg List.length he
        rw [ZT, List.length_map, List.length_map, List.length_take] at h2
        omega
      refine ⟨rfl, ?_⟩
      dsimp only [tYes]
      rw [if_pos rfl]
      refine ⟨_, rfl, by show 2 ≤ sizeLine; decide, fun T1 hT1 => ?_⟩
      have g := Same.new (o := .tup [.ref z, .int 0]) hT1
      have nT : T1 ≠ N := fun e => by rw [e, hN2] at hT1; cases hT1
      have nz : z ≠ N := fun e => by rw [e, hN2] at hz4; cases hz4
      refine ⟨_, g _ _ hN2, by rw [List.length_map, sizeLine_eq]; omega, fun c o e => ?_, ts ++ [T1], es ++ [(z, kP q, .int 0)], by rw [upd_same, List.map_append]; rfl, ?_, ?_⟩
      · rw [upd_ne (ne_of_none e hN)]; exact g _ _ (sm4 _ _ e)
      · rw [cut_upd (by simp)]
        exact paired_snoc (paired_imp (fun _ _ ⟨a, b⟩ => ⟨cut_same g _ _ a, cut_same g _ _ b⟩) hT) ⟨by rw [cut_out (by simpa using nT)]; exact upd_same, by rw [cut_out (by simpa using nz)]; exact g _ _ hz4⟩
      · rw [List.map_append, he, take_succ_get hq, ZT, ZT, List.map_append]; rfl
    rintro H4 ⟨sm4, ts, es, hN2, hT, he⟩
    rw [lu, List.take_length] at he
    refine ⟨N, ts, es, rfl, SqL.of hN2, paired_imp (fun _ _ ⟨a, b⟩ => ⟨cut_le _ _ a, cut_le _ _ b⟩) hT, ?_, fun d hd => ?_⟩
    · have : es.map (·.2.1) = (ZT ls).map (·.1) := by rw [← he, List.map_map]; rfl
      rw [this]; exact ZT_nd nd
    rw [he]
    have s19 := Same.trans s18 sm4
    have g2 := alloc (p := p) (o := .dT (ZT ls)) (s19 _ _ eo2) hd
    generalize L2.upd H4 d (.dT (ZT ls)) = H5 at g2 ⊢
    have s20 := Same.trans s19 g2.1
    have W4 := (W3.same (cut_same (Same.trans sm4 g2.1))).add (Same.refl _) (vl_dT (C := C) g2.2 nd (by omega))
    refine ⟨by show 1 ≤ sizeLine; decide, fun E2 hE2 => ?_⟩
    have g3 := alloc (p := p) (o := .lst [.ref d]) (s20 _ _ eo2) hE2
    generalize L2.upd H5 E2 (.lst [.ref d]) = H6 at g3 ⊢
    have s21 := Same.trans s20 g3.1
    have g1' := Same.trans sm4 (Same.trans g2.1 g3.1) _ _ (cut_le _ _ g1.2)
    refine ⟨E1, E2, _, _, rfl, rfl, g1', cut_le _ _ g3.2, by rw [List.length_append, List.length_singleton, sizeLine_eq]; omega, fun E3 hE3 => ?_⟩
    have g4 := alloc (p := p) (o := .lst (ws ++ xs ++ [.ref d])) (s21 _ _ eo2) hE3
    have W5 := W4.same (cut_same (Same.trans g3.1 g4.1))
    have s22 := Same.trans s21 g4.1
    replace g4 := g4.2
    generalize L2.upd H6 E3 (.lst (ws ++ xs ++ [.ref d])) = H7 at g4 W5 s22 ⊢
    have lw : (ws ++ xs ++ [V.ref d]).length = 26 := by rw [List.length_append, List.length_append, lW, lx]; rfl
    generalize ws ++ xs ++ [V.ref d] = rs at g4 W5 lw ⊢
    -- the last one
    refine ⟨_, rfl, _, rfl, L, us, rfl, SqL.of (s22 _ _ hL2), fun F1 hF1 => ?_⟩
    have g5 := alloc (p := p) (o := .lst us.reverse) (s22 _ _ eo2) hF1
    generalize L2.upd H7 F1 (.lst us.reverse) = H8 at g5 ⊢
    have s23 := Same.trans s22 g5.1
    have W6 := W5.same (cut_same g5.1)
    have vr : Vl K C (cut [p] H8) (.ref F1) := vl_its (C := C) g5.2 (by rw [List.length_reverse]; omega) fun u hu => (U2.same (cut_same s23)) u (List.mem_reverse.mp hu)
    refine ⟨by show 1 ≤ sizeLine; decide, fun F2 hF2 => ?_⟩
    have g6 := alloc (p := p) (o := .lst [.ref F1]) (s23 _ _ eo2) hF2
    generalize L2.upd H8 F2 (.lst [.ref F1]) = H9 at g6 ⊢
    have s24 := Same.trans s23 g6.1
    refine ⟨_, rfl, L, us, rfl, .inl (SqL.of (s24 _ _ hL2)), _, _, rfl, rfl, .inr ⟨_, rfl, ?_⟩⟩
    obtain ⟨m, em, lm⟩ : ∃ m : Nat, (if decide ((1 : Int) < (us.length : Nat)) = true then (1 : Int) else 0) = m ∧ m ≤ 1 := by
      by_cases c : decide ((1 : Int) < (us.length : Nat)) = true
      · exact ⟨1, if_pos c, Nat.le_refl _⟩
      · exact ⟨0, if_neg c, Nat.zero_le _⟩
    rw [em]
    refine ⟨F2, _, _, rfl, rfl, cut_le _ _ g6.2, by omega, by omega, by show 1 * (m : Int).toNat ≤ sizeLine; rw [sizeLine_eq]; omega, fun F3 hF3 => ?_⟩
    rw [Int.toNat_natCast]
    have fl : ∀ u ∈ (List.replicate m [V.ref F1]).flatten, u = .ref F1 := fun u hu => by
      obtain ⟨l, hl, hu⟩ := List.mem_flatten.mp hu
      rw [List.eq_of_mem_replicate hl] at hu
      exact List.mem_singleton.mp hu
    have ll : (List.replicate m [V.ref F1]).flatten.length ≤ 1 := by
      rw [List.length_flatten, List.map_replicate, List.sum_replicate_nat]
      show m * 1 ≤ 1
      omega
    generalize (List.replicate m [V.ref F1]).flatten = fs at fl ll ⊢
    have g7 := alloc (p := p) (o := .lst fs) (s24 _ _ eo2) hF3
    generalize L2.upd H9 F3 (.lst fs) = H10 at g7 ⊢
    have s25 := Same.trans s24 g7.1
    have s810 := Same.trans g6.1 g7.1
    refine ⟨E3, F3, _, _, rfl, rfl, s810 _ _ (g5.1 _ _ (cut_le _ _ g4)), cut_le _ _ g7.2, by rw [sizeLine_eq]; omega, fun R hR => ?_⟩
    have g8 := alloc (p := p) (o := .lst (rs ++ fs)) (s25 _ _ eo2) hR
    have s26 := Same.trans s25 g8.1
    have s811 := cut_same (S := [p]) (Same.trans s810 g8.1)
    have sall := Same.trans s012 s26
    refine k _ R (rs ++ fs) t' (fun c o n e => sall _ _ (b0 c o n e)) ?_ (cut_le _ _ g8.2) (by rw [List.length_append]; omega) ((W6.same s811).app fun u hu => by rw [fl u hu]; exact vr.same s811) (hp1.same sall) tt
    have nR := (Same.trans s012 s25).free hR
    by_cases e : R = p
    · rw [e] at nR; rw [nR] at eop; cases eop
    · cases h : H R with
      | none => rfl
      | some o' => rw [b0 R o' e h] at nR; cases nR
end
end D1
end L2
namespace L2
namespace D1
open PySem PySem.Spec PyProof.Rows D2 X5 X6 Dq
def Kp (c : HO → Bool) (H H' : Hp) : Prop := ∀ b o, c o = true → H b = some o → H' b = some o
def noT : HO → Bool
  | .dT _ => false
  | _ => true
def noL : HO → Bool
  | .lst _ => false
  | _ => true
section
variable {c : HO → Bool} {H H' H2 : Hp}
theorem Kp.of (s : Same H H') : Kp c H H' := fun b o _ e => s b o e
theorem Kp.trans (k : Kp c H H') (l : Kp c H' H2) : Kp c H H2 := fun b o h e => l b o h (k b o h e)
theorem kp_upd {a : Addr} {u v : HO} (h : H a = some u) (n : c u = false) : Kp c H (L2.upd H a v) := fun b o e hb => by
  rw [upd_ne fun q => by rw [q, h] at hb; rw [← Option.some.inj hb, n] at e; cases e]; exact hb
theorem kp_cut {a : Addr} {u : HO} (h : H a = some u) (n : c u = false) : Kp c H (cut [a] H) := fun b o e hb => by
  rw [cut_out (by intro q; rw [List.mem_singleton.mp q, h] at hb; rw [← Option.some.inj hb, n] at e; cases e)]; exact hb
theorem Purse.kp {p : Addr} {t : Int} (h : Purse H p t) : Kp noL H (cut [p] H) := let ⟨_, _, _, e, _⟩ := h; kp_cut e rfl
theorem PAt.kp {z : Addr} {p : Pr} (h : PAt H z p) (k : Kp c H H') (n : c (.tup [.str p.1, .str p.2]) = true) : PAt H' z p := k _ _ n h
theorem BookAt.kp {b : Addr} {bk : Bk} (h : BookAt H b bk) (k : Kp c H H') (n1 : ∀ x, c (.dK x) = true) (n2 : ∀ x, c (.tup x) = true) : BookAt H' b bk := by
  obtain ⟨kvs, e, r⟩ := h
  exact ⟨kvs, k _ _ (n1 _) e, paired_imp (fun kv r ⟨e1, t, a, e2, e3, e4⟩ => ⟨e1, t, a, e2, k _ _ (n2 _) e3, k _ _ (n1 _) e4⟩) r⟩
theorem WorldAt.kp {W : Addr} {bk : Bk} {st : Str} (h : WorldAt H W bk st) (k : Kp c H H') (n0 : ∀ x, c (.lst x) = true) (n1 : ∀ x, c (.dK x) = true) (n2 : ∀ x, c (.tup x) = true) : WorldAt H' W bk st := by
  obtain ⟨b, e, r⟩ := h
  exact ⟨b, k _ _ (n0 _) e, r.kp k n1 n2⟩
theorem QrAt.kp {G : Addr} {nx : Pr → List (Str × Pr)} {ns : List Pr} (h : QrAt H G nx ns) (k : Kp c H H') (n0 : ∀ x, c (.dT x) = true) (n1 : ∀ x, c (.dK x) = true) (n2 : ∀ x, c (.tup x) = true) : QrAt H' G nx ns := by
  obtain ⟨kvs, e, r⟩ := h
  exact ⟨kvs, k _ _ (n0 _) e, paired_imp (fun kv n ⟨e1, a, e2, ks, e3, e4⟩ => ⟨e1, a, e2, ks, k _ _ (n1 _) e3, paired_imp (fun kv t ⟨f1, y, f2, f3⟩ => ⟨f1, y, f2, k _ _ (n2 _) f3⟩) e4⟩) r⟩
theorem qr_key {nx : Pr → List (Str × Pr)} : ∀ {kvs : List (List Key × V)} {ns : List Pr}, QRows H nx kvs ns → ∀ {k : List Key} {v : V}, (k, v) ∈ kvs → ∃ n ∈ ns, k = kP n
  | _, _, .nil, _, _, m => by cases m
  | _, _, .cons h t, k, v, m => by
    rcases List.mem_cons.mp m with e | m
    · exact ⟨_, List.mem_cons_self, by rw [← h.1, ← e]⟩
    · obtain ⟨n, hn, e⟩ := qr_key t m
      exact ⟨n, List.mem_cons_of_mem _ hn, e⟩
theorem pl_ats : ∀ {ys : List Addr} {gs : List Pr}, PL H ys gs → Ats H (ys.map V.ref) gs
  | _, _, .nil => .nil
  | _, _, .cons h t => .cons ⟨_, rfl, h⟩ (pl_ats t)
theorem Ats.kp {us : List V} {ps : List Pr} (h : Ats H us ps) (k : Kp c H H') (n2 : ∀ x, c (.tup x) = true) : Ats H' us ps := paired_imp (fun _ _ ⟨z, e, hz⟩ => ⟨z, e, k _ _ (n2 _) hz⟩) h
end
end D1
end L2
namespace L2
namespace D1
open PySem PySem.Spec PyProof.Rows D2 X5 X6 Dq
abbrev sTabs : Stmt := top 60
/-- pairs alone -/
def PrsL (H : Hp) (us : List V) : Prop := ∀ u ∈ us, ∃ z p, u = .ref z ∧ PAt H z p
theorem PrsL.same {H H' : Hp} {us : List V} (h : PrsL H us) (s : Same H H') : PrsL H' us := fun u hu => let ⟨z, p, e, hz⟩ := h u hu; ⟨z, p, e, s _ _ hz⟩
theorem PrsL.app {H : Hp} {us vs : List V} (h : PrsL H us) (g : PrsL H vs) : PrsL H (us ++ vs) := fun x hx => (List.mem_append.mp hx).elim (h x) (g x)
theorem PrsL.one {H : Hp} {z : Addr} {p : Pr} (h : PAt H z p) : PrsL H [.ref z] := fun u hu => ⟨z, p, List.mem_singleton.mp hu, h⟩
theorem PrsL.sub {H : Hp} {us vs : List V} (h : PrsL H us) (s : ∀ v ∈ vs, v ∈ us) : PrsL H vs := fun v hv => h v (s v hv)
/-- a list of pairs, not too long -/
def LotG (H : Hp) (u : V) : Prop := ∃ L us, u = .ref L ∧ H L = some (.lst us) ∧ us.length ≤ 10000 ∧ PrsL H us
theorem LotG.same {H H' : Hp} {u : V} (h : LotG H u) (s : Same H H') : LotG H' u := let ⟨L, us, e, a, b, c⟩ := h; ⟨L, us, e, s _ _ a, b, c.same s⟩
theorem LotG.v {H : Hp} {u : V} (h : LotG H u) : ∃ ls, LotV H u ls ∧ ls.length ≤ 10000 := by
  obtain ⟨L, us, e, a, b, c⟩ := h
  obtain ⟨ps, hp⟩ := ats_of c
  exact ⟨ps, ⟨L, us, e, a, hp⟩, by rw [← hp.len]; exact b⟩
def LotGs (H : Hp) (us : List V) : Prop := ∀ u ∈ us, LotG H u
theorem LotGs.same {H H' : Hp} {us : List V} (h : LotGs H us) (s : Same H H') : LotGs H' us := fun u hu => (h u hu).same s
theorem LotGs.app {H : Hp} {us vs : List V} (h : LotGs H us) (g : LotGs H vs) : LotGs H (us ++ vs) := fun x hx => (List.mem_append.mp hx).elim (h x) (g x)
theorem LotGs.one {H : Hp} {u : V} (h : LotG H u) : LotGs H [u] := fun x hx => by rw [List.mem_singleton.mp hx]; exact h
theorem ats_prs {H : Hp} {us : List V} {ps : Lot51} (h : Ats H us ps) : PrsL H us := fun u hu => ats_mem h hu
def spTabs : Sp := fun vs H Q _ => ∃ (p W1 W2 : Addr) (bk cl : Bk) (st st' : Str) (t : Int), vs = [.ref p, .ref W1, .ref W2] ∧ Purse H p t ∧ WorldAt (cut [p] H) W1 bk st ∧ WorldAt (cut [p] H) W2 cl st' ∧ DOk bk st ∧ DOk cl st' ∧ t < 2 ^ 25 ∧
  ∀ (H' : Hp) (R : Addr) (u0 : V) (us : List V) (ls : Lot51) (t' : Int), But p H H' → H R = none → H' R = some (.lst (u0 :: us)) → us.length ≤ 99 → LotV (cut [p] H') u0 ls → ls ≠ [] → ls.Nodup → ls.length ≤ 4000 → (∀ q ∈ ls, Wd q.1 ∧ Wd q.2) → LotGs (cut [p] H') us → Purse H' p t' → t' ≤ t + 10 → Q (.ref R) H'
section
variable {P : Program} {w : World} {K : PySem.W.Frag} {mg : Str → Option Value} {base : Heap} {C : Addr}
theorem PrsL.kp {c : HO → Bool} {H H' : Hp} {us : List V} (h : PrsL H us) (k : Kp c H H') (n2 : ∀ x, c (.tup x) = true) : PrsL H' us := fun u hu => let ⟨z, p, e, hz⟩ := h u hu; ⟨z, p, e, k _ _ (n2 _) hz⟩
theorem sort_in {H : Hp} {us : List V} (hp : PrsL H us) : ∃ ps : Lot51, Ats H us ps ∧ ∀ {H' : Hp} {ws : List V}, Ats H' ws (srtG Pr ps) → PrsL H' ws ∧ ws.length = us.length := by
  obtain ⟨ps, hps⟩ := ats_of hp
  exact ⟨ps, hps, fun hw => ⟨ats_prs hw, by rw [hw.len, (srtG_perm ps).length_eq, hps.len]⟩⟩
theorem prs_unl {H H0 : Hp} {S p : Addr} {od : Obj} {kvs : List (List Key × V)} {xs ys : List V} {nx : Pr → List (Str × Pr)} {ns : List Pr} (hQ : QRows H0 nx kvs ns) (fz : H S = some (.frz od (.dT kvs))) (hp : H p = some (.lst xs)) (sub : ∀ y ∈ ys, ∃ (k : List Key) (v : V) (q : Addr), (k, v) ∈ kvs ∧ y = .ref q ∧ H q = some (.tup (k.map kV))) : PrsL (cut [p] (L2.upd H S (.dT kvs))) ys := fun y hy => by
  obtain ⟨k, v, q, hk, rfl, hq⟩ := sub y hy
  obtain ⟨n, _, rfl⟩ := qr_key hQ hk
  refine ⟨q, n, rfl, ?_⟩
  rw [PAt, cut_out (by intro e; rw [List.mem_singleton.mp e, hp] at hq; cases hq), upd_ne (fun e => by rw [e, fz] at hq; cases hq)]
  exact hq
/-- what the parts of the def lean on -/
structure Bas (G : Hp) (W1 W2 S z A5 : Addr) (bk cl : Bk) (st st' : Str) (ws : List V) (gs : Lot51) : Prop where
  w1 : WorldAt G W1 bk st
  w2 : WorldAt G W2 cl st'
  hS : QrAt G S (stepP (ordB bk) (ordB cl)) (allP bk cl)
  ez : PAt G z (st, st')
  e5 : G A5 = some (.lst ws)
  aw : Ats G ws gs
theorem Bas.same {G G' : Hp} {W1 W2 S z A5 : Addr} {bk cl : Bk} {st st' : Str} {ws : List V} {gs : Lot51} (h : Bas G W1 W2 S z A5 bk cl st st' ws gs) (s : Same G G') : Bas G' W1 W2 S z A5 bk cl st st' ws gs := ⟨h.w1.same s, h.w2.same s, h.hS.same s, s _ _ h.ez, s _ _ h.e5, h.aw.same s⟩
theorem cutV2_len {us : List V} : (cutV us none (some 2)).length ≤ 2 := by
  unfold cutV
  rw [List.length_take]
  have : HT.sIx us.length us.length (some 2) ≤ 2 := by
    show (if (2 : Int) < 0 then ((2 : Int) + (us.length : Int)).toNat else min (2 : Int).toNat us.length) ≤ 2
    rw [if_neg (by decide)]
    exact Nat.min_le_left _ _
  omega
theorem lotg_in {A : Addr} {G : Hp} {us : List V} (h : G A = some (.lst us)) (l : us.length ≤ 10000) (g : PrsL G us) : LotG G (.ref A) := ⟨A, us, rfl, h, l, g⟩
theorem lotg_of {p A : Addr} {H : Hp} {us : List V} {o' : HO} (hp : H p = some o') (n : H A = none) (l : us.length ≤ 10000) (h : PrsL (cut [p] H) us) : LotG (cut [p] (L2.upd H A (.lst us))) (.ref A) := ⟨A, us, rfl, (alloc hp n).2, l, h.same (cut_new n)⟩
abbrev CLClosedS (P : Program) (w : World) (K : PySem.W.Frag) (mg : Str → Option Value) (base : Heap) := Cal P w K mg base "_law_closed" 1 ["_law_steps", "_law_first"] (spLClosedN stepP)
abbrev tbN : List Str := ["_law_purse_here", "_law_elder", "_law_newer_here", "_law_steps", "_law_first", "_law_near", "_law_pair", "_law_found", "_law_fits_here", "_law_strange", "_law_turn", "_law_more", "_law_gone", "_law_odd", "_law_other"]
theorem scTb : FnScope tbN ["_law_purse_here", "_law_elder", "_law_newer_here"] (defScope sTabs) := ⟨rfl, rfl, rfl, by decide +kernel, rfl, by decide +kernel, by decide +kernel⟩
theorem ok_tabs {f : Addr} {fd : FuncData} (F : Fun K "_law_tables_of" "_law_tables_of" sTabs f fd) (T : Free4 mg) (CP : CLPlain P w K mg base) (CF : CLFits P w K mg base) (CC : CLClosedS P w K mg base) (CO : COne P w K mg base) : FnOk P w K mg base CX0 4 f fd ["_law_purse_here", "_law_elder", "_law_newer_here"] spTabs := by
  refine F.ok scTb (fun vs H Q E h => ?_) (fun cdv A outer s H vs Q E0' hr h => ?_)
  · obtain ⟨p, W1, W2, bk, cl, st, st', t, rfl, _⟩ := h; rfl
  · obtain ⟨p, W1, W2, bk, cl, st, st', t, rfl, hp, hw1, hw2, o1, o2, t1, k⟩ := h
    have hu := hu_of hr
    refine ⟨_, pss_cons (ps_par (i := 3) (j := 4) rfl scTb.nd rfl rfl (by decide) rfl rfl (pa_cons (pe_cal CP (hr.mono (by decide)) rfl (pa_cons (pv 1) (pa_cons (pv 2) pa_nil))) (pa_cons (pe_tup (pa_cons (pe_ix ix_list (pv 1) pe_int (fun _ _ => rfl)) (pa_cons (pe_ix ix_list (pv 2) pe_int (fun _ _ => rfl)) pa_nil))) pa_nil)) (by rfl))
      (pss_cons (ps_set (i := 5) scTb.nd rfl (Or.inr rfl) (pe_callB (cr_sortG (α := Pr) (Room.u9 hr (n := 2 + PySem.W.Datum.depth Pr) (by decide))) (by rfl) T.sorted (by decide +kernel) (pa_cons (pe_cal CC (hr.mono (by decide)) rfl (pa_cons (pv 3) (pa_cons (pv 4) pa_nil))) pa_nil)))
      (pss_cons (ps_par (i := 7) (j := 8) rfl scTb.nd rfl rfl (by decide) rfl rfl (pa_cons (pe_lst (pa_cons (pv 5) (pa_cons (pe_lst (pa_cons (pv 4) pa_nil)) (pa_cons (pe_callB (cr_sortG (α := Pr) (Room.u9 hr (n := 2 + PySem.W.Datum.depth Pr) (by decide))) (by rfl) T.sorted (by decide +kernel) (pa_cons (pe_callTy (call_listT rfl) (by rfl) T.list (by decide +kernel) (pa_cons (pv 3) pa_nil)) pa_nil)) pa_nil))))
          (pa_cons (pe_lock (pe_lc (own := [("_law_pair", 6)]) (g := gName 6) (tt := tB (tCall spLFits [] E0 (tCons (tVar 1) (tCons (tVar 2) (tCons (tVar 6) tNil))))) (te := tVar 6) rfl scTb.nd (pi_keys (pv 3))
            (blkOk_by (N := tbN) (sc := defScope sTabs) (by decide +kernel)) (fun _ _ _ _ _ => pg_name (i := 6) scTb.nd rfl (Or.inl rfl)) (fun _ _ _ _ _ => pts_one (pt_val (pe_cal CF (hr.mono (by decide)) rfl (pa_cons (pv 1) (pa_cons (pv 2) (pa_cons (pv 6) pa_nil)))))) (fun _ _ _ _ _ => pv 6))) pa_nil)) (by rfl))
      (pss_cons (ps_set (i := 7) scTb.nd rfl (Or.inl rfl) (pe_op op_cat (pv 7) (pe_lc (own := [("_law_odd", 13)]) (g := gName 13) (tt := tYes) (te := tCB (Dq.rSort Pr K) (tCons (tOp rCat (tVar 5) (tLst (tCons (tVar 13) tNil))) tNil)) rfl scTb.nd
          (pi_list (pe_lst (pa_cons (pe_tup (pa_cons pe_str (pa_cons pe_str pa_nil))) (pa_cons (pe_tup (pa_cons (pe_ix ix_tup (pv 4) pe_int (fun _ _ => rfl)) (pa_cons pe_str pa_nil))) (pa_cons (pe_tup (pa_cons pe_str (pa_cons (pe_ix ix_tup (pv 4) pe_int (fun _ _ => rfl)) pa_nil))) pa_nil)))))
          (blkOk_by (N := tbN) (sc := defScope sTabs) (by decide +kernel)) (fun _ _ _ _ _ => pg_name (i := 13) scTb.nd rfl (Or.inl rfl)) (fun _ _ _ _ _ => pts_nil)
          (fun _ _ _ _ _ => pe_callB (cr_sortG (α := Pr) (Room.u9 hr (n := 2 + PySem.W.Datum.depth Pr) (by decide))) (by rfl) T.sorted (by decide +kernel) (pa_cons (pe_op op_cat (pv 5) (pe_lst (pa_cons (pv 13) pa_nil))) pa_nil)))))
      (pss_cons (ps_set (i := 9) scTb.nd rfl (Or.inl rfl) (pe_slice sl_list (pe_lock (pe_lc (own := [("_law_pair", 6)]) (g := gName 6) (tt := tTest (tOp (Dq.rNotIn Pr K) (tVar 6) (tVar 5))) (te := tVar 6) rfl scTb.nd (pi_keys (pv 3))
          (blkOk_by (N := tbN) (sc := defScope sTabs) (by decide +kernel)) (fun _ _ _ _ _ => pg_name (i := 6) scTb.nd rfl (Or.inl rfl)) (fun _ _ _ _ _ => pts_one (pt_cmpR (op_ninG (α := Pr) (Room.u9 hr (n := 1 + PySem.W.Datum.depth Pr) (by decide))) (pv 6) (pv 5) (by rfl))) (fun _ _ _ _ _ => pv 6))) po_none (po_some pe_int)))
      (pss_cons (ps_set (i := 7) scTb.nd rfl (Or.inl rfl) (pe_op op_cat (pe_op op_cat (pv 7) (pe_lc (own := [("_law_pair", 6)]) (g := gName 6) (tt := tYes) (te := tLst (tCons (tVar 6) tNil)) rfl scTb.nd (pi_list (pv 9))
          (blkOk_by (N := tbN) (sc := defScope sTabs) (by decide +kernel)) (fun _ _ _ _ _ => pg_name (i := 6) scTb.nd rfl (Or.inl rfl)) (fun _ _ _ _ _ => pts_nil) (fun _ _ _ _ _ => pe_lst (pa_cons (pv 6) pa_nil))))
          (pe_lst (pa_cons (pe_callB (cr_sortG (α := Pr) (Room.u9 hr (n := 2 + PySem.W.Datum.depth Pr) (by decide))) (by rfl) T.sorted (by decide +kernel) (pa_cons (pe_op op_cat (pv 5) (pv 9)) pa_nil)) pa_nil))))
      (pss_cons (ps_expr (pe_bm PySem.F.plainAttrs_list PySem.F.slot_list_append PySem.F.type_list_append mt_append (pv 7) (pa_cons (pe_callB (cr_sortG (α := Pr) (Room.u9 hr (n := 2 + PySem.W.Datum.depth Pr) (by decide))) (by rfl) T.sorted (by decide +kernel) (pa_cons (pv 8) pa_nil)) pa_nil)))
      (pss_cons (ps_for PassesOwn.never rfl (pi_range1 rfl T.range (pa_cons pe_int pa_nil)) (pg_name (i := 10) scTb.nd rfl (Or.inl rfl))
        (pss_cons (ps_set (i := 6) scTb.nd rfl (Or.inl rfl) (pe_cal CO (hr.mono (by decide)) rfl (pa_cons (pv 0) (pa_cons (pe_callTy (call_listT rfl) (by rfl) T.list (by decide +kernel) (pa_cons (pv 3) pa_nil)) pa_nil))))
        (pss_cons (ps_set (i := 11) scTb.nd rfl (Or.inl rfl) (pe_op op_cat (pv 5) (pe_lc (own := [("_law_other", 14)]) (g := gName 14) (tt := tTest (tOp (Dq.rNotIn Pr K) (tVar 14) (tVar 5))) (te := tVar 14) rfl scTb.nd (pi_list (pe_cal CC (hr.mono (by decide)) rfl (pa_cons (pv 3) (pa_cons (pv 6) pa_nil))))
            (blkOk_by (N := tbN) (sc := defScope sTabs) (by decide +kernel)) (fun _ _ _ _ _ => pg_name (i := 14) scTb.nd rfl (Or.inl rfl)) (fun _ _ _ _ _ => pts_one (pt_cmpR (op_ninG (α := Pr) (Room.u9 hr (n := 1 + PySem.W.Datum.depth Pr) (by decide))) (pv 14) (pv 5) (by rfl))) (fun _ _ _ _ _ => pv 14))))
        (pss_cons (ps_set (i := 12) scTb.nd rfl (Or.inr rfl) (pe_cal CO (hr.mono (by decide)) rfl (pa_cons (pv 0) (pa_cons (pv 11) pa_nil))))
        (pss_one (ps_set (i := 7) scTb.nd rfl (Or.inl rfl) (pe_op op_cat (pv 7) (pe_lst
          (pa_cons (pe_callB (cr_sortG (α := Pr) (Room.u9 hr (n := 2 + PySem.W.Datum.depth Pr) (by decide))) (by rfl) T.sorted (by decide +kernel) (pa_cons (pv 11) pa_nil))
          (pa_cons (pe_callB (cr_sortG (α := Pr) (Room.u9 hr (n := 2 + PySem.W.Datum.depth Pr) (by decide))) (by rfl) T.sorted (by decide +kernel) (pa_cons (pe_lc (own := [("_law_other", 14)]) (g := gName 14) (tt := tTest (tOp (Dq.rNe Pr) (tVar 14) (tVar 12))) (te := tVar 14) rfl scTb.nd (pi_list (pv 11))
            (blkOk_by (N := tbN) (sc := defScope sTabs) (by decide +kernel)) (fun _ _ _ _ _ => pg_name (i := 14) scTb.nd rfl (Or.inl rfl)) (fun _ _ _ _ _ => pts_one (pt_cmpR (op_neG (α := Pr) (Room.u9 hr (n := PySem.W.Datum.depth Pr) (by decide))) (pv 14) (pv 12) (by rfl))) (fun _ _ _ _ _ => pv 14)) pa_nil))
          (pa_cons (pe_callB (cr_sortG (α := Pr) (Room.u9 hr (n := 2 + PySem.W.Datum.depth Pr) (by decide))) (by rfl) T.sorted (by decide +kernel) (pa_cons (pe_op op_cat (pv 5) (pe_op op_rep (pe_lst (pa_cons (pv 6) pa_nil)) (pe_callTy call_int1 (by rfl) T.int (by decide +kernel) (pa_cons (pe_cmpR (op_ninG (α := Pr) (Room.u9 hr (n := 1 + PySem.W.Datum.depth Pr) (by decide))) (pv 6) (pv 5) (by rfl)) pa_nil)))) pa_nil)) pa_nil)))))))))))
      (pss_one (ps_ret (pv 7)))))))))), ?_⟩
    have bb := (o1.ord).bb o2.ord
    have ipo : InP (ordB bk) (ordB cl) (st, st') := inP_ord.mpr ⟨o1.st, o2.st⟩
    have la := len_allP (DOk.bb o1 o2)
    refine ⟨_, rfl, _, rfl, W1, W2, bk, cl, st, st', rfl, hw1.same cut_le, hw2.same cut_le, o1, o2, fun H1 S s1 nS hS => ?_⟩
    obtain ⟨b1, hW1, _⟩ := id ((hw1.same cut_le).same s1)
    obtain ⟨b2, hW2, _⟩ := id ((hw2.same cut_le).same s1)
    refine ⟨_, rfl, W1, _, _, _, rfl, rfl, SqL.of hW1, atI_nat (j := 1) rfl, _, rfl, W2, _, _, _, rfl, rfl, SqL.of hW2, atI_nat (j := 1) rfl, by show 2 ≤ sizeLine; decide, fun z hz => ?_⟩
    have g2 := Same.new (o := .tup [.str st, .str st']) hz
    have ez : PAt (L2.upd H1 z (.tup [.str st, .str st'])) z (st, st') := upd_same
    generalize L2.upd H1 z (.tup [.str st, .str st']) = H2 at g2 ez ⊢
    refine ⟨_, _, rfl, ?_⟩
    refine ⟨_, rfl, _, rfl, S, z, ordB bk, ordB cl, allP bk cl, (st, st'), rfl, hS.same g2, ord_all, bb, ez, ipo, fun H3 Pl ys gs s3 nPl hPl hy ra => ?_⟩
    obtain ⟨gnd, g36, ginn, gin0⟩ := gok_nx nx_step bb ipo ra
    refine ⟨Pl, _, gs, rfl, SqL.of hPl, pl_ats hy, fun A5 ws haw hA5 => ?_⟩
    have g4 := Same.new (o := .lst ws) hA5
    have e5 : (L2.upd H3 A5 (.lst ws)) A5 = some (.lst ws) := upd_same
    have s04 := Same.trans s1 (Same.trans g2 (Same.trans s3 g4))
    have nA5 := (Same.trans s1 (Same.trans g2 s3)).free hA5
    have haw4 := haw.same g4
    have ez4 := g4 _ _ (s3 _ _ ez)
    have hS4 := hS.same (Same.trans g2 (Same.trans s3 g4))
    generalize L2.upd H3 A5 (.lst ws) = H4 at g4 e5 s04 haw4 ez4 hS4 ⊢
    clear haw hS hPl hy ez
    have hp4 := hp.same s04
    obtain ⟨pg, pb, pz, eop, _⟩ := id hp4
    have n5p : A5 ≠ p := fun e => by rw [e] at nA5; obtain ⟨o', e'⟩ := hp.some; rw [nA5] at e'; cases e'
    have kp4 := hp4.kp
    have hawc := D1.Ats.kp haw4 kp4 fun _ => rfl
    have ezc := PAt.kp ez4 kp4 rfl
    have hSc := hS4.kp kp4 (fun _ => rfl) (fun _ => rfl) fun _ => rfl
    have e5c : cut [p] H4 A5 = some (.lst ws) := by rw [cut_out (by simpa using n5p)]; exact e5
    have hw1c := hw1.same (cut_same s04)
    have hw2c := hw2.same (cut_same s04)
    have lws : ws.length ≤ 3600 := by rw [haw4.len, (srtG_perm gs).length_eq]; exact g36
    have key : ∀ pr ∈ allP bk cl, InP bk cl pr := fun pr h => by
      rw [allP_eq, mem_pairsT] at h; exact h
    -- the three lists
    refine ⟨_, rfl, _, rfl, by show 1 ≤ sizeLine; decide, fun B1 hB1 => ?_⟩
    have l1 : LotG (cut [p] (L2.upd H4 B1 (.lst [.ref z]))) (.ref B1) := lotg_of eop hB1 (by show 1 ≤ 10000; decide) (.one ezc)
    have g5 := Same.new (o := .lst [.ref z]) hB1
    generalize L2.upd H4 B1 (.lst [.ref z]) = H5 at g5 l1 ⊢
    obtain ⟨kvs, hG, hQ⟩ := id (hS4.same g5)
    have lk : kvs.length ≤ 3600 := by rw [hQ.len]; exact la
    refine ⟨_, rfl, S, kvs, rfl, .inl hG, fun zs B2 hzs hB2 => ?_⟩
    have az := kat_ats hzs hQ
    have lz : (zs.map V.ref).length ≤ 3600 := by rw [az.len]; exact la
    have azc : PrsL (cut [p] H5) (zs.map V.ref) := (ats_prs az).kp (hp4.same g5).kp fun _ => rfl
    have g6 := Same.new (o := .lst (zs.map V.ref)) hB2
    have e6 : (L2.upd H5 B2 (.lst (zs.map V.ref))) B2 = some (.lst (zs.map V.ref)) := upd_same
    generalize L2.upd H5 B2 (.lst (zs.map V.ref)) = H6 at g6 e6 ⊢
    have s46 := Same.trans g5 g6
    obtain ⟨ps6, hps6, so6⟩ := sort_in ((azc.same (cut_same g6)).same cut_le)
    refine ⟨B2, _, ps6, rfl, SqL.of e6, hps6, fun B3 xs hx hB3 => ?_⟩
    obtain ⟨px, lx⟩ := so6 hx
    clear hx so6 hps6
    have l3 : LotG (cut [p] (L2.upd H6 B3 (.lst xs))) (.ref B3) := lotg_of (s46 _ _ eop) hB3 (by omega) (px.kp (hp4.same s46).kp fun _ => rfl)
    have g7 := Same.new (o := .lst xs) hB3
    generalize L2.upd H6 B3 (.lst xs) = H7 at g7 l3 ⊢
    have s47 := Same.trans s46 g7
    refine ⟨by show 3 ≤ sizeLine; decide, fun F hF => ?_⟩
    have g8 := Same.new (o := .lst [.ref A5, .ref B1, .ref B3]) hF
    have eF : (L2.upd H7 F (.lst [.ref A5, .ref B1, .ref B3])) F = some (.lst [.ref A5, .ref B1, .ref B3]) := upd_same
    generalize L2.upd H7 F (.lst [.ref A5, .ref B1, .ref B3]) = H8 at g8 eF ⊢
    have s48 := Same.trans s47 g8
    have lf : LotGs (cut [p] H8) [.ref B1, .ref B3] := (LotGs.one (l1.same (cut_same (Same.trans g6 (Same.trans g7 g8))))).app (LotGs.one (l3.same (cut_same g8)))
    -- those that fit
    have hG8 := (Same.trans g6 (Same.trans g7 g8)) _ _ hG
    refine ⟨S, _, hG8, trivial, fun od => ?_⟩
    have fz : (L2.upd H8 S (.frz od (.dT kvs))) S = some (.frz od (.dT kvs)) := upd_same
    have kl : Kp noT H8 (L2.upd H8 S (.frz od (.dT kvs))) := kp_upd hG8 rfl
    have w1l := ((hw1c.same (cut_same s48)).same cut_le).kp kl (fun _ => rfl) (fun _ => rfl) fun _ => rfl
    have w2l := ((hw2c.same (cut_same s48)).same cut_le).kp kl (fun _ => rfl) (fun _ => rfl) fun _ => rfl
    refine ⟨_, rfl, S, od, rfl, .inr ⟨kvs, fz, fun M hM => ?_⟩⟩
    refine lc_subT hM fz (by rw [sizeLine_eq]; omega) (fun _ => rfl) (fun _ => rfl) (fun k0 v q Hh R mk hq _ sm cont => ?_) fun H9 ys9 sm hM9 sub9 l9 => ?_
    · obtain ⟨pr, hpr, rfl⟩ := qr_key hQ mk
      exact ⟨_, rfl, _, rfl, _, rfl, W1, W2, q, bk, cl, st, st', pr, rfl, w1l.same sm, w2l.same sm, o1, o2, hq, key pr hpr, fun H' s' => ⟨_, rfl, cont _ _ s'⟩⟩
    have fz9 := sm _ _ fz
    have nMS : M ≠ S := fun e => by rw [e, fz9] at hM9; cases hM9
    refine ⟨fz9, _, _, rfl, ?_⟩
    have u9 := Same.unlock hG8 sm
    have p9 := sm _ _ (kl _ _ rfl (s48 _ _ eop))
    have pr9 := prs_unl (p := p) hQ fz9 p9 sub9
    have hM10 : (L2.upd H9 S (.dT kvs)) M = some (.lst ys9) := by rw [upd_ne nMS]; exact hM9
    have bas : Bas (cut [p] H4) W1 W2 S z A5 bk cl st st' ws (srtG Pr gs) := ⟨hw1c, hw2c, hSc, ezc, e5c, hawc⟩
    generalize L2.upd H9 S (.dT kvs) = H10 at u9 pr9 hM10 ⊢
    have s410 := Same.trans s48 u9
    have eF10 := u9 _ _ eF
    have lf10 := lf.same (cut_same (S := [p]) u9)
    have bas := bas.same (cut_same (S := [p]) s410)
    have eop := s410 _ _ eop
    have hp10 := hp4.same s410
    have hG10 := u9 _ _ hG8
    have s010 := Same.trans s04 s410
    clear hw1c hw2c hSc ezc e5c hawc kp4 e5 haw4 ez4 hS4 hG8 fz kl w1l w2l fz9 nMS sm hM9 sub9 p9 u9 eF lf hM hF l1 l3 g5 g6 g7 g8 px lx az azc lz hzs hB1 hB2 hB3 e6 s46 s47 s48 hG hp4 hW1 hW2 n5p nA5 s1 g2 s3 g4 hA5 hz s04 s410
    -- three more
    refine ⟨_, rfl, by show 2 ≤ sizeLine; decide, fun C1 hC1 => ?_⟩
    have q1 := alloc (p := p) (o := .tup [.str "zzzzzzzz", .str "zzzzzzzy"]) eop hC1
    generalize L2.upd H10 C1 (.tup [.str "zzzzzzzz", .str "zzzzzzzy"]) = J1 at q1 ⊢
    have r1 := q1.1
    refine ⟨_, rfl, z, _, _, _, rfl, rfl, SqT.of (cut_le _ _ (cut_same r1 _ _ bas.ez)), atI_nat (j := 0) rfl, by show 2 ≤ sizeLine; decide, fun C2 hC2 => ?_⟩
    have q2 := alloc (p := p) (o := .tup [.str st, .str "zzzzzzzx"]) (r1 _ _ eop) hC2
    generalize L2.upd J1 C2 (.tup [.str st, .str "zzzzzzzx"]) = J2 at q2 ⊢
    have r2 := Same.trans r1 q2.1
    refine ⟨_, rfl, z, _, _, _, rfl, rfl, SqT.of (cut_le _ _ (cut_same r2 _ _ bas.ez)), atI_nat (j := 1) rfl, by show 2 ≤ sizeLine; decide, fun C3 hC3 => ?_⟩
    have q3 := alloc (p := p) (o := .tup [.str "zzzzzzzx", .str st']) (r2 _ _ eop) hC3
    generalize L2.upd J2 C3 (.tup [.str "zzzzzzzx", .str st']) = J3 at q3 ⊢
    have r3 := Same.trans r2 q3.1
    have odd : PrsL (cut [p] J3) [.ref C1, .ref C2, .ref C3] := (PrsL.one (p := ("zzzzzzzz", "zzzzzzzy")) (cut_same (Same.trans q2.1 q3.1) _ _ q1.2)).app ((PrsL.one (p := (st, "zzzzzzzx")) (cut_same q3.1 _ _ q2.2)).app (PrsL.one (p := ("zzzzzzzx", st')) q3.2))
    refine ⟨by show 3 ≤ sizeLine; decide, fun C4 hC4 => ?_⟩
    have q4 := alloc (p := p) (o := .lst [.ref C1, .ref C2, .ref C3]) (r3 _ _ eop) hC4
    generalize L2.upd J3 C4 (.lst [.ref C1, .ref C2, .ref C3]) = J4 at q4 ⊢
    have r4 := Same.trans r3 q4.1
    have odd := odd.same (cut_same q4.1)
    refine ⟨C4, rfl, ⟨_, SqL.of (cut_le _ _ q4.2)⟩, fun M2 hM2 => ?_⟩
    have bJ := bas.same (cut_same r4)
    have pJ := r4 _ _ eop
    have hb : Same (cut [p] J4) (cut [M2, p] J4) := cut_hide hM2
    refine lc_list (K := K) (a := C4) (xs := [.ref C1, .ref C2, .ref C3]) (fun i H' => Same J4 H' ∧ ∃ xs, H' M2 = some (.lst xs) ∧ xs.length = i ∧ LotGs (cut [M2, p] H') xs) ⟨Same.new hM2, [], upd_same, rfl, fun u hu => by cases hu⟩ (fun i H' _ z => SqL.of (z.1 _ _ (cut_le _ _ q4.2))) ?_ ?_
    · rintro i v H2 hv ⟨sm, xs, hX, lx, gx⟩
      have li : i < 3 := (List.getElem?_eq_some_iff.mp hv).1
      refine ⟨rfl, ?_⟩
      dsimp only [tYes]
      rw [if_pos rfl]
      refine ⟨_, rfl, _, rfl, by show 1 ≤ sizeLine; decide, fun D1 hD1 => ?_⟩
      have t1 := Same.new (o := .lst [v]) hD1
      have e1 : (L2.upd H2 D1 (.lst [v])) D1 = some (.lst [v]) := upd_same
      generalize L2.upd H2 D1 (.lst [v]) = H3 at t1 e1 ⊢
      have t13 := Same.trans sm t1
      refine ⟨A5, D1, _, _, rfl, rfl, cut_le _ _ (cut_same t13 _ _ bJ.e5), e1, by rw [sizeLine_eq]; show ws.length + 1 ≤ _; omega, fun D2 hD2 => ?_⟩
      have pv2 : PrsL (cut [p] J4) (ws ++ [v]) := (ats_prs bJ.aw).app fun u hu => by rw [List.mem_singleton.mp hu]; exact odd v (List.mem_of_getElem? hv)
      have t2 := Same.new (o := .lst (ws ++ [v])) hD2
      have e2 : (L2.upd H3 D2 (.lst (ws ++ [v]))) D2 = some (.lst (ws ++ [v])) := upd_same
      generalize L2.upd H3 D2 (.lst (ws ++ [v])) = H4 at t2 e2 ⊢
      have t24 := Same.trans t13 t2
      obtain ⟨ps, hps, so⟩ := sort_in ((pv2.same (cut_same t24)).same cut_le)
      refine ⟨D2, _, ps, rfl, SqL.of e2, hps, fun D3 xs3 hx hD3 => ?_⟩
      obtain ⟨px, lx3⟩ := so hx
      have t3 := Same.new (o := .lst xs3) hD3
      have e3 : (L2.upd H4 D3 (.lst xs3)) D3 = some (.lst xs3) := upd_same
      have nD3M : D3 ≠ M2 := fun e => by rw [e, t2 _ _ (t1 _ _ hX)] at hD3; cases hD3
      have nD3p : D3 ≠ p := fun e => by rw [e, t24 _ _ pJ] at hD3; cases hD3
      have pM : PrsL (cut [M2, p] H4) xs3 := fun u hu => by
        obtain ⟨y, q, eq, hy⟩ := px u hu
        refine ⟨y, q, eq, ?_⟩
        have hy' : H4 y = some (.tup [.str q.1, .str q.2]) := hy
        rw [PAt, cut_out (by
          intro z
          rcases List.mem_cons.mp z with z | z
          · rw [z, t2 _ _ (t1 _ _ hX)] at hy'; cases hy'
          · rw [List.mem_singleton.mp z, t24 _ _ pJ] at hy'; cases hy')]
        exact hy
      have pM := pM.same (cut_same (S := [M2, p]) t3)
      generalize L2.upd H4 D3 (.lst xs3) = H5 at t3 e3 pM ⊢
      have t25 := Same.trans t24 t3
      refine ⟨xs, t3 _ _ (t2 _ _ (t1 _ _ hX)), by rw [sizeLine_eq]; omega, fun c o e => ?_, xs ++ [.ref D3], upd_same, by rw [List.length_append, lx]; rfl, ?_⟩
      · rw [upd_ne (ne_of_none e hM2)]; exact t25 _ _ e
      · rw [cut_upd (by simp)]
        refine (gx.same (cut_same (Same.trans t1 (Same.trans t2 t3)))).app (LotGs.one ⟨D3, xs3, rfl, by rw [cut_out (by simp [nD3M, nD3p])]; exact e3, ?_, pM⟩)
        rw [lx3, List.length_append]; show ws.length + 1 ≤ _; omega
    rintro H11 ⟨sm, xs, hX, lx, gx⟩
    have s1011 := Same.trans r4 sm
    have lx : xs.length = 3 := lx
    have gx := gx.same (cut_mono (S' := [p]) (by simp))
    have bas := bas.same (cut_same s1011)
    refine ⟨F, M2, _, _, rfl, rfl, s1011 _ _ eF10, hX, by rw [lx]; show 6 ≤ sizeLine; decide, fun F2 hF2 => ?_⟩
    have g12 := Same.new (o := .lst ([.ref A5, .ref B1, .ref B3] ++ xs)) hF2
    have lf12 := ((lf10.same (cut_same (S := [p]) s1011)).app gx).same (cut_same (S := [p]) g12)
    have eF12 : (L2.upd H11 F2 (.lst ([.ref A5, .ref B1, .ref B3] ++ xs))) F2 = some (.lst ([.ref A5, .ref B1, .ref B3] ++ xs)) := upd_same
    generalize L2.upd H11 F2 (.lst ([.ref A5, .ref B1, .ref B3] ++ xs)) = H12 at g12 lf12 eF12 ⊢
    have s1012 := Same.trans s1011 g12
    have bas := bas.same (cut_same g12)
    have pr12 := pr9.same (cut_same s1012)
    have hM12 := s1012 _ _ hM10
    have eop := s1012 _ _ eop
    have hp12 := hp10.same s1012
    have hG12 := s1012 _ _ hG10
    have s012 := Same.trans s010 s1012
    have eF12 : H12 F2 = some (.lst (.ref A5 :: ([.ref B1, .ref B3] ++ xs))) := eF12
    have ll12 : ([V.ref B1, .ref B3] ++ xs).length = 5 := by rw [List.length_append, lx]; rfl
    generalize [V.ref B1, .ref B3] ++ xs = fs at lf12 eF12 ll12
    clear pr9 hM10 hp10 hG10 s010 s1012 s1011 g12 hF2 hX gx lx sm hb bJ pJ hM2 r1 r2 r3 r4 q1 q2 q3 q4 odd hC1 hC2 hC3 hC4 lf10 eF10
    -- what cannot be come to
    have e5 := cut_le _ _ bas.e5
    have aw := bas.aw.same cut_le
    refine ⟨S, _, hG12, trivial, fun od2 => ?_⟩
    have fz : (L2.upd H12 S (.frz od2 (.dT kvs))) S = some (.frz od2 (.dT kvs)) := upd_same
    have kl : Kp noT H12 (L2.upd H12 S (.frz od2 (.dT kvs))) := kp_upd hG12 rfl
    have awl := D1.Ats.kp aw kl fun _ => rfl
    refine ⟨_, rfl, S, od2, rfl, .inr ⟨kvs, fz, fun M3 hM3 => ?_⟩⟩
    refine lc_subT hM3 fz (by rw [sizeLine_eq]; omega) (fun _ => rfl) (fun _ => rfl) (fun k0 v q Hh R mk hq _ sm cont => ?_) fun H13 ys13 sm hM13 sub13 l13 => ?_
    · obtain ⟨pr, _, rfl⟩ := qr_key hQ mk
      exact ⟨_, rfl, _, rfl, pr, srtG Pr gs, A5, ws, ⟨q, rfl, hq⟩, rfl, SqL.of (sm _ _ (kl _ _ rfl e5)), awl.same sm, _, rfl, cont _ _ (Same.refl _)⟩
    have fz13 := sm _ _ fz
    have nMS : M3 ≠ S := fun e => by rw [e, fz13] at hM13; cases hM13
    have p13 := sm _ _ (kl _ _ rfl eop)
    have pr13 := prs_unl (p := p) hQ fz13 p13 sub13
    have hM14 : (L2.upd H13 S (.dT kvs)) M3 = some (.lst ys13) := by rw [upd_ne nMS]; exact hM13
    have u13 := Same.unlock hG12 sm
    refine ⟨fz13, 2, rfl, M3, ys13, rfl, SqL.of hM14, fun A9 hA9 => ?_⟩
    generalize L2.upd H13 S (.dT kvs) = H14 at u13 pr13 hM14 hA9 ⊢
    have g15 := alloc (p := p) (o := .lst (cutV ys13 none (some 2))) (u13 _ _ eop) hA9
    have ps9 : PrsL (cut [p] (L2.upd H14 A9 (.lst (cutV ys13 none (some 2))))) (cutV ys13 none (some 2)) := (pr13.same (cut_same g15.1)).sub fun v hv => cutV_in hv
    have l9 := cutV2_len (us := ys13)
    generalize L2.upd H14 A9 (.lst (cutV ys13 none (some 2))) = H15 at g15 ps9 ⊢
    generalize cutV ys13 none (some 2) = s9 at g15 ps9 l9
    have s1215 := Same.trans u13 g15.1
    have e9c := g15.2
    have bas := bas.same (cut_same s1215)
    have eF := s1215 _ _ eF12
    have lf := lf12.same (cut_same s1215)
    have eop := s1215 _ _ eop
    have pr15 := pr12.same (cut_same s1215)
    have hM15 := s1215 _ _ hM12
    have hG15 := s1215 _ _ hG12
    have hp15 := hp12.same s1215
    have s015 := Same.trans s012 s1215
    clear fz kl awl aw e5 fz13 nMS p13 pr13 hM14 u13 g15 hA9 sm hM13 sub13 hM3 eF12 lf12 pr12 hM12 hG12 hp12 s012 s1215
    refine ⟨_, rfl, _, rfl, A9, rfl, ⟨_, SqL.of (cut_le _ _ e9c)⟩, fun M4 hM4 => ?_⟩
    have hb : Same (cut [p] H15) (cut [M4, p] H15) := cut_hide hM4
    refine lc_list (K := K) (a := A9) (xs := s9) (fun i H' => Same H15 H' ∧ ∃ xs, H' M4 = some (.lst xs) ∧ xs.length = i ∧ LotGs (cut [M4, p] H') xs) ⟨Same.new hM4, [], upd_same, rfl, fun u hu => by cases hu⟩ (fun i H' _ z => SqL.of (z.1 _ _ (cut_le _ _ e9c))) ?_ ?_
    · rintro i v H2 hv ⟨sm, xs, hX, lx, gx⟩
      have li : i < s9.length := (List.getElem?_eq_some_iff.mp hv).1
      refine ⟨rfl, ?_⟩
      dsimp only [tYes]
      rw [if_pos rfl]
      refine ⟨_, rfl, by show 1 ≤ sizeLine; decide, fun D1 hD1 => ?_⟩
      have t1 := Same.new (o := .lst [v]) hD1
      have e1 : (L2.upd H2 D1 (.lst [v])) D1 = some (.lst [v]) := upd_same
      have nM : D1 ≠ M4 := fun e => by rw [e, hX] at hD1; cases hD1
      have np : D1 ≠ p := fun e => by rw [e, sm _ _ eop] at hD1; cases hD1
      generalize L2.upd H2 D1 (.lst [v]) = H3 at t1 e1 ⊢
      have t13 := Same.trans sm t1
      refine ⟨xs, t1 _ _ hX, by rw [sizeLine_eq]; omega, fun c o e => ?_, xs ++ [.ref D1], upd_same, by rw [List.length_append, lx]; rfl, ?_⟩
      · rw [upd_ne (ne_of_none e hM4)]; exact t13 _ _ e
      · rw [cut_upd (by simp)]
        refine (gx.same (cut_same t1)).app (LotGs.one (lotg_in (by rw [cut_out (by simp [nM, np])]; exact e1) (by show 1 ≤ 10000; decide) fun u hu => ?_))
        rw [List.mem_singleton.mp hu]
        exact (ps9.same (Same.trans hb (cut_same t13))) v (List.mem_of_getElem? hv)
    rintro H16 ⟨s1516, xs, hX, lx, gx⟩
    have gx := gx.same (cut_mono (S' := [p]) (by simp))
    refine ⟨F2, M4, _, _, rfl, rfl, s1516 _ _ eF, hX, by rw [List.length_cons, ll12, sizeLine_eq]; omega, fun F3 hF3 => ?_⟩
    have g17 := Same.new (o := .lst (.ref A5 :: fs ++ xs)) hF3
    have eF3 : (L2.upd H16 F3 (.lst (.ref A5 :: fs ++ xs))) F3 = some (.lst (.ref A5 :: fs ++ xs)) := upd_same
    have lf17 := ((lf.same (cut_same (S := [p]) s1516)).app gx).same (cut_same (S := [p]) g17)
    generalize L2.upd H16 F3 (.lst (.ref A5 :: fs ++ xs)) = H17 at g17 eF3 lf17 ⊢
    have s1517 := Same.trans s1516 g17
    refine ⟨_, rfl, _, rfl, A5, A9, _, _, rfl, rfl, cut_le _ _ (cut_same s1517 _ _ bas.e5), cut_le _ _ (cut_same s1517 _ _ e9c), by rw [sizeLine_eq]; omega, fun E1 hE1 => ?_⟩
    have pE : PrsL (cut [p] H17) (ws ++ s9) := ((ats_prs bas.aw).app ps9).same (cut_same s1517)
    have g18 := Same.new (o := .lst (ws ++ s9)) hE1
    have eE1 : (L2.upd H17 E1 (.lst (ws ++ s9))) E1 = some (.lst (ws ++ s9)) := upd_same
    have pE := pE.same (cut_same (S := [p]) g18)
    generalize L2.upd H17 E1 (.lst (ws ++ s9)) = H18 at g18 eE1 pE ⊢
    have s1518 := Same.trans s1517 g18
    obtain ⟨ps, hps, so⟩ := sort_in (pE.same cut_le)
    refine ⟨E1, _, ps, rfl, SqL.of eE1, hps, fun E2 xs2 hx hE2 => ?_⟩
    obtain ⟨px, lx2⟩ := so hx
    have lE : LotG (cut [p] (L2.upd H18 E2 (.lst xs2))) (.ref E2) := lotg_of (s1518 _ _ eop) hE2 (by rw [lx2, List.length_append]; omega) (px.kp (hp15.same s1518).kp fun _ => rfl)
    have g19 := Same.new (o := .lst xs2) hE2
    generalize L2.upd H18 E2 (.lst xs2) = H19 at g19 lE ⊢
    refine ⟨by show 1 ≤ sizeLine; decide, fun E3 hE3 => ?_⟩
    have g20 := Same.new (o := .lst [.ref E2]) hE3
    have eE3 : (L2.upd H19 E3 (.lst [.ref E2])) E3 = some (.lst [.ref E2]) := upd_same
    have lE := lE.same (cut_same (S := [p]) g20)
    generalize L2.upd H19 E3 (.lst [.ref E2]) = H20 at g20 eE3 lE ⊢
    have s1720 := Same.trans g18 (Same.trans g19 g20)
    have lf20 := (lf17.same (cut_same (S := [p]) s1720)).app (LotGs.one lE)
    have s1520 := Same.trans s1517 s1720
    refine ⟨F3, E3, _, _, rfl, rfl, s1720 _ _ eF3, eE3, by rw [List.length_append, List.length_cons, ll12, lx, sizeLine_eq]; show 5 + 1 + s9.length + 1 ≤ _; omega, fun F4 hF4 => ?_⟩
    have bas := bas.same (cut_same s1520)
    have pr20 := pr15.same (cut_same s1520)
    have hM20 := s1520 _ _ hM15
    have hG20 := s1520 _ _ hG15
    have hp20 := hp15.same s1520
    have eop := s1520 _ _ eop
    have s020 := Same.trans s015 s1520
    have ll20 : (fs ++ xs ++ [V.ref E2]).length ≤ 8 := by rw [List.length_append, List.length_append, ll12, lx]; show 5 + s9.length + 1 ≤ 8; omega
    have ex : (V.ref A5 :: fs ++ xs ++ [V.ref E2] : List V) = .ref A5 :: (fs ++ xs ++ [.ref E2]) := rfl
    rw [ex]
    generalize fs ++ xs ++ [V.ref E2] = f20 at lf20 ll20 ⊢
    clear ex s1520 s1720 g20 g19 g18 g17 eE3 hE3 lE hE2 px lx2 so hx hps eE1 pE hE1 s1518 s1517 lf17 eF3 hF3 gx hX s1516 hM4 hb s015 hp15 hG15 hM15 pr15 lf eF e9c ps9 l9
    -- those that fit, too
    have nF4 := s020.free hF4
    have nF4p : F4 ≠ p := fun e => by rw [e, eop] at hF4; cases hF4
    have g21 := Same.new (o := .lst (.ref A5 :: f20)) hF4
    have eF4 : (L2.upd H20 F4 (.lst (.ref A5 :: f20))) F4 = some (.lst (.ref A5 :: f20)) := upd_same
    generalize L2.upd H20 F4 (.lst (.ref A5 :: f20)) = H21 at g21 eF4 ⊢
    obtain ⟨ps, hps, so⟩ := sort_in ((pr20.same (cut_same (S := [p]) g21)).same cut_le)
    refine ⟨_, rfl, .inl ⟨rfl, _, SqL.of eF4⟩, _, rfl, M, ys9, ps, rfl, SqL.of (g21 _ _ hM20), hps, fun D1 xs1 hx hD1 => ?_⟩
    obtain ⟨px, lx1⟩ := so hx
    have nD1p : D1 ≠ p := fun e => by rw [e, g21 _ _ eop] at hD1; cases hD1
    have nD1F : D1 ≠ F4 := fun e => by rw [e, eF4] at hD1; cases hD1
    have g22 := Same.new (o := .lst xs1) hD1
    have eD1 : (L2.upd H21 D1 (.lst xs1)) D1 = some (.lst xs1) := upd_same
    generalize L2.upd H21 D1 (.lst xs1) = H22 at g22 eD1 ⊢
    refine ⟨F4, _, _, rfl, rfl, g22 _ _ eF4, by rw [List.length_cons, sizeLine_eq]; omega, ?_⟩
    have k2123 : Kp noL H21 (L2.upd H22 F4 (.lst (.ref A5 :: f20 ++ [.ref D1]))) := (Kp.of g22).trans (kp_upd (g22 _ _ eF4) rfl)
    have s2023 : Same H20 (L2.upd H22 F4 (.lst (.ref A5 :: f20 ++ [.ref D1]))) := fun c o e => by
      rw [upd_ne (ne_of_none e hF4)]; exact g22 _ _ (g21 _ _ e)
    have eD1' : (L2.upd H22 F4 (.lst (.ref A5 :: f20 ++ [.ref D1]))) D1 = some (.lst xs1) := by rw [upd_ne nD1F]; exact eD1
    have eF : (L2.upd H22 F4 (.lst (.ref A5 :: f20 ++ [.ref D1]))) F4 = some (.lst (.ref A5 :: (f20 ++ [.ref D1]))) := upd_same
    generalize L2.upd H22 F4 (.lst (.ref A5 :: f20 ++ [.ref D1])) = H23 at k2123 s2023 eD1' eF ⊢
    have hp23 := hp20.same s2023
    have lD1 : LotG (cut [p] H23) (.ref D1) := lotg_in (by rw [cut_out (by simpa using nD1p)]; exact eD1') (by omega) ((px.kp k2123 fun _ => rfl).kp hp23.kp fun _ => rfl)
    have lf23 := (lf20.same (cut_same (S := [p]) s2023)).app (LotGs.one lD1)
    have ll23 : (f20 ++ [V.ref D1]).length ≤ 9 := by rw [List.length_append]; show _ + 1 ≤ 9; omega
    have bas := bas.same (cut_same s2023)
    have s023 := Same.trans s020 s2023
    generalize f20 ++ [V.ref D1] = f23 at eF lf23 ll23
    clear lD1 eD1' k2123 s2023 eD1 g22 nD1F nD1p px lx1 so hx hps hD1 eF4 g21 hF4 ll20 lf20 s020 eop hp20 hG20 hM20 pr20
    have lws1 : 1 ≤ ws.length := by
      rw [bas.aw.len, (srtG_perm gs).length_eq]; exact List.length_pos_iff.mpr (List.ne_nil_of_mem gin0)
    -- three rounds
    refine ⟨3, rfl, by decide, by decide, for_range (n := 3) (fun i σ H' => ∃ (v6 v9 v10 v11 v12 : Option V) (F : Addr) (us : List V) (t' : Int), σ = [some (.ref p), some (.ref W1), some (.ref W2), some (.ref S), some (.ref z), some (.ref A5), v6, some (.ref F), some (.ref M), v9, v10, v11, v12, none, none] ∧ But p H23 H' ∧ Purse H' p t' ∧ t' ≤ t + 2 * (i : Nat) ∧ H F = none ∧ F ≠ p ∧ H' F = some (.lst (.ref A5 :: us)) ∧ us.length ≤ 9 + 3 * i ∧ LotGs (cut [p] H') us)
      ⟨_, _, _, _, _, F4, f23, t, rfl, But.refl _ _, hp23, by omega, nF4, nF4p, eF, by omega, lf23⟩ ?_ ?_⟩
    · rintro i σ H' hi ⟨v6, v9, v10, v11, v12, F, us, t', rfl, bt, hp', tt, nF, nFp, eF, lu, lf⟩
      have bas := bas.same (cut_but bt (by simp))
      obtain ⟨kv2, hG, hQ⟩ := id (bas.hS.same cut_le)
      refine ⟨_, rfl, _, rfl, S, kv2, rfl, .inl hG, fun zs A hzs hA => ?_⟩
      have az := kat_ats hzs hQ
      have nAp : A ≠ p := fun e => by obtain ⟨o', e'⟩ := hp'.some; rw [e, e'] at hA; cases hA
      have gA := Same.new (o := .lst (zs.map V.ref)) hA
      have eA : (L2.upd H' A (.lst (zs.map V.ref))) A = some (.lst (zs.map V.ref)) := upd_same
      generalize L2.upd H' A (.lst (zs.map V.ref)) = K1 at gA eA ⊢
      have lz : (zs.map V.ref).length = (allP bk cl).length := az.len
      have la1 : 1 ≤ (allP bk cl).length := List.length_pos_iff.mpr (List.ne_nil_of_mem (ord_all _ ipo))
      refine ⟨p, A, _, t', rfl, hp'.same gA, eA, nAp, by omega, by omega, by omega, fun iv v t2 o hv tt2 hp2 => ?_⟩
      obtain ⟨pr, hpr, q, rfl, hq⟩ := paired_get az hv
      have prm := List.mem_of_getElem? hpr
      have hqc : PAt (cut [p] H') q pr := PAt.kp hq hp'.kp rfl
      have ck : cut [p] (L2.upd K1 p o) = cut [p] K1 := cut_upd (by simp)
      have bk1 := But.upd p K1 o
      generalize L2.upd K1 p o = K2 at hp2 ck bk1 ⊢
      have bas2 : Bas (cut [p] K2) W1 W2 S z A5 bk cl st st' ws (srtG Pr gs) := by rw [ck]; exact bas.same (cut_same gA)
      have hq2 : PAt (cut [p] K2) q pr := by rw [ck]; exact cut_same gA _ _ hqc
      have bt2 : But p H' K2 := (But.of gA).trans bk1
      have ipr := inP_ord.mpr (key pr prm)
      refine ⟨_, rfl, _, rfl, _, rfl, S, q, ordB bk, ordB cl, allP bk cl, pr, rfl, bas2.hS.same cut_le, ord_all, bb, cut_le _ _ hq2, ipr, fun K3 Pl ys gs2 s23 nPl hPl hy ra2 => ⟨Pl, rfl, ⟨_, SqL.of hPl⟩, fun M5 hM5 => ?_⟩⟩
      obtain ⟨_, g2l, _, _⟩ := gok_nx nx_step bb ipr ra2
      have ay := pl_ats hy
      have ly := ay.len
      have bas3 := bas2.same (cut_same s23)
      have hp3 := hp2.same s23
      refine lc_sub hM5 hPl (by rw [sizeLine_eq]; omega) (fun _ => rfl) (fun _ => rfl) (fun x Hh R mx sm cont => ?_) fun K4 os s34 hO subO lO => ?_
      · obtain ⟨y, pq, rfl, hy'⟩ := ats_mem ay mx
        exact ⟨_, rfl, _, rfl, pq, srtG Pr gs, A5, ws, ⟨y, rfl, sm _ _ hy'⟩, rfl, SqL.of (sm _ _ (cut_le _ _ bas3.e5)), (bas3.aw.same cut_le).same sm, _, rfl, cont _ _ (Same.refl _)⟩
      have bas4 := bas3.same (cut_same s34)
      refine ⟨A5, M5, _, _, rfl, rfl, cut_le _ _ bas4.e5, hO, by rw [sizeLine_eq]; omega, fun B hB => ?_⟩
      have nBp : B ≠ p := fun e => by obtain ⟨o', e'⟩ := hp3.some; rw [e, s34 _ _ e'] at hB; cases hB
      have pB : PrsL (cut [p] K4) (ws ++ os) := (ats_prs bas4.aw).app ((((ats_prs ay).kp hp3.kp fun _ => rfl).same (cut_same s34)).sub subO)
      have lB : (ws ++ os).length ≤ 7200 := by rw [List.length_append]; omega
      have lB1 : 1 ≤ (ws ++ os).length := by rw [List.length_append]; omega
      have g45 := Same.new (o := .lst (ws ++ os)) hB
      have eB : (L2.upd K4 B (.lst (ws ++ os))) B = some (.lst (ws ++ os)) := upd_same
      generalize L2.upd K4 B (.lst (ws ++ os)) = K5 at g45 eB ⊢
      generalize ws ++ os = ms at pB lB lB1 eB
      have s25 := Same.trans s23 (Same.trans s34 g45)
      refine ⟨_, rfl, _, rfl, p, B, _, t2, rfl, hp2.same s25, eB, nBp, lB1, by omega, by omega, fun iw u t3 o2 hu3 tt3 hp6 => ?_⟩
      obtain ⟨yu, pu, rfl, hyu⟩ := pB u (List.mem_of_getElem? hu3)
      have ck6 : cut [p] (L2.upd K5 p o2) = cut [p] K5 := cut_upd (by simp)
      have bk6 := But.upd p K5 o2
      generalize L2.upd K5 p o2 = K6 at hp6 ck6 bk6 ⊢
      have bt6 : But p K2 K6 := (But.of s25).trans bk6
      have bas6 : Bas (cut [p] K6) W1 W2 S z A5 bk cl st st' ws (srtG Pr gs) := bas2.same (cut_but bt6 (by simp))
      have hq6 : PAt (cut [p] K6) q pr := cut_but bt6 (by simp) _ _ hq2
      have s46c : Same (cut [p] K4) (cut [p] K6) := by rw [ck6]; exact cut_same g45
      have pB6 := pB.same s46c
      have hyu6 := s46c _ _ hyu
      have eB6 : K6 B = some (.lst ms) := bk6 _ _ nBp eB
      have eF6 : K6 F = some (.lst (.ref A5 :: us)) := bt6 _ _ nFp (bt2 _ _ nFp eF)
      have lf6 := (lf.same (cut_but bt2 (by simp))).same (cut_but bt6 (S := [p]) (by simp))
      have b6 : But p H23 K6 := bt.trans (bt2.trans bt6)
      have ht3 : t3 ≤ t + 2 * ((i + 1 : Nat) : Int) := by omega
      obtain ⟨pg6, pb6, pz6, eo6, _⟩ := id hp6
      clear bt6 bk6 ck6 hyu hu3 s25 eB g45 pB bas4 hO subO hB s34 ay hM5 hPl hy ra2 s23 bas2 hq2 bt2 ck bk1 hv hpr hqc hq bas bt hp' eF lf hG hQ az hzs hA gA eA hp2 hp3 bas3 s46c ly lO
      -- sorted(more)
      obtain ⟨ps1, hps1, so1⟩ := sort_in (pB6.same cut_le)
      refine ⟨_, rfl, _, rfl, B, _, ps1, rfl, SqL.of eB6, hps1, fun E1 x1 hx1 hE1 => ?_⟩
      obtain ⟨px1, lx1⟩ := so1 hx1
      have l1 : LotG (cut [p] (L2.upd K6 E1 (.lst x1))) (.ref E1) := lotg_of eo6 hE1 (by omega) (px1.kp hp6.kp fun _ => rfl)
      have g67 := Same.new (o := .lst x1) hE1
      generalize L2.upd K6 E1 (.lst x1) = K7 at g67 l1 ⊢
      -- without one
      refine ⟨_, rfl, B, rfl, ⟨_, SqL.of (g67 _ _ eB6)⟩, fun M6 hM6 => ?_⟩
      refine lc_sub hM6 (g67 _ _ eB6) (by rw [sizeLine_eq]; omega) (fun _ => rfl) (fun _ => rfl) (fun x Hh R mx sm cont => ?_) fun K8 os2 s78 hO2 subO2 lO2 => ?_
      · obtain ⟨y, pq, rfl, hy'⟩ := pB6 x mx
        exact ⟨_, rfl, _, rfl, pq, pu, ⟨y, rfl, sm _ _ (g67 _ _ (cut_le _ _ hy'))⟩, ⟨yu, rfl, sm _ _ (g67 _ _ (cut_le _ _ hyu6))⟩, _, rfl, cont _ _ (Same.refl _)⟩
      have s68 := Same.trans g67 s78
      obtain ⟨ps2, hps2, so2⟩ := sort_in (((pB6.sub subO2).same (cut_same s68)).same cut_le)
      refine ⟨M6, os2, ps2, rfl, SqL.of hO2, hps2, fun E2 x2 hx2 hE2 => ?_⟩
      obtain ⟨px2, lx2⟩ := so2 hx2
      have l2 : LotG (cut [p] (L2.upd K8 E2 (.lst x2))) (.ref E2) := lotg_of (s68 _ _ eo6) hE2 (by omega) (px2.kp (hp6.same s68).kp fun _ => rfl)
      have g89 := Same.new (o := .lst x2) hE2
      generalize L2.upd K8 E2 (.lst x2) = K9 at g89 l2 ⊢
      have s69 := Same.trans s68 g89
      -- with one more
      refine ⟨_, rfl, _, rfl, by show 1 ≤ sizeLine; decide, fun L1 hL1 => ?_⟩
      have g90 := Same.new (o := .lst [.ref q]) hL1
      have eL1 : (L2.upd K9 L1 (.lst [.ref q])) L1 = some (.lst [.ref q]) := upd_same
      generalize L2.upd K9 L1 (.lst [.ref q]) = K10 at g90 eL1 ⊢
      have s610 := Same.trans s69 g90
      have bas10 := bas6.same (cut_same s610)
      have hq10 := cut_same (S := [p]) s610 _ _ hq6
      refine ⟨_, rfl, _, rfl, pr, srtG Pr gs, A5, ws, ⟨q, rfl, cut_le _ _ hq10⟩, rfl, SqL.of (cut_le _ _ bas10.e5), bas10.aw.same cut_le, .inr ⟨_, rfl, ?_⟩⟩
      obtain ⟨m, em, lm⟩ : ∃ m : Nat, (if (!memG pr (srtG Pr gs)) = true then (1 : Int) else 0) = m ∧ m ≤ 1 := by
        by_cases c : (!memG pr (srtG Pr gs)) = true
        · exact ⟨1, if_pos c, Nat.le_refl _⟩
        · exact ⟨0, if_neg c, Nat.zero_le _⟩
      rw [em]
      refine ⟨L1, _, _, rfl, rfl, eL1, by omega, by omega, by show 1 * (m : Int).toNat ≤ sizeLine; rw [sizeLine_eq]; omega, fun L2' hL2 => ?_⟩
      rw [Int.toNat_natCast]
      have fl : ∀ u ∈ (List.replicate m [V.ref q]).flatten, u = .ref q := fun u hu => by
        obtain ⟨l, hl, hu⟩ := List.mem_flatten.mp hu
        rw [List.eq_of_mem_replicate hl] at hu
        exact List.mem_singleton.mp hu
      have ll : (List.replicate m [V.ref q]).flatten.length ≤ 1 := by
        rw [List.length_flatten, List.map_replicate, List.sum_replicate_nat]
        show m * 1 ≤ 1
        omega
      generalize (List.replicate m [V.ref q]).flatten = fs2 at fl ll ⊢
      have g11 := Same.new (o := .lst fs2) hL2
      have eL2 : (L2.upd K10 L2' (.lst fs2)) L2' = some (.lst fs2) := upd_same
      generalize L2.upd K10 L2' (.lst fs2) = K11 at g11 eL2 ⊢
      have s611 := Same.trans s610 g11
      refine ⟨A5, L2', _, _, rfl, rfl, cut_le _ _ (cut_same g11 _ _ bas10.e5), eL2, by rw [sizeLine_eq]; omega, fun L3 hL3 => ?_⟩
      have pL : PrsL (cut [p] K11) (ws ++ fs2) := ((ats_prs bas10.aw).app fun u hu => ⟨q, pr, fl u hu, hq10⟩).same (cut_same g11)
      have g12 := Same.new (o := .lst (ws ++ fs2)) hL3
      have eL3 : (L2.upd K11 L3 (.lst (ws ++ fs2))) L3 = some (.lst (ws ++ fs2)) := upd_same
      generalize L2.upd K11 L3 (.lst (ws ++ fs2)) = K12 at g12 eL3 ⊢
      have s612 := Same.trans s611 g12
      obtain ⟨ps3, hps3, so3⟩ := sort_in ((pL.same (cut_same g12)).same cut_le)
      refine ⟨L3, _, ps3, rfl, SqL.of eL3, hps3, fun E3 x3 hx3 hE3 => ?_⟩
      obtain ⟨px3, lx3⟩ := so3 hx3
      rw [List.length_append] at lx3
      have l3 : LotG (cut [p] (L2.upd K12 E3 (.lst x3))) (.ref E3) := lotg_of (s612 _ _ eo6) hE3 (by omega) (px3.kp (hp6.same s612).kp fun _ => rfl)
      have g13 := Same.new (o := .lst x3) hE3
      generalize L2.upd K12 E3 (.lst x3) = K13 at g13 l3 ⊢
      have s913 := Same.trans g90 (Same.trans g11 (Same.trans g12 g13))
      have s713 := Same.trans s78 (Same.trans g89 s913)
      have s613 := Same.trans g67 s713
      refine ⟨by show 3 ≤ sizeLine; decide, fun E4 hE4 => ?_⟩
      have g14 := Same.new (o := .lst [.ref E1, .ref E2, .ref E3]) hE4
      have eE4 : (L2.upd K13 E4 (.lst [.ref E1, .ref E2, .ref E3])) E4 = some (.lst [.ref E1, .ref E2, .ref E3]) := upd_same
      have lE : LotGs (cut [p] (L2.upd K13 E4 (.lst [.ref E1, .ref E2, .ref E3]))) [.ref E1, .ref E2, .ref E3] := (((LotGs.one (l1.same (cut_same s713))).app (LotGs.one (l2.same (cut_same s913)))).app (LotGs.one l3)).same (cut_same g14)
      generalize L2.upd K13 E4 (.lst [.ref E1, .ref E2, .ref E3]) = K14 at g14 eE4 lE ⊢
      have s614 := Same.trans s613 g14
      refine ⟨F, E4, _, _, rfl, rfl, s614 _ _ eF6, eE4, by rw [List.length_cons, sizeLine_eq]; show us.length + 1 + 3 ≤ _; omega, fun F' hF' => ?_⟩
      have s615 := Same.trans s614 (Same.new (o := .lst (.ref A5 :: us ++ [.ref E1, .ref E2, .ref E3])) hF')
      have nF'p : F' ≠ p := fun e => by rw [e, s614 _ _ eo6] at hF'; cases hF'
      refine ⟨_, _, _, _, _, F', us ++ [.ref E1, .ref E2, .ref E3], t3, rfl, b6.trans (But.of s615), hp6.same s615, ht3, ?_, nF'p, upd_same, by rw [List.length_append]; show us.length + 3 ≤ _; omega, ((lf6.same (cut_same s614)).app lE).same (cut_new hF')⟩
      exact ((But.of s023).trans (b6.trans (But.of s614))).fr hF' nF'p
    · rintro σ H' ⟨v6, v9, v10, v11, v12, F, us, t', rfl, bt, hp', tt, nF, nFp, eF, lu, lf⟩
      have bas := bas.same (cut_but bt (by simp))
      refine ⟨_, rfl, k H' F (.ref A5) us (srtG Pr gs) t' ((But.of s023).trans bt) nF eF (by omega) ⟨A5, ws, rfl, bas.e5, bas.aw⟩ ?_ ?_ ?_ ?_ lf hp' (by omega)⟩
      · intro e
        have := bas.aw.len
        rw [e] at this
        show False
        have : ws.length = 0 := this
        omega
      · exact (srtG_perm gs).nodup_iff.mpr gnd
      · rw [(srtG_perm gs).length_eq]; omega
      · intro q hq
        have := ginn q ((srtG_perm gs).mem_iff.mp hq)
        have hh := inP_ord.mp this
        obtain ⟨r1, m1, e1⟩ := List.mem_map.mp hh.1
        obtain ⟨r2, m2, e2⟩ := List.mem_map.mp hh.2
        exact ⟨by rw [← e1]; exact (o1.rs r1 m1).1, by rw [← e2]; exact (o2.rs r2 m2).1⟩
end
end D1
end L2
namespace L2
namespace D1
open PySem PySem.Spec PyProof.Rows D2 X5 X6 Dq
abbrev sTwoR51 : Stmt := top 63
/-- a purse's place is no part of a desk -/
theorem desk_out {C p q : Addr} {H : Hp} {bk : Bk} {st : Str} {t : Int} (hp : Purse H p t) (h : DeskAt C H q bk st) : DeskAt C (cut [p] H) q bk st := by
  obtain ⟨pg, pb, pz, e, _⟩ := hp
  exact h.but (T := p) (fun c o nc e => by rw [cut_out (by simpa using nc)]; exact e) e
structure Al51 (C : Addr) (G : Hp) (W1 W2 W3 q1 q2 q3 : Addr) (bk cl ck : Bk) (st st' s3 : Str) : Prop where
  w1 : WorldAt G W1 bk st
  w2 : WorldAt G W2 cl st'
  w3 : WorldAt G W3 ck s3
  d1 : DeskAt C G q1 bk st
  d2 : DeskAt C G q2 cl st'
  d3 : DeskAt C G q3 ck s3
theorem Al51.same {C : Addr} {G G' : Hp} {W1 W2 W3 q1 q2 q3 : Addr} {bk cl ck : Bk} {st st' s3 : Str} (h : Al51 C G W1 W2 W3 q1 q2 q3 bk cl ck st st' s3) (s : Same G G') : Al51 C G' W1 W2 W3 q1 q2 q3 bk cl ck st st' s3 := ⟨h.w1.same s, h.w2.same s, h.w3.same s, h.d1.same s, h.d2.same s, h.d3.same s⟩
theorem LotGs.vl {K : PySem.W.Frag} {C : Addr} {H : Hp} {us : List V} (h : LotGs H us) : VlL K C H us := fun u hu => by
  obtain ⟨ls, hv, l⟩ := (h u hu).v
  exact hv.vl l
def spTwo51 : Sp := fun vs H Q _ => ∃ (p W1 W2 L : Addr) (bk cl : Bk) (st st' : Str) (ws : List Str) (t : Int), vs = [.ref p, .ref W1, .ref W2, .ref L] ∧ Purse H p t ∧ WorldAt (cut [p] H) W1 bk st ∧ WorldAt (cut [p] H) W2 cl st' ∧ SL H L ws ∧ WF bk st ws ∧ WF cl st' ws ∧ WsOk ws ∧ t < 2 ^ 23 ∧
  ∀ (H' : Hp) (t' : Int), But p H H' → Purse H' p t' → t' ≤ t + 3000 → Q (.bl true) H'
section
variable {P : Program} {w : World} {K : PySem.W.Frag} {mg : Str → Option Value} {base : Heap} {C : Addr}
abbrev CLDesk51 (P : Program) (w : World) (K : PySem.W.Frag) (mg : Str → Option Value) (base : Heap) (C : Addr) := Cal P w K mg base "_law_desk" 6 ["_law_world_here"] (spLDesk C)
abbrev CTabs (P : Program) (w : World) (K : PySem.W.Frag) (mg : Str → Option Value) (base : Heap) := Cal P w K mg base "_law_tables_of" 4 ["_law_purse_here", "_law_elder", "_law_newer_here"] spTabs
abbrev CBent51 (P : Program) (w : World) (K : PySem.W.Frag) (mg : Str → Option Value) (base : Heap) (C : Addr) := Cal P w K mg base "_law_bent" 6 ["_law_purse_here", "_law_table"] (spBent51 K C)
abbrev CJudged (P : Program) (w : World) (K : PySem.W.Frag) (mg : Str → Option Value) (base : Heap) (C : Addr) := Cal P w K mg base "_law_judged" 6 juP (spJudged K C)
abbrev t51N : List Str := ["_law_purse_here", "_law_elder", "_law_newer_here", "_law_words_here", "_law_one", "_law_other", "_law_third", "_law_late", "_law_tables", "_law_value", "_law_grown", "_law_pair"]
abbrev t51P : List Str := ["_law_purse_here", "_law_elder", "_law_newer_here", "_law_words_here"]
theorem scT51 : FnScope t51N t51P (defScope sTwoR51) := ⟨rfl, rfl, rfl, by decide +kernel, rfl, by decide +kernel, by decide +kernel⟩
theorem ok_two51 {f : Addr} {fd : FuncData} (F : Fun K "_law_two_right" "_law_two_right" sTwoR51 f fd) (EQ : EqD P w K mg base C) (CLD : CLDesk51 P w K mg base C) (CN : CNewer P w K mg base) (CT : CTabs P w K mg base) (CB : CBent51 P w K mg base C) (CJ : CJudged P w K mg base C) : FnOk P w K mg base CX0 7 f fd t51P spTwo51 := by
  refine F.ok scT51 (fun vs H Q E h => ?_) (fun cdv A outer s H vs Q E0' hr h => ?_)
  · obtain ⟨p, W1, W2, L, bk, cl, st, st', ws, t, rfl, _⟩ := h; rfl
  obtain ⟨p, W1, W2, L, bk, cl, st, st', ws, t, rfl, hp, hw1, hw2, hL, wf1, wf2, wok, t1, k⟩ := h
  have hu := hu_of hr
  refine ⟨_, pss_cons (ps_par (i := 4) (j := 5) rfl scT51.nd rfl rfl (by decide) rfl rfl (pa_cons (pe_cal CLD (hr.mono (by decide)) rfl (pa_cons (pv 1) pa_nil)) (pa_cons (pe_cal CLD (hr.mono (by decide)) rfl (pa_cons (pv 2) pa_nil)) pa_nil)) (by rfl))
    (pss_cons (ps_set (i := 6) scT51.nd rfl (Or.inl rfl) (pe_cal CN (hr.mono (by decide)) rfl (pa_cons (pv 0) (pa_cons (pv 2) (pa_cons (pv 3) (pa_cons pe_int pa_nil))))))
    (pss_cons (ps_set (i := 7) scT51.nd rfl (Or.inl rfl) (pe_cal CLD (hr.mono (by decide)) rfl (pa_cons (pv 6) pa_nil)))
    (pss_cons (ps_set (i := 8) scT51.nd rfl (Or.inl rfl) (pe_cal CT (hr.mono (by decide)) rfl (pa_cons (pv 0) (pa_cons (pv 1) (pa_cons (pv 2) pa_nil)))))
    (pss_cons (ps_for PassesOwn.never rfl (pi_list (pe_op op_cat (pv 8) (pe_cal CB (hr.mono (by decide)) rfl (pa_cons (pv 0) (pa_cons (pe_ix ix_list (pv 8) pe_int (fun _ _ => rfl)) pa_nil))))) (pg_name (i := 9) scT51.nd rfl (Or.inl rfl))
      (pss_one (ps_if (pt_not (pt_val (pe_cal CJ (hr.mono (by decide)) rfl (pa_cons (pv 1) (pa_cons (pv 2) (pa_cons (pv 4) (pa_cons (pv 5) (pa_cons (pv 9) pa_nil)))))))) (pss_one (ps_ret pe_bl)) pss_nil)))
    (pss_cons (ps_for PassesOwn.never rfl (pi_list (pe_op op_cat (pe_slice sl_list (pv 8) po_none (po_some pe_int)) (pe_slice sl_list (pe_cal CT (hr.mono (by decide)) rfl (pa_cons (pv 0) (pa_cons (pv 1) (pa_cons (pv 6) pa_nil)))) po_none (po_some pe_int)))) (pg_name (i := 9) scT51.nd rfl (Or.inl rfl))
      (pss_one (ps_if (PW.pt (pw_or (pt_not (pt_val (pe_cal CJ (hr.mono (by decide)) rfl (pa_cons (pv 1) (pa_cons (pv 6) (pa_cons (pv 4) (pa_cons (pv 7) (pa_cons (pv 9) pa_nil)))))))) (pw_or (pt_not (pt_val (pe_cal CJ (hr.mono (by decide)) rfl (pa_cons (pv 1) (pa_cons (pv 2) (pa_cons (pv 4) (pa_cons (pv 5) (pa_cons (pv 9) pa_nil)))))))) (pw_or1 (pt_not (pt_val (pe_cal CJ (hr.mono (by decide)) rfl (pa_cons (pv 2) (pa_cons (pv 6) (pa_cons (pv 5) (pa_cons (pv 7) (pa_cons (pv 9) pa_nil)))))))))))) (pss_one (ps_ret pe_bl)) pss_nil)))
    (pss_cons (ps_set (i := 10) scT51.nd rfl (Or.inl rfl) (pe_lst pa_nil))
    (pss_cons (ps_for PassesOwn.never rfl (pi_list (pe_ix ix_list (pv 8) pe_int (fun _ _ => rfl))) (pg_name (i := 11) scT51.nd rfl (Or.inl rfl))
      (pss_cons (ps_if (pt_not (pt_val (pe_cal CJ (hr.mono (by decide)) rfl (pa_cons (pv 1) (pa_cons (pv 2) (pa_cons (pv 4) (pa_cons (pv 5) (pa_cons (pv 10) pa_nil)))))))) (pss_one (ps_ret pe_bl)) pss_nil)
      (pss_one (ps_expr (pe_bm PySem.F.plainAttrs_list PySem.F.slot_list_append PySem.F.type_list_append mt_append (pv 10) (pa_cons (pv 11) pa_nil))))))
    (pss_cons (ps_if (pt_not (pt_val (pe_cal CJ (hr.mono (by decide)) rfl (pa_cons (pv 1) (pa_cons (pv 2) (pa_cons (pv 4) (pa_cons (pv 5) (pa_cons (pv 10) pa_nil)))))))) (pss_one (ps_ret pe_bl)) pss_nil)
    (pss_cons (ps_expr (pe_bm0 PySem.F.plainAttrs_list PySem.F.slot_list_reverse PySem.F.type_list_reverse mt_reverse (pv 10)))
    (pss_one (ps_ret (pe_and (pe_cal CJ (hr.mono (by decide)) rfl (pa_cons (pv 1) (pa_cons (pv 2) (pa_cons (pv 4) (pa_cons (pv 5) (pa_cons (pv 10) pa_nil)))))) (pe_and (pe_cmpR (eqD EQ (hr.mono (by decide))) (pv 4) (pe_cal CLD (hr.mono (by decide)) rfl (pa_cons (pv 1) pa_nil)) (by rfl)) (pe_one (pe_cmpR (eqD EQ (hr.mono (by decide))) (pv 5) (pe_cal CLD (hr.mono (by decide)) rfl (pa_cons (pv 2) pa_nil)) (by rfl)))))))))))))))), ?_⟩
  have o1 := wf1.dok wok
  have o2 := wf2.dok wok
  have nL : L ≠ p := fun e => by
    obtain ⟨pg, pb, pz, ep, _⟩ := id hp
    rw [SL, e, ep] at hL
    cases ws with
    | nil => cases hL
    | cons x r => cases hL
  refine ⟨_, rfl, W1, bk, st, rfl, hw1.same cut_le, o1, fun H1 q1 s1 nq1 hq1 => ?_⟩
  refine ⟨_, rfl, W2, cl, st', rfl, (hw2.same cut_le).same s1, o2, fun H2 q2 s2 nq2 hq2 => ⟨_, _, rfl, ?_⟩⟩
  have s02 := Same.trans s1 s2
  have hp2 := hp.same s02
  refine ⟨_, rfl, _, rfl, _, rfl, p, W2, L, cl, st', ws, 1, t, rfl, hp2, hw2.same (cut_same s02), hL.same s02, nL, wf2, wok, by decide, by decide, by omega, fun H3 W3 ck t3 b23 hp3 tt3 nW3 hW3 wf3 => ?_⟩
  have o3 := wf3.dok wok
  refine ⟨_, rfl, W3, ck, st', rfl, hW3.same cut_le, o3, fun H5 q3 s35 nq3 hq3 => ?_⟩
  have hp5 := hp3.same s35
  have b25 : But p H2 H5 := b23.trans (But.of s35)
  have b05 : But p H H5 := (But.of s02).trans b25
  have al : Al51 C (cut [p] H5) W1 W2 W3 q1 q2 q3 bk cl ck st st' st' := ⟨hw1.same (cut_but b05 (by simp)), hw2.same (cut_but b05 (by simp)), hW3.same (cut_same s35), (desk_out hp2 (hq1.same s2)).same (cut_but b25 (by simp)), (desk_out hp2 hq2).same (cut_but b25 (by simp)), desk_out hp5 hq3⟩
  clear hq1 hq2 hq3 hW3 hw1 hw2 nq1 nq2 nq3 nW3 s1 s2 s02 hp2 b23 s35 hp3 b25 hp hL
  -- the lists
  refine ⟨_, rfl, _, rfl, _, rfl, p, W1, W2, bk, cl, st, st', t3, rfl, hp5, al.w1, al.w2, o1, o2, by omega, fun H6 R u0 us ls t6 b56 nR hR lus hu0 ne nd l4 wd lg hp6 tt6 => ?_⟩
  have nRp : R ≠ p := fun e => by obtain ⟨o', e'⟩ := hp5.some; rw [e, e'] at nR; cases nR
  have al := al.same (cut_but b56 (S := [p]) (by simp))
  have b06 := b05.trans b56
  refine ⟨_, rfl, _, rfl, _, rfl, R, _, _, _, rfl, rfl, SqL.of hR, atI_nat (j := 0) rfl, p, u0, ls, t6, rfl, hp6, hu0, ne, nd, l4, wd, by omega, fun H7 B bs t7 b67 nB hB lB vB hp7 tt7 => ?_⟩
  have al := al.same (cut_but b67 (S := [p]) (by simp))
  have hR7 := b67 _ _ nRp hR
  have hu7 := hu0.same (cut_but b67 (S := [p]) (by simp))
  have lg7 := lg.same (cut_but b67 (S := [p]) (by simp))
  have b07 := b06.trans b67
  refine ⟨R, B, _, _, rfl, rfl, hR7, hB, by rw [List.length_cons, sizeLine_eq]; omega, fun D0 hD0 => ?_⟩
  have vall : VlL K C (cut [p] H7) (u0 :: us ++ bs) := fun u hu => by
    rcases List.mem_append.mp hu with h | h
    · rcases List.mem_cons.mp h with h | h
      · rw [h]; exact hu7.vl (by omega)
      · exact lg7.vl u h
    · exact vB u h
  have g8 := Same.new (o := .lst (u0 :: us ++ bs)) hD0
  have eD0 : (L2.upd H7 D0 (.lst (u0 :: us ++ bs))) D0 = some (.lst (u0 :: us ++ bs)) := upd_same
  generalize L2.upd H7 D0 (.lst (u0 :: us ++ bs)) = H8 at g8 eD0 ⊢
  have al8 := al.same (cut_same g8)
  have v8 := vall.same (cut_same g8)
  generalize u0 :: us ++ bs = vs at v8 eD0
  refine ⟨D0, rfl, ⟨_, SqL.of eD0⟩, for_list (K := K) (a := D0) (xs := vs) (fun i σ H' => ∃ v9 : Option V, σ = [some (.ref p), some (.ref W1), some (.ref W2), some (.ref L), some (.ref q1), some (.ref q2), some (.ref W3), some (.ref q3), some (.ref R), v9, none, none] ∧ Same H8 H') ⟨_, rfl, Same.refl _⟩ (fun i σ H' _ ⟨_, _, z⟩ => SqL.of (z _ _ eD0)) ?_ ?_⟩
  · rintro i v σ H' hv ⟨v9, rfl, sm⟩
    obtain ⟨va, sa⟩ := v8 v (List.mem_of_getElem? hv)
    obtain ⟨r, sa⟩ := sa (ordB bk) (ordB cl) (st, st')
    have alF := (al8.same (cut_same (S := [p]) sm)).same cut_le
    have sc := Same.trans (cut_le (S := [p])) sm
    exact ⟨_, rfl, _, rfl, _, rfl, _, rfl, _, rfl, W1, W2, q1, q2, bk, cl, st, st', v, r, rfl, alF.w1, alF.w2, ⟨alF.d1, alF.d2⟩, o1, o2, sa.same sc, va.same sc, fun H9 s9 => ⟨_, rfl, iteF ⟨_, rfl, Same.trans sm s9⟩⟩⟩
  rintro σ H9 ⟨v9, rfl, s89⟩
  have s79 := Same.trans g8 s89
  have al9 := al.same (cut_same (S := [p]) s79)
  have hp9 := hp7.same s79
  have hR9 := s79 _ _ hR7
  have hu9 := hu7.same (cut_same (S := [p]) s79)
  have lg9 := lg7.same (cut_same (S := [p]) s79)
  have b09 := b07.trans (But.of s79)
  clear v8 eD0 al8 vall hB hD0 g8 al hR7 hu7 lg7 vB nB lB hR hu0 lg s89 b07 b67 b06 hp6 b56 b05 hp5
  -- the first two of each
  refine ⟨_, rfl, 2, rfl, R, _, rfl, SqL.of hR9, fun A1 hA1 => ?_⟩
  have v1 : VlL K C (cut [p] H9) (cutV (u0 :: us) none (some 2)) := fun u hu => by
    rcases List.mem_cons.mp (cutV_in hu) with h | h
    · rw [h]; exact hu9.vl (by omega)
    · exact lg9.vl u h
  have lv1 := cutV_len (us := u0 :: us) (lo := none) (hi := some 2)
  rw [List.length_cons] at lv1
  have g10 := Same.new (o := .lst (cutV (u0 :: us) none (some 2))) hA1
  have nA1p : A1 ≠ p := fun e => by obtain ⟨o', e'⟩ := hp9.some; rw [e, e'] at hA1; cases hA1
  have eA1 : (L2.upd H9 A1 (.lst (cutV (u0 :: us) none (some 2)))) A1 = some (.lst (cutV (u0 :: us) none (some 2))) := upd_same
  generalize L2.upd H9 A1 (.lst (cutV (u0 :: us) none (some 2))) = H10 at g10 eA1 ⊢
  generalize cutV (u0 :: us) none (some 2) = f1 at v1 lv1 eA1
  have al10 := al9.same (cut_same (S := [p]) g10)
  refine ⟨_, rfl, _, rfl, _, rfl, p, W1, W3, bk, ck, st, st', t7, rfl, hp9.same g10, al10.w1, al10.w3, o1, o3, by omega, fun H11 R2 y0 ys ls2 t11 b1011 nR2 hR2 lys hy0 _ _ l42 _ lg2 hp11 tt11 => ?_⟩
  have nR2p : R2 ≠ p := fun e => by obtain ⟨o', e'⟩ := hp9.some; rw [e, g10 _ _ e'] at nR2; cases nR2
  refine ⟨2, rfl, R2, _, rfl, SqL.of hR2, fun A2 hA2 => ?_⟩
  have v2 : VlL K C (cut [p] H11) (cutV (y0 :: ys) none (some 2)) := fun u hu => by
    rcases List.mem_cons.mp (cutV_in hu) with h | h
    · rw [h]; exact hy0.vl (by omega)
    · exact lg2.vl u h
  have lv2 := cutV_len (us := y0 :: ys) (lo := none) (hi := some 2)
  rw [List.length_cons] at lv2
  have g12 := Same.new (o := .lst (cutV (y0 :: ys) none (some 2))) hA2
  have eA2 : (L2.upd H11 A2 (.lst (cutV (y0 :: ys) none (some 2)))) A2 = some (.lst (cutV (y0 :: ys) none (some 2))) := upd_same
  generalize L2.upd H11 A2 (.lst (cutV (y0 :: ys) none (some 2))) = H12 at g12 eA2 ⊢
  generalize cutV (y0 :: ys) none (some 2) = f2 at v2 lv2 eA2
  refine ⟨A1, A2, _, _, rfl, rfl, g12 _ _ (b1011 _ _ nA1p eA1), eA2, by rw [sizeLine_eq]; omega, fun D1 hD1 => ?_⟩
  have b911 : But p H9 H11 := (But.of g10).trans b1011
  have v12 : VlL K C (cut [p] H12) (f1 ++ f2) := ((v1.same (cut_but b911 (by simp))).app v2).same (cut_same g12)
  have g13 := Same.new (o := .lst (f1 ++ f2)) hD1
  have eD1 : (L2.upd H12 D1 (.lst (f1 ++ f2))) D1 = some (.lst (f1 ++ f2)) := upd_same
  generalize L2.upd H12 D1 (.lst (f1 ++ f2)) = H13 at g13 eD1 ⊢
  have v13 := v12.same (cut_same (S := [p]) g13)
  generalize f1 ++ f2 = vs at v13 eD1
  have s1113 := Same.trans g12 g13
  have hp13 := hp11.same s1113
  have b913 : But p H9 H13 := b911.trans (But.of s1113)
  have al13 := al9.same (cut_but b913 (S := [p]) (by simp))
  refine ⟨D1, rfl, ⟨_, SqL.of eD1⟩, for_list (K := K) (a := D1) (xs := vs) (fun i σ H' => ∃ v9 : Option V, σ = [some (.ref p), some (.ref W1), some (.ref W2), some (.ref L), some (.ref q1), some (.ref q2), some (.ref W3), some (.ref q3), some (.ref R), v9, none, none] ∧ Same H13 H') ⟨_, rfl, Same.refl _⟩ (fun i σ H' _ ⟨_, _, z⟩ => SqL.of (z _ _ eD1)) ?_ ?_⟩
  · rintro i v σ H' hv ⟨v9, rfl, sm⟩
    obtain ⟨va, sa⟩ := v13 v (List.mem_of_getElem? hv)
    have alF := (al13.same (cut_same (S := [p]) sm)).same cut_le
    have sc := Same.trans (cut_le (S := [p])) sm
    obtain ⟨r1, sa1⟩ := sa (ordB bk) (ordB ck) (st, st')
    obtain ⟨r2, sa2⟩ := sa (ordB bk) (ordB cl) (st, st')
    obtain ⟨r3, sa3⟩ := sa (ordB cl) (ordB ck) (st', st')
    refine ⟨_, rfl, _, rfl, _, rfl, _, rfl, _, rfl, W1, W3, q1, q3, bk, ck, st, st', v, r1, rfl, alF.w1, alF.w3, ⟨alF.d1, alF.d3⟩, o1, o3, sa1.same sc, va.same sc, fun H14 s14 => ⟨_, rfl, iteF ?_⟩⟩
    have alF := alF.same s14
    have sc := Same.trans sc s14
    refine ⟨_, rfl, _, rfl, _, rfl, _, rfl, _, rfl, W1, W2, q1, q2, bk, cl, st, st', v, r2, rfl, alF.w1, alF.w2, ⟨alF.d1, alF.d2⟩, o1, o2, sa2.same sc, va.same sc, fun H15 s15 => ⟨_, rfl, iteF ?_⟩⟩
    have alF := alF.same s15
    have sc := Same.trans sc s15
    refine ⟨_, rfl, _, rfl, _, rfl, _, rfl, _, rfl, W2, W3, q2, q3, cl, ck, st', st', v, r3, rfl, alF.w2, alF.w3, ⟨alF.d2, alF.d3⟩, o2, o3, sa3.same sc, va.same sc, fun H16 s16 => ⟨_, rfl, iteF ⟨_, rfl, Same.trans sm (Same.trans s14 (Same.trans s15 s16))⟩⟩⟩
  rintro σ H14 ⟨v9, rfl, s1314⟩
  have al14 := al13.same (cut_same (S := [p]) s1314)
  have hp14 := hp13.same s1314
  have b914 : But p H9 H14 := b913.trans (But.of s1314)
  have hR14 := b914 _ _ nRp hR9
  have hu14 := hu9.same (cut_but b914 (S := [p]) (by simp))
  have b014 := b09.trans b914
  clear al13 v13 eD1 g13 hD1 s1113 hp13 b913 b911 v12 v2 v1 eA2 g12 hA2 hR2 hp11 nR2 hy0 lg2 eA1 g10 hA1 al9 hu9 lg9 hR9 hp9 b1011 al10 lv1 lv2
  -- a list that grows
  refine ⟨by show 0 ≤ sizeLine; decide, fun N hN => ?_⟩
  have g15 := Same.new (o := .lst []) hN
  have nNp : N ≠ p := fun e => by obtain ⟨o', e'⟩ := hp14.some; rw [e, e'] at hN; cases hN
  obtain ⟨L0, us0, rfl, hL0, hA0⟩ := id hu14
  have hL0F := cut_le _ _ hL0
  have pr0 := (ats_prs hA0).same cut_le
  have l0 : us0.length ≤ 4000 := by rw [hA0.len]; exact l4
  have eN : (L2.upd H14 N (.lst [])) N = some (.lst (us0.take 0)) := upd_same
  have alF := al14.same cut_le
  have gw : ∀ {H' : Hp} {i : Nat}, Same H14 H' → H' N = some (.lst (us0.take i)) → Vl K C H' (.ref N) := fun {H' i} sm e => by
    have h : LotG H' (.ref N) := ⟨N, us0.take i, rfl, e, by rw [List.length_take]; omega, (pr0.same sm).sub fun v hv => List.mem_of_mem_take hv⟩
    obtain ⟨l, hv, ll⟩ := h.v
    exact hv.vl ll
  generalize L2.upd H14 N (.lst []) = H15 at g15 eN ⊢
  refine ⟨_, rfl, R, _, _, _, rfl, rfl, SqL.of (g15 _ _ hR14), atI_nat (j := 0) rfl, L0, rfl, ⟨_, SqL.of (g15 _ _ hL0F)⟩, for_list (K := K) (a := L0) (xs := us0) (fun i σ H' => ∃ v9 v11 : Option V, σ = [some (.ref p), some (.ref W1), some (.ref W2), some (.ref L), some (.ref q1), some (.ref q2), some (.ref W3), some (.ref q3), some (.ref R), v9, some (.ref N), v11] ∧ Same H14 H' ∧ H' N = some (.lst (us0.take i))) ⟨_, _, rfl, g15, eN⟩ (fun i σ H' _ ⟨_, _, _, z, _⟩ => SqL.of (z _ _ hL0F)) ?_ ?_⟩
  · rintro i v σ H' hv ⟨v9, v11, rfl, sm, hN'⟩
    obtain ⟨va, sa⟩ := gw sm hN'
    obtain ⟨r, sa⟩ := sa (ordB bk) (ordB cl) (st, st')
    have al' := alF.same sm
    have li : i < us0.length := (List.getElem?_eq_some_iff.mp hv).1
    refine ⟨_, rfl, _, rfl, _, rfl, _, rfl, _, rfl, W1, W2, q1, q2, bk, cl, st, st', _, r, rfl, al'.w1, al'.w2, ⟨al'.d1, al'.d2⟩, o1, o2, sa, va, fun H16 s16 => ⟨_, rfl, iteF ?_⟩⟩
    refine ⟨_, rfl, .inl ⟨rfl, _, SqL.of (s16 _ _ hN')⟩, _, rfl, N, _, _, rfl, rfl, s16 _ _ hN', by rw [List.length_take, sizeLine_eq]; omega, _, _, rfl, fun c o e => ?_, by rw [upd_same, take_succ_get hv]⟩
    rw [upd_ne (ne_of_none e hN)]; exact s16 _ _ (sm _ _ e)
  rintro σ H16 ⟨v9', v11, rfl, sm, hN16⟩
  rw [List.take_length] at hN16
  have hN16' : H16 N = some (.lst (us0.take us0.length)) := by rw [List.take_length]; exact hN16
  obtain ⟨va, sa⟩ := gw sm hN16'
  obtain ⟨r, sa⟩ := sa (ordB bk) (ordB cl) (st, st')
  have al' := alF.same sm
  refine ⟨_, rfl, _, rfl, _, rfl, _, rfl, _, rfl, W1, W2, q1, q2, bk, cl, st, st', _, r, rfl, al'.w1, al'.w2, ⟨al'.d1, al'.d2⟩, o1, o2, sa, va, fun H17 s17 => ⟨_, rfl, iteF ?_⟩⟩
  have hN17 := s17 _ _ hN16
  refine ⟨_, rfl, .inl ⟨rfl, _, SqL.of hN17⟩, N, _, rfl, rfl, hN17, ?_⟩
  have s1418 : Same H14 (L2.upd H17 N (.lst us0.reverse)) := fun c o e => by rw [upd_ne (ne_of_none e hN)]; exact s17 _ _ (sm _ _ e)
  have hN18 : (L2.upd H17 N (.lst us0.reverse)) N = some (.lst us0.reverse) := upd_same
  generalize L2.upd H17 N (.lst us0.reverse) = H18 at s1418 hN18 ⊢
  have al18 := alF.same s1418
  have h18 : LotG H18 (.ref N) := ⟨N, us0.reverse, rfl, hN18, by rw [List.length_reverse]; omega, (pr0.same s1418).sub fun v hv => List.mem_reverse.mp hv⟩
  obtain ⟨l18, hv18, ll18⟩ := h18.v
  obtain ⟨va18, sa18⟩ := hv18.vl (K := K) (C := C) ll18
  obtain ⟨r18, sa18⟩ := sa18 (ordB bk) (ordB cl) (st, st')
  refine ⟨_, rfl, _, rfl, _, rfl, _, rfl, _, rfl, W1, W2, q1, q2, bk, cl, st, st', _, r18, rfl, al18.w1, al18.w2, ⟨al18.d1, al18.d2⟩, o1, o2, sa18, va18, fun H19 s19 => ⟨_, rfl, iteT ?_⟩⟩
  have al19 := al18.same s19
  refine ⟨_, rfl, _, rfl, W1, bk, st, rfl, al19.w1, o1, fun H20 z1 s20 nz1 hz1 => ?_⟩
  refine rEqB_of (r := true) (w := id) ⟨bk, bk, st, st, al19.d1.same s20, hz1, rfl, o1, by simp⟩ ⟨_, rfl, iteT ?_⟩
  have al20 := al19.same s20
  refine ⟨_, rfl, _, rfl, W2, cl, st', rfl, al20.w2, o2, fun H21 z2 s21 nz2 hz2 => ?_⟩
  refine rEqB_of (r := true) (w := id) ⟨cl, cl, st', st', al20.d2.same s21, hz2, rfl, o2, by simp⟩ ?_
  have s1421 := Same.trans s1418 (Same.trans s19 (Same.trans s20 s21))
  exact k H21 _ (b014.trans (But.of s1421)) (hp14.same s1421) (by omega)
end
end D1
end L2
namespace L2
namespace D1
open PySem PySem.Spec PyProof.Rows D2 X5 X6 Dq
abbrev sLaw : Stmt := top 64
def spLaw (K : PySem.W.Frag) : Sp := fun vs H Q _ => ∃ (a : Addr) (ns : List Int), vs = [.ref a] ∧ SqL K H a (ns.map V.int) ∧ ns.length ≤ 63 ∧ ∀ H', Q (.bl true) H'
section
variable {P : Program} {w : World} {K : PySem.W.Frag} {mg : Str → Option Value} {base : Heap} {C : Addr}
abbrev CPurses (P : Program) (w : World) (K : PySem.W.Frag) (mg : Str → Option Value) (base : Heap) := Cal P w K mg base "_law_purses" 2 ["_law_script", "_law_few"] (spPurses K)
abbrev CTwo (P : Program) (w : World) (K : PySem.W.Frag) (mg : Str → Option Value) (base : Heap) := Cal P w K mg base "_law_two" 7 ["_law_purse_here"] spTwo
abbrev CTwoR (P : Program) (w : World) (K : PySem.W.Frag) (mg : Str → Option Value) (base : Heap) := Cal P w K mg base "_law_two_right" 7 t51P spTwo51
abbrev lwN : List Str := ["_law_script", "_law_purse_here", "_law_turn", "_law_elder", "_law_newer_here", "_law_words_here"]
theorem scLw : FnScope lwN ["_law_script"] (defScope sLaw) := ⟨rfl, rfl, rfl, by decide +kernel, rfl, by decide +kernel, by decide +kernel⟩
theorem ok_law {f : Addr} {fd : FuncData} (F : Fun K "law" "law" sLaw f fd) (T : Free4 mg) (CPu : CPurses P w K mg base) (CT : CTwo P w K mg base) (CR : CTwoR P w K mg base) : FnOk P w K mg base CX0 8 f fd ["_law_script"] (spLaw K) := by
  refine F.ok scLw (fun vs H Q E h => ?_) (fun cdv A outer s H vs Q E0' hr h => ?_)
  · obtain ⟨a, ns, rfl, _⟩ := h; rfl
  · obtain ⟨a, ns, rfl, hS, l63, k⟩ := h
    have hu := hu_of hr
    refine ⟨_, pss_cons (ps_for PassesOwn.never rfl (pi_list (pe_cal CPu (hr.mono (by decide)) rfl (pa_cons (pv 0) (pa_cons pe_int pa_nil)))) (pg_name (i := 1) scLw.nd rfl (Or.inl rfl))
        (pss_one (ps_for PassesOwn.never rfl (pi_range1 rfl T.range (pa_cons pe_int pa_nil)) (pg_name (i := 2) scLw.nd rfl (Or.inl rfl))
          (pss_cons (ps_asg (pe_cal CT (hr.mono (by decide)) rfl (pa_cons (pv 1) pa_nil)) (pg_lst rfl (pgs_cons (pg_name (i := 3) scLw.nd rfl (Or.inl rfl)) (pgs_cons (pg_name (i := 4) scLw.nd rfl (Or.inl rfl)) (pgs_cons (pg_name (i := 5) scLw.nd rfl (Or.inl rfl)) pgs_nil)))))
          (pss_one (ps_if (pt_not (pt_val (pe_cal CR (hr.mono (by decide)) rfl (pa_cons (pv 1) (pa_cons (pv 3) (pa_cons (pv 4) (pa_cons (pv 5) pa_nil))))))) (pss_one (ps_ret pe_bl)) pss_nil))))))
      (pss_one (ps_ret pe_bl)), ?_⟩
    refine ⟨_, rfl, a, ns, 3, rfl, hS, l63, by decide, by decide, fun H1 L ps s1 hL0 hL al nd nL lp => ?_⟩
    refine ⟨L, rfl, ⟨_, SqL.of hL⟩, ?_⟩
    refine for_list (K := K) (a := L) (xs := ps.map V.ref) (fun i σ H' => ∃ v1 v2 v3 v4 v5 : Option V, σ = [some (.ref a), v1, v2, v3, v4, v5] ∧ H' L = some (.lst (ps.map V.ref)) ∧ ∀ j p, i ≤ j → ps[j]? = some p → Purse H' p 0)
      ⟨none, none, none, none, none, rfl, hL, fun j p _ e => (al p (List.mem_of_getElem? e)).2⟩ (fun i σ H' _ ⟨_, _, _, _, _, _, z, _⟩ => SqL.of z) ?_ ?_
    · rintro i x σ H2 hx ⟨v1, v2, v3, v4, v5, rfl, hL2, hpp⟩
      obtain ⟨p, ep, rfl⟩ := D1.get_map hx
      have hpi := hpp i p (Nat.le_refl _) ep
      have nLp : L ≠ p := fun h => nL (h ▸ List.mem_of_getElem? ep)
      have fin : ∀ Hf, But p H2 Hf → Hf L = some (.lst (ps.map V.ref)) ∧ ∀ j q, i + 1 ≤ j → ps[j]? = some q → Purse Hf q 0 := fun Hf b => by
        refine ⟨b _ _ nLp hL2, fun j q hj e => ?_⟩
        have nqp : q ≠ p := fun z => by
          have lj := (List.getElem?_eq_some_iff.mp e).1
          have := (List.getElem?_inj (show i < ps.length from (List.getElem?_eq_some_iff.mp ep).1) nd).mp (ep.trans (z ▸ e.symm))
          omega
        obtain ⟨g, b', z, e1, r⟩ := hpp j q (by omega) e
        exact ⟨g, b', z, b _ _ nqp e1, r⟩
      clear hpp
      refine ⟨2, rfl, by decide, by decide, ?_⟩
      refine for_range (n := 2) (fun j σ H' => ∃ (v2 v3 v4 v5 : Option V) (t' : Int), σ = [some (.ref a), some (.ref p), v2, v3, v4, v5] ∧ But p H2 H' ∧ Purse H' p t' ∧ t' ≤ 10000 * j) ⟨v2, v3, v4, v5, 0, rfl, (fun _ _ _ e => e), hpi, by omega⟩ ?_ ?_
      · rintro j σ H3 hj ⟨v2, v3, v4, v5, t3, rfl, b3, hp3, tt3⟩
        refine ⟨_, rfl, p, t3, rfl, hp3, by omega, fun H4 R A' B L4 bk cl st st' ws t4 b4 tri wf1 wf2 wok hp4 tt4 => ?_⟩
        obtain ⟨hR, w1, w2, wl⟩ := tri
        refine ⟨R, _, rfl, SqL.of (cut_le _ _ hR), rfl, _, _, rfl, _, _, rfl, _, _, rfl, rfl, ?_⟩
        refine ⟨_, rfl, _, rfl, _, rfl, _, rfl, p, A', B, L4, bk, cl, st, st', ws, t4, rfl, hp4, w1, w2, wl.same cut_le, wf1, wf2, wok, by omega, fun H5 t5 b5 hp5 tt5 => ⟨_, rfl, iteF ?_⟩⟩
        exact ⟨_, _, _, _, t5, rfl, b3.trans (b4.trans b5), hp5, by omega⟩
      · rintro σ H3 ⟨v2, v3, v4, v5, t3, rfl, b3, hp3, tt3⟩
        obtain ⟨f1, f2⟩ := fin H3 b3
        exact ⟨_, _, _, _, _, rfl, f1, f2⟩
    · rintro σ H2 ⟨v1, v2, v3, v4, v5, rfl, _⟩
      exact k H2
end
end D1
end L2
namespace L2
namespace D1
open PySem PySem.Spec PyProof.Rows D2 X5 X6 Dq
section
variable {K : PySem.W.Frag} {h : Heap} {mg : Str → Option Value}
/-- a def of the text -/
def RowF (K : PySem.W.Frag) (mg : Str → Option Value) (x : Str) (st : Stmt) : Prop := ∃ f fd, mg x = some (.ref f) ∧ Fun K x x st f fd
theorem rowF (X : K.In h) (G : h.Ns mainGlobals mg) {x : Str} {st : Stmt} {f : Addr} {oc kV doc pm cdv ct : Value} {od an : Option Addr} {osl : Array (Option Value)} (a : PySem.W.nsIn K mainGlobals x = some (some (.ref f)))
    (l : K.lookup f = some ⟨oc, od, .func (PySem.W.fnOf x x (defArgs st) (defBody st) (defScope st) .none kV doc pm an cdv ct), osl⟩) (c : PySem.W.codeIn K cdv x = true) (k : PySem.W.keepIn K (.ref f) = true) : RowF K mg x st :=
  ⟨f, _, PySem.W.mg_of X G a, fun_mk l c k⟩
/-- a method of the class at C -/
def RowM (K : PySem.W.Frag) (C : Addr) (m q : Str) (st : Stmt) : Prop := ∃ f fd, PySem.W.findIn K (.ref C) m = some (some (.ref f)) ∧ PySem.W.isFn K (.ref f) = true ∧ Fun K m q st f fd
theorem rowM (_ : K.In h) {C : Addr} {m q : Str} {st : Stmt} {f : Addr} {oc kV doc pm cdv ct : Value} {od an : Option Addr} {osl : Array (Option Value)} (a : PySem.W.findIn K (.ref C) m = some (some (.ref f))) (i : PySem.W.isFn K (.ref f) = true)
    (l : K.lookup f = some ⟨oc, od, .func (PySem.W.fnOf m q (defArgs st) (defBody st) (defScope st) .none kV doc pm an cdv ct), osl⟩) (c : PySem.W.codeIn K cdv q = true) (k : PySem.W.keepIn K (.ref f) = true) : RowM K C m q st :=
  ⟨f, _, a, i, fun_mk l c k⟩
/-- the class Desk -/
structure DeskRow (K : PySem.W.Frag) (mg : Str → Option Value) (C : Addr) : Prop where
  txt : DTxt K mg C
  ins : C8.InsC K C
  mkD : PySem.W.makesIn K C = true
  kp : PySem.W.keepIn K (.ref C) = true
  m0 : RowM K C "__init__" "Desk.__init__" sDInit
  m1 : RowM K C "__eq__" "Desk.__eq__" sDEq
  m2 : RowM K C "book" "Desk.book" sDBook
  m3 : RowM K C "start" "Desk.start" sDStart
theorem deskRow (X : K.In h) (G : h.Ns mainGlobals mg) {C : Addr} (aC : PySem.W.nsIn K mainGlobals "Desk" = some (some (.ref C)))
    (pg : PySem.W.plainGet K C Str.empty = true) (hd : PySem.W.hasDictIn K C = true) (po : PySem.W.plainOver K C = true) (sa : PySem.W.findIn K (.ref C) "__setattr__" = some (some (.builtin "object.__setattr__")))
    (nB : PySem.W.findIn K (.ref C) "_book" = some none) (nS : PySem.W.findIn K (.ref C) "_start" = some none)
    (ca : PySem.W.findIn K (.ref C) "__class__" = some (some (.builtin "object.__class__"))) (gs : PySem.W.specialIn K (.builtin "object.__class__") "__get__" = some (some (.builtin "getset_descriptor.__get__"))) (ss : PySem.W.takesIn K (.builtin "object.__class__") = some true)
    (mo : PySem.W.mroIn K C (.type "object") = some true) (mk : PySem.W.makesIn K C = true) (kp : PySem.W.keepIn K (.ref C) = true)
    (m0 : RowM K C "__init__" "Desk.__init__" sDInit) (m1 : RowM K C "__eq__" "Desk.__eq__" sDEq) (m2 : RowM K C "book" "Desk.book" sDBook) (m3 : RowM K C "start" "Desk.start" sDStart) : ∃ C, DeskRow K mg C :=
  ⟨C, ⟨⟨pg, hd, po, sa⟩, nB, nS, PySem.W.mg_of X G aC⟩, ⟨⟨pg, hd, po, sa⟩, ca, gs, ss, mo, by unfold PySem.W.kitOne; rw [if_pos (beq_self_eq_true _)]⟩, mk, kp, m0, m1, m2, m3⟩
theorem bind1 {x : Str} {st : Stmt} {f : Addr} {fd : FuncData} {a : Str} (F : Fun K x x st f fd) (e : ∀ (kV doc pm : Value) (an : Option Addr) (cdv ct u : Value), bindArgs (PySem.W.fnOf x x (defArgs st) (defBody st) (defScope st) .none kV doc pm an cdv ct) ⟨[u], []⟩ = pure [(a, u)]) (s : Shared) (u : Value) : BindsTo s fd ⟨[u], []⟩ [(a, u)] := by
  obtain ⟨oc, od, kV, doc, pm, an, cdv, ct, osl, rfl, lk, hcd⟩ := F.ex
  exact .of_eq (e kV doc pm an cdv ct u)
theorem eq_obj : typeLookup (.type "object") (Str.ofString "__eq__") = pure (some (.builtin "object.__eq__")) := by rw [typeLookup_type, builtinLookup_eq_fast]; kernel_rfl
/-- the keys are texts -/
def KStr : List DictEntry → Prop
  | [] => True
  | e :: r => (∃ x t, e.key = .str x t) ∧ KStr r
theorem KStr.all : ∀ {l : List DictEntry}, KStr l → ∀ e ∈ l, ∃ x t, e.key = .str x t
  | _ :: _, ⟨h, _⟩, _, .head _ => h
  | _ :: _, ⟨_, r⟩, _, .tail _ m => r.all _ m
/-- the class has an own == and no own != -/
theorem neF_mk {C f N : Addr} {nm q0 : Str} {bs : List Value} {hdct : Bool} {sn : List Str} {sub : List Value} {ab : Bool} {col : Option Bool} {dd : Option Addr} {k0 k1 k2 k3 k5 : Option Value} {newId : String} {oN oc : Value} {dN od : Option Addr} {es : Array DictEntry} {n : Nat} {sN osl : Array (Option Value)} {dt : Data}
    (l : K.lookup C = some (excClassObj nm q0 C N bs [.type "object"] hdct sn sub ab col dd k0 k1 k2 k3 k5 newId)) (lN : K.lookup N = some ⟨oN, dN, .dict es n, sN⟩) (hk : KStr es.toList)
    (e1 : PySem.W.nsIn K N "__eq__" = some (some (.ref f))) (e2 : PySem.W.nsIn K N "__ne__" = some none) (lI : K.lookup f = some ⟨oc, od, dt, osl⟩) (tI : oc = .type "function") : NeF K C f := by
  refine ⟨fun h x o X hx hc => ?_⟩
  have hN : h.Ns N (fun n => nsFind es n) := ⟨_, es, n, X _ _ lN, rfl, fun e he => hk.all e (Array.mem_toList_iff.mpr he), fun _ => rfl⟩
  refine ⟨o, _, nm, q0, N, bs, hdct, sn, sub, ab, col, dd, k0, k1, k2, k3, k5, newId, _, some (.builtin "object.__eq__"), hx, hc, X _ _ l, hN, ?_, X _ _ lI, tI, PySem.F.mro_object, eq_obj, PySem.W.ns_none_of X hN e2⟩
  unfold PySem.W.nsIn at e1
  rw [lN] at e1
  dsimp only at e1
  split at e1
  · rename_i en he
    show nsFind es _ = _
    unfold nsFind findBy
    rw [← Array.find?_toList, he]
    exact Option.some.inj e1
  · split at e1 <;> cases e1
theorem neRow (X : K.In h) (G : h.Ns mainGlobals mg) {C f N : Addr} {nm q0 : Str} {bs : List Value} {hdct : Bool} {sn : List Str} {sub : List Value} {ab : Bool} {col : Option Bool} {dd : Option Addr} {k0 k1 k2 k3 k5 : Option Value} {newId : String} {oN oc : Value} {dN od : Option Addr} {es : Array DictEntry} {n : Nat} {sN osl : Array (Option Value)} {dt : Data}
    (aC : PySem.W.nsIn K mainGlobals "Desk" = some (some (.ref C))) (a1 : PySem.W.findIn K (.ref C) "__eq__" = some (some (.ref f)))
    (l : K.lookup C = some (excClassObj nm q0 C N bs [.type "object"] hdct sn sub ab col dd k0 k1 k2 k3 k5 newId)) (lN : K.lookup N = some ⟨oN, dN, .dict es n, sN⟩) (hk : KStr es.toList)
    (e1 : PySem.W.nsIn K N "__eq__" = some (some (.ref f))) (e2 : PySem.W.nsIn K N "__ne__" = some none) (lI : K.lookup f = some ⟨oc, od, dt, osl⟩) (tI : oc = .type "function") : ∀ C2 f2, mg "Desk" = some (.ref C2) → PySem.W.findIn K (.ref C2) "__eq__" = some (some (.ref f2)) → NeF K C2 f2 := by
  intro C2 f2 h1 h2
  have h3 := PySem.W.mg_of X G aC
  rw [h1] at h3
  cases h3
  rw [a1] at h2
  cases h2
  exact neF_mk l lN hk e1 e2 lI tI
theorem kit_mro {K : PySem.W.Frag} {C : Addr} {T : String} (h : PySem.W.mroIn K C (.type T) = some false) (m : PySem.W.kitMeta T = true) : PySem.W.kitOne K (.ref C) (.type T) = some false := by
  unfold PySem.W.kitOne
  rw [if_neg (by intro e; cases e)]
  unfold PySem.W.kitCls
  dsimp only
  rw [if_pos m]
  exact h
def MroD (K : PySem.W.Frag) (mg : Str → Option Value) : Prop := ∀ C, mg "Desk" = some (.ref C) → PySem.W.kitOne K (.ref C) (.type "dict") = some false ∧ PySem.W.kitOne K (.ref C) (.type "list") = some false ∧ PySem.W.kitOne K (.ref C) (.type "tuple") = some false ∧ PySem.W.kitOne K (.ref C) (.type "bool") = some false
theorem mroRow (X : K.In h) (G : h.Ns mainGlobals mg) {C : Addr} (aC : PySem.W.nsIn K mainGlobals "Desk" = some (some (.ref C))) (oD : PySem.W.mroIn K C (.type "dict") = some false) (oL : PySem.W.mroIn K C (.type "list") = some false) (oT : PySem.W.mroIn K C (.type "tuple") = some false) (oB : PySem.W.mroIn K C (.type "bool") = some false) : MroD K mg := fun C' e => by
  have e2 := PySem.W.mg_of X G aC
  rw [e] at e2
  cases e2
  exact ⟨kit_mro oD (by decide +kernel), kit_mro oL (by decide +kernel), kit_mro oT (by decide +kernel), kit_mro oB (by decide +kernel)⟩
theorem law_of {P : Program} {w : World} {fa : Addr} (hfa : mg "law" = some (.ref fa)) (T4 : Free4 mg) (dr : ∃ C, DeskRow K mg C) (nf : ∀ C f, mg "Desk" = some (.ref C) → PySem.W.findIn K (.ref C) "__eq__" = some (some (.ref f)) → NeF K C f) (mr : MroD K mg)
    (r_is_name : RowF K mg "is_name" sIsName)
    (r_is_row : RowF K mg "is_row" sIsRow)
    (r_is_state_of : RowF K mg "is_state_of" sIsState)
    (r_is_ascending : RowF K mg "is_ascending" sAsc)
    (r_is_book : RowF K mg "is_book" sIsBook)
    (r_ordered_turns : RowF K mg "ordered_turns" sOrdT)
    (r_ordered_book : RowF K mg "ordered_book" sOrdB)
    (r_need_desk : RowF K mg "need_desk" sNeed)
    (r_is_pair_of : RowF K mg "is_pair_of" sIsPrG)
    (r_books_of : RowF K mg "books_of" sBooksOf)
    (r_first_pair : RowF K mg "first_pair" sFirstPair)
    (r_is_fitting : RowF K mg "is_fitting" sFit)
    (r_shared_steps : RowF K mg "shared_steps" sShared)
    (r_is_safe_table : RowF K mg "is_safe_table" sSafeT)
    (r__law_purse : RowF K mg "_law_purse" sPurse)
    (r__law_mixed : RowF K mg "_law_mixed" sMixed)
    (r__law_draw : RowF K mg "_law_draw" sDraw)
    (r__law_purses : RowF K mg "_law_purses" sPurses)
    (r__law_one_of : RowF K mg "_law_one_of" sOneOf)
    (r__law_shuffled : RowF K mg "_law_shuffled" sShuf)
    (r__law_same : RowF K mg "_law_same" sLSame)
    (r__law_exact : RowF K mg "_law_exact" sExact)
    (r__law_word : RowF K mg "_law_word" sWord)
    (r__law_words : RowF K mg "_law_words" sWords)
    (r__law_pool : RowF K mg "_law_pool" sPool)
    (r__law_turns : RowF K mg "_law_turns" sTurns)
    (r__law_world : RowF K mg "_law_world" sWorld)
    (r__law_shape : RowF K mg "_law_shape" sShape)
    (r__law_desk : RowF K mg "_law_desk" sLDesk)
    (r__law_turned : RowF K mg "_law_turned" sLTurned)
    (r__law_changed_row : RowF K mg "_law_changed_row" sChRow)
    (r__law_newer : RowF K mg "_law_newer" sNewer)
    (r__law_said_fewer : RowF K mg "_law_said_fewer" sSaid)
    (r__law_viable : RowF K mg "_law_viable" sViable)
    (r__law_sayable : RowF K mg "_law_sayable" sSay)
    (r__law_name : RowF K mg "_law_name" sName)
    (r__law_partner : RowF K mg "_law_partner" sPart)
    (r__law_closed : RowF K mg "_law_closed" sLClosed)
    (r__law_row_of : RowF K mg "_law_row_of" sRowOf)
    (r__law_ended : RowF K mg "_law_ended" sEnded)
    (r__law_round_two : RowF K mg "_law_round_two" sRound)
    (r__law_safer : RowF K mg "_law_safer" sSafer)
    (r__law_two : RowF K mg "_law_two" sTwo)
    (r__law_fits : RowF K mg "_law_fits" sLFits)
    (r__law_plain_steps : RowF K mg "_law_plain_steps" sPlain)
    (r__law_is_table : RowF K mg "_law_is_table" sIsTab)
    (r__law_tables_of : RowF K mg "_law_tables_of" sTabs)
    (r__law_bent : RowF K mg "_law_bent" sBent51)
    (r__law_judged : RowF K mg "_law_judged" sJudged)
    (r__law_two_right : RowF K mg "_law_two_right" sTwoR51)
    (r_law : RowF K mg "law" sLaw)
    : ∃ fd : FuncData, (∀ (s : Shared) (u : Value), BindsTo s fd ⟨[u], []⟩ [("_law_script", u)]) ∧ ∀ base : Heap, K.In base → base.Ns mainGlobals mg → FnOk P w K mg base CX0 8 fa fd ["_law_script"] (spLaw K) := by
  obtain ⟨C, R⟩ := dr
  obtain ⟨f_is_name, d_is_name, g_is_name, F_is_name⟩ := r_is_name
  obtain ⟨f_is_row, d_is_row, g_is_row, F_is_row⟩ := r_is_row
  obtain ⟨f_is_state_of, d_is_state_of, g_is_state_of, F_is_state_of⟩ := r_is_state_of
  obtain ⟨f_is_ascending, d_is_ascending, g_is_ascending, F_is_ascending⟩ := r_is_ascending
  obtain ⟨f_is_book, d_is_book, g_is_book, F_is_book⟩ := r_is_book
  obtain ⟨f_ordered_turns, d_ordered_turns, g_ordered_turns, F_ordered_turns⟩ := r_ordered_turns
  obtain ⟨f_ordered_book, d_ordered_book, g_ordered_book, F_ordered_book⟩ := r_ordered_book
  obtain ⟨f_need_desk, d_need_desk, g_need_desk, F_need_desk⟩ := r_need_desk
  obtain ⟨f_is_pair_of, d_is_pair_of, g_is_pair_of, F_is_pair_of⟩ := r_is_pair_of
  obtain ⟨f_books_of, d_books_of, g_books_of, F_books_of⟩ := r_books_of
  obtain ⟨f_first_pair, d_first_pair, g_first_pair, F_first_pair⟩ := r_first_pair
  obtain ⟨f_is_fitting, d_is_fitting, g_is_fitting, F_is_fitting⟩ := r_is_fitting
  obtain ⟨f_shared_steps, d_shared_steps, g_shared_steps, F_shared_steps⟩ := r_shared_steps
  obtain ⟨f_is_safe_table, d_is_safe_table, g_is_safe_table, F_is_safe_table⟩ := r_is_safe_table
  obtain ⟨f__law_purse, d__law_purse, g__law_purse, F__law_purse⟩ := r__law_purse
  obtain ⟨f__law_mixed, d__law_mixed, g__law_mixed, F__law_mixed⟩ := r__law_mixed
  obtain ⟨f__law_draw, d__law_draw, g__law_draw, F__law_draw⟩ := r__law_draw
  obtain ⟨f__law_purses, d__law_purses, g__law_purses, F__law_purses⟩ := r__law_purses
  obtain ⟨f__law_one_of, d__law_one_of, g__law_one_of, F__law_one_of⟩ := r__law_one_of
  obtain ⟨f__law_shuffled, d__law_shuffled, g__law_shuffled, F__law_shuffled⟩ := r__law_shuffled
  obtain ⟨f__law_same, d__law_same, g__law_same, F__law_same⟩ := r__law_same
  obtain ⟨f__law_exact, d__law_exact, g__law_exact, F__law_exact⟩ := r__law_exact
  obtain ⟨f__law_word, d__law_word, g__law_word, F__law_word⟩ := r__law_word
  obtain ⟨f__law_words, d__law_words, g__law_words, F__law_words⟩ := r__law_words
  obtain ⟨f__law_pool, d__law_pool, g__law_pool, F__law_pool⟩ := r__law_pool
  obtain ⟨f__law_turns, d__law_turns, g__law_turns, F__law_turns⟩ := r__law_turns
  obtain ⟨f__law_world, d__law_world, g__law_world, F__law_world⟩ := r__law_world
  obtain ⟨f__law_shape, d__law_shape, g__law_shape, F__law_shape⟩ := r__law_shape
  obtain ⟨f__law_desk, d__law_desk, g__law_desk, F__law_desk⟩ := r__law_desk
  obtain ⟨f__law_turned, d__law_turned, g__law_turned, F__law_turned⟩ := r__law_turned
  obtain ⟨f__law_changed_row, d__law_changed_row, g__law_changed_row, F__law_changed_row⟩ := r__law_changed_row
  obtain ⟨f__law_newer, d__law_newer, g__law_newer, F__law_newer⟩ := r__law_newer
  obtain ⟨f__law_said_fewer, d__law_said_fewer, g__law_said_fewer, F__law_said_fewer⟩ := r__law_said_fewer
  obtain ⟨f__law_viable, d__law_viable, g__law_viable, F__law_viable⟩ := r__law_viable
  obtain ⟨f__law_sayable, d__law_sayable, g__law_sayable, F__law_sayable⟩ := r__law_sayable
  obtain ⟨f__law_name, d__law_name, g__law_name, F__law_name⟩ := r__law_name
  obtain ⟨f__law_partner, d__law_partner, g__law_partner, F__law_partner⟩ := r__law_partner
  obtain ⟨f__law_closed, d__law_closed, g__law_closed, F__law_closed⟩ := r__law_closed
  obtain ⟨f__law_row_of, d__law_row_of, g__law_row_of, F__law_row_of⟩ := r__law_row_of
  obtain ⟨f__law_ended, d__law_ended, g__law_ended, F__law_ended⟩ := r__law_ended
  obtain ⟨f__law_round_two, d__law_round_two, g__law_round_two, F__law_round_two⟩ := r__law_round_two
  obtain ⟨f__law_safer, d__law_safer, g__law_safer, F__law_safer⟩ := r__law_safer
  obtain ⟨f__law_two, d__law_two, g__law_two, F__law_two⟩ := r__law_two
  obtain ⟨f__law_fits, d__law_fits, g__law_fits, F__law_fits⟩ := r__law_fits
  obtain ⟨f__law_plain_steps, d__law_plain_steps, g__law_plain_steps, F__law_plain_steps⟩ := r__law_plain_steps
  obtain ⟨f__law_is_table, d__law_is_table, g__law_is_table, F__law_is_table⟩ := r__law_is_table
  obtain ⟨f__law_tables_of, d__law_tables_of, g__law_tables_of, F__law_tables_of⟩ := r__law_tables_of
  obtain ⟨f__law_bent, d__law_bent, g__law_bent, F__law_bent⟩ := r__law_bent
  obtain ⟨f__law_judged, d__law_judged, g__law_judged, F__law_judged⟩ := r__law_judged
  obtain ⟨f__law_two_right, d__law_two_right, g__law_two_right, F__law_two_right⟩ := r__law_two_right
  obtain ⟨f_law, d_law, g_law, F_law⟩ := r_law
  rw [hfa] at g_law
  cases g_law
  obtain ⟨fM0, dM0, aM0, iM0, FM0⟩ := R.m0
  obtain ⟨fM1, dM1, aM1, iM1, FM1⟩ := R.m1
  obtain ⟨fM2, dM2, aM2, iM2, FM2⟩ := R.m2
  obtain ⟨fM3, dM3, aM3, iM3, FM3⟩ := R.m3
  have b_is_name := F_is_name.binds (ps := ["value"]) fun _ _ _ _ _ _ us hl => match us, hl with | [_], _ => rfl
  have b_is_row := F_is_row.binds (ps := ["value"]) fun _ _ _ _ _ _ us hl => match us, hl with | [_], _ => rfl
  have b_is_state_of := F_is_state_of.binds (ps := ["book", "value"]) fun _ _ _ _ _ _ us hl => match us, hl with | [_, _], _ => rfl
  have b_is_ascending := F_is_ascending.binds (ps := ["items"]) fun _ _ _ _ _ _ us hl => match us, hl with | [_], _ => rfl
  have b_is_book := F_is_book.binds (ps := ["value"]) fun _ _ _ _ _ _ us hl => match us, hl with | [_], _ => rfl
  have b_ordered_turns := F_ordered_turns.binds (ps := ["turns"]) fun _ _ _ _ _ _ us hl => match us, hl with | [_], _ => rfl
  have b_ordered_book := F_ordered_book.binds (ps := ["book"]) fun _ _ _ _ _ _ us hl => match us, hl with | [_], _ => rfl
  have b_need_desk := F_need_desk.binds (ps := ["desk"]) fun _ _ _ _ _ _ us hl => match us, hl with | [_], _ => rfl
  have b_is_pair_of := F_is_pair_of.binds (ps := ["books", "value"]) fun _ _ _ _ _ _ us hl => match us, hl with | [_, _], _ => rfl
  have b_books_of := F_books_of.binds (ps := ["one", "other"]) fun _ _ _ _ _ _ us hl => match us, hl with | [_, _], _ => rfl
  have b_first_pair := F_first_pair.binds (ps := ["one", "other"]) fun _ _ _ _ _ _ us hl => match us, hl with | [_, _], _ => rfl
  have b_is_fitting := F_is_fitting.binds (ps := ["books", "pair"]) fun _ _ _ _ _ _ us hl => match us, hl with | [_, _], _ => rfl
  have b_shared_steps := F_shared_steps.binds (ps := ["books", "pair"]) fun _ _ _ _ _ _ us hl => match us, hl with | [_, _], _ => rfl
  have b_is_safe_table := F_is_safe_table.binds (ps := ["elder", "newer", "value"]) fun _ _ _ _ _ _ us hl => match us, hl with | [_, _, _], _ => rfl
  have b__law_purse := F__law_purse.binds (ps := ["_law_script", "_law_at"]) fun _ _ _ _ _ _ us hl => match us, hl with | [_, _], _ => rfl
  have b__law_mixed := F__law_mixed.binds (ps := ["_law_seed", "_law_turn", "_law_at"]) fun _ _ _ _ _ _ us hl => match us, hl with | [_, _, _], _ => rfl
  have b__law_draw := F__law_draw.binds (ps := ["_law_purse_here", "_law_many"]) fun _ _ _ _ _ _ us hl => match us, hl with | [_, _], _ => rfl
  have b__law_purses := F__law_purses.binds (ps := ["_law_script", "_law_few"]) fun _ _ _ _ _ _ us hl => match us, hl with | [_, _], _ => rfl
  have b__law_one_of := F__law_one_of.binds (ps := ["_law_purse_here", "_law_some"]) fun _ _ _ _ _ _ us hl => match us, hl with | [_, _], _ => rfl
  have b__law_shuffled := F__law_shuffled.binds (ps := ["_law_purse_here", "_law_some"]) fun _ _ _ _ _ _ us hl => match us, hl with | [_, _], _ => rfl
  have b__law_same := F__law_same.binds (ps := ["_law_thing"]) fun _ _ _ _ _ _ us hl => match us, hl with | [_], _ => rfl
  have b__law_exact := F__law_exact.binds (ps := ["_law_mine", "_law_theirs"]) fun _ _ _ _ _ _ us hl => match us, hl with | [_, _], _ => rfl
  have b__law_word := F__law_word.binds (ps := ["_law_purse_here"]) fun _ _ _ _ _ _ us hl => match us, hl with | [_], _ => rfl
  have b__law_words := F__law_words.binds (ps := ["_law_purse_here", "_law_many"]) fun _ _ _ _ _ _ us hl => match us, hl with | [_, _], _ => rfl
  have b__law_pool := F__law_pool.binds (ps := ["_law_purse_here"]) fun _ _ _ _ _ _ us hl => match us, hl with | [_], _ => rfl
  have b__law_turns := F__law_turns.binds (ps := ["_law_purse_here", "_law_states", "_law_words_here", "_law_at", "_law_top"]) fun _ _ _ _ _ _ us hl => match us, hl with | [_, _, _, _, _], _ => rfl
  have b__law_world := F__law_world.binds (ps := ["_law_purse_here", "_law_many", "_law_words_here", "_law_top"]) fun _ _ _ _ _ _ us hl => match us, hl with | [_, _, _, _], _ => rfl
  have b__law_shape := F__law_shape.binds (ps := ["_law_purse_here", "_law_words_here"]) fun _ _ _ _ _ _ us hl => match us, hl with | [_, _], _ => rfl
  have b__law_desk := F__law_desk.binds (ps := ["_law_world_here"]) fun _ _ _ _ _ _ us hl => match us, hl with | [_], _ => rfl
  have b__law_turned := F__law_turned.binds (ps := ["_law_world_here"]) fun _ _ _ _ _ _ us hl => match us, hl with | [_], _ => rfl
  have b__law_changed_row := F__law_changed_row.binds (ps := ["_law_purse_here", "_law_row", "_law_words_here", "_law_states"]) fun _ _ _ _ _ _ us hl => match us, hl with | [_, _, _, _], _ => rfl
  have b__law_newer := F__law_newer.binds (ps := ["_law_purse_here", "_law_world_here", "_law_words_here", "_law_times"]) fun _ _ _ _ _ _ us hl => match us, hl with | [_, _, _, _], _ => rfl
  have b__law_said_fewer := F__law_said_fewer.binds (ps := ["_law_purse_here", "_law_world_here"]) fun _ _ _ _ _ _ us hl => match us, hl with | [_, _], _ => rfl
  have b__law_viable := F__law_viable.binds (ps := ["_law_world_here"]) fun _ _ _ _ _ _ us hl => match us, hl with | [_], _ => rfl
  have b__law_sayable := F__law_sayable.binds (ps := ["_law_world_here", "_law_state"]) fun _ _ _ _ _ _ us hl => match us, hl with | [_, _], _ => rfl
  have b__law_name := F__law_name.binds (ps := ["_law_number"]) fun _ _ _ _ _ _ us hl => match us, hl with | [_], _ => rfl
  have b__law_partner := F__law_partner.binds (ps := ["_law_purse_here", "_law_world_here", "_law_copies"]) fun _ _ _ _ _ _ us hl => match us, hl with | [_, _, _], _ => rfl
  have b__law_closed := F__law_closed.binds (ps := ["_law_steps", "_law_first"]) fun _ _ _ _ _ _ us hl => match us, hl with | [_, _], _ => rfl
  have b__law_row_of := F__law_row_of.binds (ps := ["_law_purse_here", "_law_top"]) fun _ _ _ _ _ _ us hl => match us, hl with | [_, _], _ => rfl
  have b__law_ended := F__law_ended.binds (ps := ["_law_purse_here", "_law_world_here"]) fun _ _ _ _ _ _ us hl => match us, hl with | [_, _], _ => rfl
  have b__law_round_two := F__law_round_two.binds (ps := ["_law_purse_here"]) fun _ _ _ _ _ _ us hl => match us, hl with | [_], _ => rfl
  have b__law_safer := F__law_safer.binds (ps := ["_law_purse_here", "_law_world_here", "_law_words_here"]) fun _ _ _ _ _ _ us hl => match us, hl with | [_, _, _], _ => rfl
  have b__law_two := F__law_two.binds (ps := ["_law_purse_here"]) fun _ _ _ _ _ _ us hl => match us, hl with | [_], _ => rfl
  have b__law_fits := F__law_fits.binds (ps := ["_law_elder", "_law_newer_here", "_law_pair"]) fun _ _ _ _ _ _ us hl => match us, hl with | [_, _, _], _ => rfl
  have b__law_plain_steps := F__law_plain_steps.binds (ps := ["_law_elder", "_law_newer_here"]) fun _ _ _ _ _ _ us hl => match us, hl with | [_, _], _ => rfl
  have b__law_is_table := F__law_is_table.binds (ps := ["_law_elder", "_law_newer_here", "_law_value"]) fun _ _ _ _ _ _ us hl => match us, hl with | [_, _, _], _ => rfl
  have b__law_tables_of := F__law_tables_of.binds (ps := ["_law_purse_here", "_law_elder", "_law_newer_here"]) fun _ _ _ _ _ _ us hl => match us, hl with | [_, _, _], _ => rfl
  have b__law_bent := F__law_bent.binds (ps := ["_law_purse_here", "_law_table"]) fun _ _ _ _ _ _ us hl => match us, hl with | [_, _], _ => rfl
  have b__law_judged := F__law_judged.binds (ps := ["_law_elder", "_law_newer_here", "_law_one", "_law_other", "_law_value"]) fun _ _ _ _ _ _ us hl => match us, hl with | [_, _, _, _, _], _ => rfl
  have b__law_two_right := F__law_two_right.binds (ps := ["_law_purse_here", "_law_elder", "_law_newer_here", "_law_words_here"]) fun _ _ _ _ _ _ us hl => match us, hl with | [_, _, _, _], _ => rfl
  have bM0 := FM0.binds (ps := ["self", "book", "start"]) fun _ _ _ _ _ _ us hl => match us, hl with | [_, _, _], _ => rfl
  have bM1 := FM1.binds (ps := ["self", "other"]) fun _ _ _ _ _ _ us hl => match us, hl with | [_, _], _ => rfl
  have bM2 := FM2.binds (ps := ["self"]) fun _ _ _ _ _ _ us hl => match us, hl with | [_], _ => rfl
  have bM3 := FM3.binds (ps := ["self"]) fun _ _ _ _ _ _ us hl => match us, hl with | [_], _ => rfl
  refine ⟨d_law, bind1 F_law fun _ _ _ _ _ _ _ => rfl, fun base _ _ => ?_⟩
  have T := T4.toFree3
  have T2 := T.toFree2
  have T1 := T2.toFree
  have D := R.txt
  have DK : DskC K C := ⟨R.ins, (mr C D.mgC).1, (mr C D.mgC).2.1, (mr C D.mgC).2.2.1, (mr C D.mgC).2.2.2⟩
  have c0 : CPurses P w K mg base := ⟨⟨f__law_purses, d__law_purses, g__law_purses, F__law_purses.kp, ok_purses F__law_purses T1 F__law_purse b__law_purse g__law_purse, b__law_purses⟩⟩
  have c1 : CDraw P w K mg base := ⟨⟨f__law_draw, d__law_draw, g__law_draw, F__law_draw.kp, ok_draw F__law_draw T1 F__law_mixed b__law_mixed g__law_mixed, b__law_draw⟩⟩
  have G_2 : FnOk P w K mg base CX0 2 f__law_draw d__law_draw ["_law_purse_here", "_law_many"] (spDraw) := ok_draw F__law_draw T1 F__law_mixed b__law_mixed g__law_mixed
  have c3 : CWord P w K mg base := ⟨⟨f__law_word, d__law_word, g__law_word, F__law_word.kp, ok_word F__law_word T1 F__law_draw.kp G_2 b__law_draw g__law_draw, b__law_word⟩⟩
  have c4 : CWords P w K mg base := ⟨⟨f__law_words, d__law_words, g__law_words, F__law_words.kp, ok_words F__law_words T2 c1 c3, b__law_words⟩⟩
  have c5 : CShuf P w K mg base := ⟨⟨f__law_shuffled, d__law_shuffled, g__law_shuffled, F__law_shuffled.kp, ok_shuf F__law_shuffled T1 F__law_draw.kp G_2 b__law_draw g__law_draw, b__law_shuffled⟩⟩
  have c6 : CPool P w K mg base := ⟨⟨f__law_pool, d__law_pool, g__law_pool, F__law_pool.kp, ok_pool F__law_pool T2 c1 c4 c5, b__law_pool⟩⟩
  have c7 : COne P w K mg base := ⟨⟨f__law_one_of, d__law_one_of, g__law_one_of, F__law_one_of.kp, ok_oneof F__law_one_of T1 F__law_draw.kp G_2 b__law_draw g__law_draw, b__law_one_of⟩⟩
  have c8 : CTurns P w K mg base := ⟨⟨f__law_turns, d__law_turns, g__law_turns, F__law_turns.kp, ok_turns F__law_turns T2 c1 c7 c5, b__law_turns⟩⟩
  have c9 : CWorld P w K mg base := ⟨⟨f__law_world, d__law_world, g__law_world, F__law_world.kp, ok_world F__law_world T2 c1 c4 c5 c8, b__law_world⟩⟩
  have c10 : CShape P w K mg base := ⟨⟨f__law_shape, d__law_shape, g__law_shape, F__law_shape.kp, ok_shape F__law_shape T2 c1 c4, b__law_shape⟩⟩
  have c11 : CRow P w K mg base := ⟨⟨f__law_row_of, d__law_row_of, g__law_row_of, F__law_row_of.kp, ok_row F__law_row_of T2 c1 c6 c9 c10, b__law_row_of⟩⟩
  have c12 : CLName P w K mg base := ⟨⟨f__law_name, d__law_name, g__law_name, F__law_name.kp, ok_name F__law_name, b__law_name⟩⟩
  have c13 : CViable P w K mg base := ⟨⟨f__law_viable, d__law_viable, g__law_viable, F__law_viable.kp, ok_viable F__law_viable T4, b__law_viable⟩⟩
  have c14 : CSay P w K mg base := ⟨⟨f__law_sayable, d__law_sayable, g__law_sayable, F__law_sayable.kp, ok_say F__law_sayable T4 c13, b__law_sayable⟩⟩
  have c15 : CPart P w K mg base := ⟨⟨f__law_partner, d__law_partner, g__law_partner, F__law_partner.kp, ok_partner F__law_partner T4 c12 c14 c1 c5, b__law_partner⟩⟩
  have c16 : CLTurned P w K mg base := ⟨⟨f__law_turned, d__law_turned, g__law_turned, F__law_turned.kp, ok_lturned F__law_turned T, b__law_turned⟩⟩
  have c17 : CChRow P w K mg base := ⟨⟨f__law_changed_row, d__law_changed_row, g__law_changed_row, F__law_changed_row.kp, ok_chrow F__law_changed_row T c1 c7, b__law_changed_row⟩⟩
  have c18 : CNewer P w K mg base := ⟨⟨f__law_newer, d__law_newer, g__law_newer, F__law_newer.kp, ok_newer F__law_newer T c7 c17, b__law_newer⟩⟩
  have c19 : CEnded P w K mg base := ⟨⟨f__law_ended, d__law_ended, g__law_ended, F__law_ended.kp, ok_ended F__law_ended c1 c7, b__law_ended⟩⟩
  have c20 : CRound P w K mg base := ⟨⟨f__law_round_two, d__law_round_two, g__law_round_two, F__law_round_two.kp, ok_round F__law_round_two T c1 c7 c4, b__law_round_two⟩⟩
  have c21 : CSaid P w K mg base := ⟨⟨f__law_said_fewer, d__law_said_fewer, g__law_said_fewer, F__law_said_fewer.kp, ok_said F__law_said_fewer T c1 c5, b__law_said_fewer⟩⟩
  have c22 : CSafer P w K mg base := ⟨⟨f__law_safer, d__law_safer, g__law_safer, F__law_safer.kp, ok_safer F__law_safer T c1 c7 c21, b__law_safer⟩⟩
  have c23 : CTwo P w K mg base := ⟨⟨f__law_two, d__law_two, g__law_two, F__law_two.kp, ok_two F__law_two T c1 c11 c15 c16 c18 c9 c19 c20 c22, b__law_two⟩⟩
  have EQ : EqD P w K mg base C := ⟨⟨fM1, dM1, _, ok_deqB FM1 T D R.ins, bM1, aM1, iM1, nf C fM1 D.mgC aM1⟩⟩
  have c24 : CIsName P w K mg base := ⟨⟨f_is_name, d_is_name, g_is_name, F_is_name.kp, ok_isname F_is_name T, b_is_name⟩⟩
  have c25 : CIsRow P w K mg base := ⟨⟨f_is_row, d_is_row, g_is_row, F_is_row.kp, ok_isrow F_is_row T c24, b_is_row⟩⟩
  have c26 : CIsBook P w K mg base := ⟨⟨f_is_book, d_is_book, g_is_book, F_is_book.kp, ok_isbook F_is_book T c24 c25, b_is_book⟩⟩
  have c27 : CIsState P w K mg base := ⟨⟨f_is_state_of, d_is_state_of, g_is_state_of, F_is_state_of.kp, ok_isstate F_is_state_of T, b_is_state_of⟩⟩
  have c28 : COrdT P w K mg base := ⟨⟨f_ordered_turns, d_ordered_turns, g_ordered_turns, F_ordered_turns.kp, ok_ordT F_ordered_turns T, b_ordered_turns⟩⟩
  have c29 : COrdB P w K mg base := ⟨⟨f_ordered_book, d_ordered_book, g_ordered_book, F_ordered_book.kp, ok_ordB F_ordered_book T c28, b_ordered_book⟩⟩
  have MI : CMInit P w K mg base C := ⟨fM0, dM0, ⟨R.mkD, aM0, iM0, R.kp⟩, ok_dinit FM0 D c26 c27 c29, bM0⟩
  have c30 : CLDesk51 P w K mg base C := ⟨⟨f__law_desk, d__law_desk, g__law_desk, F__law_desk.kp, ok_ldesk F__law_desk T D MI, b__law_desk⟩⟩
  have c31 : CLPlain P w K mg base := ⟨⟨f__law_plain_steps, d__law_plain_steps, g__law_plain_steps, F__law_plain_steps.kp, ok_plain F__law_plain_steps T, b__law_plain_steps⟩⟩
  have c32 : CLFits P w K mg base := ⟨⟨f__law_fits, d__law_fits, g__law_fits, F__law_fits.kp, ok_lfits F__law_fits T, b__law_fits⟩⟩
  have c33 : CLClosedS P w K mg base := ⟨⟨f__law_closed, d__law_closed, g__law_closed, F__law_closed.kp, ok_lclosedN nx_step F__law_closed T4, b__law_closed⟩⟩
  have c34 : CTabs P w K mg base := ⟨⟨f__law_tables_of, d__law_tables_of, g__law_tables_of, F__law_tables_of.kp, ok_tabs F__law_tables_of T4 c31 c32 c33 c7, b__law_tables_of⟩⟩
  have c35 : CBent51 P w K mg base C := ⟨⟨f__law_bent, d__law_bent, g__law_bent, F__law_bent.kp, ok_bent51 F__law_bent T4 D DK MI c1, b__law_bent⟩⟩
  have c36 : CIsTab P w K mg base := ⟨⟨f__law_is_table, d__law_is_table, g__law_is_table, F__law_is_table.kp, ok_istab F__law_is_table T4 c31 c32, b__law_is_table⟩⟩
  have c37 : CSameA P w K mg base C := ⟨⟨f__law_same, d__law_same, g__law_same, F__law_same.kp, ok_samea F__law_same T4 g__law_same b__law_same DK, b__law_same⟩⟩
  have cE : ∀ n, CExact P w K mg base n := fun n => ⟨⟨f__law_exact, d__law_exact, g__law_exact, F__law_exact.kp, ok_exact F__law_exact T g__law_exact b__law_exact n, b__law_exact⟩⟩
  have c38 : CExactA P w K mg base C := ⟨⟨f__law_exact, d__law_exact, g__law_exact, F__law_exact.kp, ok_exacta F__law_exact T g__law_exact b__law_exact EQ DK, b__law_exact⟩⟩
  have c39 : CNeed P w K mg base C := ⟨⟨f_need_desk, d_need_desk, g_need_desk, F_need_desk.kp, ok_need F_need_desk T D R.ins, b_need_desk⟩⟩
  have MB : CMBook P w K mg base C := ⟨⟨fM2, dM2, ⟨aM2, iM2, FM2.kp⟩, ok_dbook FM2 D c29, bM2⟩⟩
  have c40 : CBooksOf P w K mg base C := ⟨⟨f_books_of, d_books_of, g_books_of, F_books_of.kp, ok_booksof F_books_of D c39 MB, b_books_of⟩⟩
  have c41 : CIsStG P w K mg base := ⟨⟨f_is_state_of, d_is_state_of, g_is_state_of, F_is_state_of.kp, ok_isstg F_is_state_of T, b_is_state_of⟩⟩
  have c42 : CIsPrG P w K mg base := ⟨⟨f_is_pair_of, d_is_pair_of, g_is_pair_of, F_is_pair_of.kp, ok_isprg F_is_pair_of T c41, b_is_pair_of⟩⟩
  have c43 : CAsc P w K mg base := ⟨⟨f_is_ascending, d_is_ascending, g_is_ascending, F_is_ascending.kp, ok_asc F_is_ascending T, b_is_ascending⟩⟩
  have MS : CMStart P w K mg base C := ⟨⟨fM3, dM3, ⟨aM3, iM3, FM3.kp⟩, ok_dstart FM3 D, bM3⟩⟩
  have c44 : CFirstP P w K mg base C := ⟨⟨f_first_pair, d_first_pair, g_first_pair, F_first_pair.kp, (ok_firstpair F_first_pair D MS).mono (by decide), b_first_pair⟩⟩
  have c45 : CFitP P w K mg base := ⟨⟨f_is_fitting, d_is_fitting, g_is_fitting, F_is_fitting.kp, ok_fit F_is_fitting T, b_is_fitting⟩⟩
  have c46 : CShare P w K mg base := ⟨⟨f_shared_steps, d_shared_steps, g_shared_steps, F_shared_steps.kp, ok_shared F_shared_steps, b_shared_steps⟩⟩
  have c47 : CSafeT P w K mg base C := ⟨⟨f_is_safe_table, d_is_safe_table, g_is_safe_table, F_is_safe_table.kp, ok_safet F_is_safe_table T4 c40 c42 c43 c44 c45 c46, b_is_safe_table⟩⟩
  have c48 : CJudged P w K mg base C := ⟨⟨f__law_judged, d__law_judged, g__law_judged, F__law_judged.kp, ok_judged F__law_judged c36 c37 (cE 0) c38 c47, b__law_judged⟩⟩
  have c49 : CTwoR P w K mg base := ⟨⟨f__law_two_right, d__law_two_right, g__law_two_right, F__law_two_right.kp, ok_two51 F__law_two_right EQ c30 c18 c34 c35 c48, b__law_two_right⟩⟩
  exact ok_law F_law T4 c0 c23 c49
end
/-- what the head asks -/
theorem law_walk {l : PySem.W.OpenLaw} {q : Program} {loose : List Str} {XP : (Str → Option Value) → Heap → Prop} {YP : World → Heap → Prop} {d : DefRec} {K : Params → PySem.W.Frag} (hn : l.most = some 63) (hdf : d.params.defaults = []) (hY : ∀ (w : World) (h : Heap), YP w h → (K w.params).In h)
    (F : ∀ (w : World) (mg : Str → Option Value) (fa : Addr) (h : Heap), (K w.params).In h → h.Ns mainGlobals mg → mg d.name = some (.ref fa) →
      ∃ fd : FuncData, (∀ (s : Shared) (u : Value), BindsTo s fd ⟨[u], []⟩ [("_law_script", u)]) ∧ ∀ base : Heap, (K w.params).In base → base.Ns mainGlobals mg → FnOk l.prog w (K w.params) mg base CX0 8 fa fd ["_law_script"] (spLaw (K w.params))) :
    PySem.W.WalkO q loose XP YP l.row.toRowW d [] (fun f vs => PySem.call f vs) :=
  L2.walk_of (n := 63) (k := 8) (x := "_law_script") (CX := fun _ => CX0) (sp := fun w => spLaw (K w.params)) hn (by decide) hdf ⟨rfl, by decide, by decide⟩ hY F (fun _ _ a ns hl _ hS => ⟨a, ns, rfl, hS, hl, fun _ => rfl⟩) fun _ _ _ _ _ z => z
end D1
end L2
open PySem PySem.W PyProof.Rows in
set_option maxRecDepth 100000 in
set_option maxHeartbeats 0 in
theorem PySem.Challenge.cw_endswell_k51_whole_safe_tables_holds : PySem.Challenge.rw_endswell_k51_whole_safe_tables.Holds :=
  head (by
  k_fill
  refine L2.D1.law_walk (l := PySem.Challenge.rw_endswell_k51_whole_safe_tables) rfl rfl (fun w h Y => PySem.W.kIn_of Y) ?F
  intro w mg fa h KX G hmg
  have f_is_name : L2.D1.RowF (L2.KOf KX) mg "is_name" L2.D1.sIsName := by
    dsimp only [L2.KOf]
    refine' L2.D1.rowF KX G ?a ?l ?c ?k
    (case a => k_is)
    (case l => k_is)
    (case c => k_is)
    (case k => k_is)
  have f_is_row : L2.D1.RowF (L2.KOf KX) mg "is_row" L2.D1.sIsRow := by
    dsimp only [L2.KOf]
    refine' L2.D1.rowF KX G ?a ?l ?c ?k
    (case a => k_is)
    (case l => k_is)
    (case c => k_is)
    (case k => k_is)
  have f_is_state_of : L2.D1.RowF (L2.KOf KX) mg "is_state_of" L2.D1.sIsState := by
    dsimp only [L2.KOf]
    refine' L2.D1.rowF KX G ?a ?l ?c ?k
    (case a => k_is)
    (case l => k_is)
    (case c => k_is)
    (case k => k_is)
  have f_is_ascending : L2.D1.RowF (L2.KOf KX) mg "is_ascending" L2.D1.sAsc := by
    dsimp only [L2.KOf]
    refine' L2.D1.rowF KX G ?a ?l ?c ?k
    (case a => k_is)
    (case l => k_is)
    (case c => k_is)
    (case k => k_is)
  have f_is_book : L2.D1.RowF (L2.KOf KX) mg "is_book" L2.D1.sIsBook := by
    dsimp only [L2.KOf]
    refine' L2.D1.rowF KX G ?a ?l ?c ?k
    (case a => k_is)
    (case l => k_is)
    (case c => k_is)
    (case k => k_is)
  have f_ordered_turns : L2.D1.RowF (L2.KOf KX) mg "ordered_turns" L2.D1.sOrdT := by
    dsimp only [L2.KOf]
    refine' L2.D1.rowF KX G ?a ?l ?c ?k
    (case a => k_is)
    (case l => k_is)
    (case c => k_is)
    (case k => k_is)
  have f_ordered_book : L2.D1.RowF (L2.KOf KX) mg "ordered_book" L2.D1.sOrdB := by
    dsimp only [L2.KOf]
    refine' L2.D1.rowF KX G ?a ?l ?c ?k
    (case a => k_is)
    (case l => k_is)
    (case c => k_is)
    (case k => k_is)
  have f_need_desk : L2.D1.RowF (L2.KOf KX) mg "need_desk" L2.D1.sNeed := by
    dsimp only [L2.KOf]
    refine' L2.D1.rowF KX G ?a ?l ?c ?k
    (case a => k_is)
    (case l => k_is)
    (case c => k_is)
    (case k => k_is)
  have f_is_pair_of : L2.D1.RowF (L2.KOf KX) mg "is_pair_of" L2.D1.sIsPrG := by
    dsimp only [L2.KOf]
    refine' L2.D1.rowF KX G ?a ?l ?c ?k
    (case a => k_is)
    (case l => k_is)
    (case c => k_is)
    (case k => k_is)
  have f_books_of : L2.D1.RowF (L2.KOf KX) mg "books_of" L2.D1.sBooksOf := by
    dsimp only [L2.KOf]
    refine' L2.D1.rowF KX G ?a ?l ?c ?k
    (case a => k_is)
    (case l => k_is)
    (case c => k_is)
    (case k => k_is)
  have f_first_pair : L2.D1.RowF (L2.KOf KX) mg "first_pair" L2.D1.sFirstPair := by
    dsimp only [L2.KOf]
    refine' L2.D1.rowF KX G ?a ?l ?c ?k
    (case a => k_is)
    (case l => k_is)
    (case c => k_is)
    (case k => k_is)
  have f_is_fitting : L2.D1.RowF (L2.KOf KX) mg "is_fitting" L2.D1.sFit := by
    dsimp only [L2.KOf]
    refine' L2.D1.rowF KX G ?a ?l ?c ?k
    (case a => k_is)
    (case l => k_is)
    (case c => k_is)
    (case k => k_is)
  have f_shared_steps : L2.D1.RowF (L2.KOf KX) mg "shared_steps" L2.D1.sShared := by
    dsimp only [L2.KOf]
    refine' L2.D1.rowF KX G ?a ?l ?c ?k
    (case a => k_is)
    (case l => k_is)
    (case c => k_is)
    (case k => k_is)
  have f_is_safe_table : L2.D1.RowF (L2.KOf KX) mg "is_safe_table" L2.D1.sSafeT := by
    dsimp only [L2.KOf]
    refine' L2.D1.rowF KX G ?a ?l ?c ?k
    (case a => k_is)
    (case l => k_is)
    (case c => k_is)
    (case k => k_is)
  have f__law_purse : L2.D1.RowF (L2.KOf KX) mg "_law_purse" L2.D1.sPurse := by
    dsimp only [L2.KOf]
    refine' L2.D1.rowF KX G ?a ?l ?c ?k
    (case a => k_is)
    (case l => k_is)
    (case c => k_is)
    (case k => k_is)
  have f__law_mixed : L2.D1.RowF (L2.KOf KX) mg "_law_mixed" L2.D1.sMixed := by
    dsimp only [L2.KOf]
    refine' L2.D1.rowF KX G ?a ?l ?c ?k
    (case a => k_is)
    (case l => k_is)
    (case c => k_is)
    (case k => k_is)
  have f__law_draw : L2.D1.RowF (L2.KOf KX) mg "_law_draw" L2.D1.sDraw := by
    dsimp only [L2.KOf]
    refine' L2.D1.rowF KX G ?a ?l ?c ?k
    (case a => k_is)
    (case l => k_is)
    (case c => k_is)
    (case k => k_is)
  have f__law_purses : L2.D1.RowF (L2.KOf KX) mg "_law_purses" L2.D1.sPurses := by
    dsimp only [L2.KOf]
    refine' L2.D1.rowF KX G ?a ?l ?c ?k
    (case a => k_is)
    (case l => k_is)
    (case c => k_is)
    (case k => k_is)
  have f__law_one_of : L2.D1.RowF (L2.KOf KX) mg "_law_one_of" L2.D1.sOneOf := by
    dsimp only [L2.KOf]
    refine' L2.D1.rowF KX G ?a ?l ?c ?k
    (case a => k_is)
    (case l => k_is)
    (case c => k_is)
    (case k => k_is)
  have f__law_shuffled : L2.D1.RowF (L2.KOf KX) mg "_law_shuffled" L2.D1.sShuf := by
    dsimp only [L2.KOf]
    refine' L2.D1.rowF KX G ?a ?l ?c ?k
    (case a => k_is)
    (case l => k_is)
    (case c => k_is)
    (case k => k_is)
  have f__law_same : L2.D1.RowF (L2.KOf KX) mg "_law_same" L2.D1.sLSame := by
    dsimp only [L2.KOf]
    refine' L2.D1.rowF KX G ?a ?l ?c ?k
    (case a => k_is)
    (case l => k_is)
    (case c => k_is)
    (case k => k_is)
  have f__law_exact : L2.D1.RowF (L2.KOf KX) mg "_law_exact" L2.D1.sExact := by
    dsimp only [L2.KOf]
    refine' L2.D1.rowF KX G ?a ?l ?c ?k
    (case a => k_is)
    (case l => k_is)
    (case c => k_is)
    (case k => k_is)
  have f__law_word : L2.D1.RowF (L2.KOf KX) mg "_law_word" L2.D1.sWord := by
    dsimp only [L2.KOf]
    refine' L2.D1.rowF KX G ?a ?l ?c ?k
    (case a => k_is)
    (case l => k_is)
    (case c => k_is)
    (case k => k_is)
  have f__law_words : L2.D1.RowF (L2.KOf KX) mg "_law_words" L2.D1.sWords := by
    dsimp only [L2.KOf]
    refine' L2.D1.rowF KX G ?a ?l ?c ?k
    (case a => k_is)
    (case l => k_is)
    (case c => k_is)
    (case k => k_is)
  have f__law_pool : L2.D1.RowF (L2.KOf KX) mg "_law_pool" L2.D1.sPool := by
    dsimp only [L2.KOf]
    refine' L2.D1.rowF KX G ?a ?l ?c ?k
    (case a => k_is)
    (case l => k_is)
    (case c => k_is)
    (case k => k_is)
  have f__law_turns : L2.D1.RowF (L2.KOf KX) mg "_law_turns" L2.D1.sTurns := by
    dsimp only [L2.KOf]
    refine' L2.D1.rowF KX G ?a ?l ?c ?k
    (case a => k_is)
    (case l => k_is)
    (case c => k_is)
    (case k => k_is)
  have f__law_world : L2.D1.RowF (L2.KOf KX) mg "_law_world" L2.D1.sWorld := by
    dsimp only [L2.KOf]
    refine' L2.D1.rowF KX G ?a ?l ?c ?k
    (case a => k_is)
    (case l => k_is)
    (case c => k_is)
    (case k => k_is)
  have f__law_shape : L2.D1.RowF (L2.KOf KX) mg "_law_shape" L2.D1.sShape := by
    dsimp only [L2.KOf]
    refine' L2.D1.rowF KX G ?a ?l ?c ?k
    (case a => k_is)
    (case l => k_is)
    (case c => k_is)
    (case k => k_is)
  have f__law_desk : L2.D1.RowF (L2.KOf KX) mg "_law_desk" L2.D1.sLDesk := by
    dsimp only [L2.KOf]
    refine' L2.D1.rowF KX G ?a ?l ?c ?k
    (case a => k_is)
    (case l => k_is)
    (case c => k_is)
    (case k => k_is)
  have f__law_turned : L2.D1.RowF (L2.KOf KX) mg "_law_turned" L2.D1.sLTurned := by
    dsimp only [L2.KOf]
    refine' L2.D1.rowF KX G ?a ?l ?c ?k
    (case a => k_is)
    (case l => k_is)
    (case c => k_is)
    (case k => k_is)
  have f__law_changed_row : L2.D1.RowF (L2.KOf KX) mg "_law_changed_row" L2.D1.sChRow := by
    dsimp only [L2.KOf]
    refine' L2.D1.rowF KX G ?a ?l ?c ?k
    (case a => k_is)
    (case l => k_is)
    (case c => k_is)
    (case k => k_is)
  have f__law_newer : L2.D1.RowF (L2.KOf KX) mg "_law_newer" L2.D1.sNewer := by
    dsimp only [L2.KOf]
    refine' L2.D1.rowF KX G ?a ?l ?c ?k
    (case a => k_is)
    (case l => k_is)
    (case c => k_is)
    (case k => k_is)
  have f__law_said_fewer : L2.D1.RowF (L2.KOf KX) mg "_law_said_fewer" L2.D1.sSaid := by
    dsimp only [L2.KOf]
    refine' L2.D1.rowF KX G ?a ?l ?c ?k
    (case a => k_is)
    (case l => k_is)
    (case c => k_is)
    (case k => k_is)
  have f__law_viable : L2.D1.RowF (L2.KOf KX) mg "_law_viable" L2.D1.sViable := by
    dsimp only [L2.KOf]
    refine' L2.D1.rowF KX G ?a ?l ?c ?k
    (case a => k_is)
    (case l => k_is)
    (case c => k_is)
    (case k => k_is)
  have f__law_sayable : L2.D1.RowF (L2.KOf KX) mg "_law_sayable" L2.D1.sSay := by
    dsimp only [L2.KOf]
    refine' L2.D1.rowF KX G ?a ?l ?c ?k
    (case a => k_is)
    (case l => k_is)
    (case c => k_is)
    (case k => k_is)
  have f__law_name : L2.D1.RowF (L2.KOf KX) mg "_law_name" L2.D1.sName := by
    dsimp only [L2.KOf]
    refine' L2.D1.rowF KX G ?a ?l ?c ?k
    (case a => k_is)
    (case l => k_is)
    (case c => k_is)
    (case k => k_is)
  have f__law_partner : L2.D1.RowF (L2.KOf KX) mg "_law_partner" L2.D1.sPart := by
    dsimp only [L2.KOf]
    refine' L2.D1.rowF KX G ?a ?l ?c ?k
    (case a => k_is)
    (case l => k_is)
    (case c => k_is)
    (case k => k_is)
  have f__law_closed : L2.D1.RowF (L2.KOf KX) mg "_law_closed" L2.D1.sLClosed := by
    dsimp only [L2.KOf]
    refine' L2.D1.rowF KX G ?a ?l ?c ?k
    (case a => k_is)
    (case l => k_is)
    (case c => k_is)
    (case k => k_is)
  have f__law_row_of : L2.D1.RowF (L2.KOf KX) mg "_law_row_of" L2.D1.sRowOf := by
    dsimp only [L2.KOf]
    refine' L2.D1.rowF KX G ?a ?l ?c ?k
    (case a => k_is)
    (case l => k_is)
    (case c => k_is)
    (case k => k_is)
  have f__law_ended : L2.D1.RowF (L2.KOf KX) mg "_law_ended" L2.D1.sEnded := by
    dsimp only [L2.KOf]
    refine' L2.D1.rowF KX G ?a ?l ?c ?k
    (case a => k_is)
    (case l => k_is)
    (case c => k_is)
    (case k => k_is)
  have f__law_round_two : L2.D1.RowF (L2.KOf KX) mg "_law_round_two" L2.D1.sRound := by
    dsimp only [L2.KOf]
    refine' L2.D1.rowF KX G ?a ?l ?c ?k
    (case a => k_is)
    (case l => k_is)
    (case c => k_is)
    (case k => k_is)
  have f__law_safer : L2.D1.RowF (L2.KOf KX) mg "_law_safer" L2.D1.sSafer := by
    dsimp only [L2.KOf]
    refine' L2.D1.rowF KX G ?a ?l ?c ?k
    (case a => k_is)
    (case l => k_is)
    (case c => k_is)
    (case k => k_is)
  have f__law_two : L2.D1.RowF (L2.KOf KX) mg "_law_two" L2.D1.sTwo := by
    dsimp only [L2.KOf]
    refine' L2.D1.rowF KX G ?a ?l ?c ?k
    (case a => k_is)
    (case l => k_is)
    (case c => k_is)
    (case k => k_is)
  have f__law_fits : L2.D1.RowF (L2.KOf KX) mg "_law_fits" L2.D1.sLFits := by
    dsimp only [L2.KOf]
    refine' L2.D1.rowF KX G ?a ?l ?c ?k
    (case a => k_is)
    (case l => k_is)
    (case c => k_is)
    (case k => k_is)
  have f__law_plain_steps : L2.D1.RowF (L2.KOf KX) mg "_law_plain_steps" L2.D1.sPlain := by
    dsimp only [L2.KOf]
    refine' L2.D1.rowF KX G ?a ?l ?c ?k
    (case a => k_is)
    (case l => k_is)
    (case c => k_is)
    (case k => k_is)
  have f__law_is_table : L2.D1.RowF (L2.KOf KX) mg "_law_is_table" L2.D1.sIsTab := by
    dsimp only [L2.KOf]
    refine' L2.D1.rowF KX G ?a ?l ?c ?k
    (case a => k_is)
    (case l => k_is)
    (case c => k_is)
    (case k => k_is)
  have f__law_tables_of : L2.D1.RowF (L2.KOf KX) mg "_law_tables_of" L2.D1.sTabs := by
    dsimp only [L2.KOf]
    refine' L2.D1.rowF KX G ?a ?l ?c ?k
    (case a => k_is)
    (case l => k_is)
    (case c => k_is)
    (case k => k_is)
  have f__law_bent : L2.D1.RowF (L2.KOf KX) mg "_law_bent" L2.D1.sBent51 := by
    dsimp only [L2.KOf]
    refine' L2.D1.rowF KX G ?a ?l ?c ?k
    (case a => k_is)
    (case l => k_is)
    (case c => k_is)
    (case k => k_is)
  have f__law_judged : L2.D1.RowF (L2.KOf KX) mg "_law_judged" L2.D1.sJudged := by
    dsimp only [L2.KOf]
    refine' L2.D1.rowF KX G ?a ?l ?c ?k
    (case a => k_is)
    (case l => k_is)
    (case c => k_is)
    (case k => k_is)
  have f__law_two_right : L2.D1.RowF (L2.KOf KX) mg "_law_two_right" L2.D1.sTwoR51 := by
    dsimp only [L2.KOf]
    refine' L2.D1.rowF KX G ?a ?l ?c ?k
    (case a => k_is)
    (case l => k_is)
    (case c => k_is)
    (case k => k_is)
  have f_law : L2.D1.RowF (L2.KOf KX) mg "law" L2.D1.sLaw := by
    dsimp only [L2.KOf]
    refine' L2.D1.rowF KX G ?a ?l ?c ?k
    (case a => k_is)
    (case l => k_is)
    (case c => k_is)
    (case k => k_is)
  have dr : ∃ C, L2.D1.DeskRow (L2.KOf KX) mg C := by
    dsimp only [L2.KOf]
    refine' L2.D1.deskRow KX G ?aC ?pg ?hd ?po ?sa ?nB ?nS ?ca ?gs ?ss ?mo ?mk ?kp ?m0 ?m1 ?m2 ?m3
    (case aC => k_is)
    (case pg => k_is)
    (case hd => k_is)
    (case po => k_is)
    (case sa => k_is)
    (case nB => k_is)
    (case nS => k_is)
    (case ca => k_is)
    (case gs => k_is)
    (case ss => k_is)
    (case mo => k_is)
    (case mk => k_is)
    (case kp => k_is)
    (case m0 => refine' L2.D1.rowM KX ?a ?i ?l ?c ?k; (case a => k_is); (case i => k_is); (case l => k_is); (case c => k_is); (case k => k_is))
    (case m1 => refine' L2.D1.rowM KX ?a ?i ?l ?c ?k; (case a => k_is); (case i => k_is); (case l => k_is); (case c => k_is); (case k => k_is))
    (case m2 => refine' L2.D1.rowM KX ?a ?i ?l ?c ?k; (case a => k_is); (case i => k_is); (case l => k_is); (case c => k_is); (case k => k_is))
    (case m3 => refine' L2.D1.rowM KX ?a ?i ?l ?c ?k; (case a => k_is); (case i => k_is); (case l => k_is); (case c => k_is); (case k => k_is))
  have nf : ∀ C f, mg "Desk" = some (.ref C) → PySem.W.findIn (L2.KOf KX) (.ref C) "__eq__" = some (some (.ref f)) → L2.D2.NeF (L2.KOf KX) C f := by
    dsimp only [L2.KOf]
    refine' L2.D1.neRow KX G ?aC ?a1 ?l ?lN ?hk ?e1 ?e2 ?lI ?tI
    (case aC => k_is)
    (case a1 => k_is)
    (case l => k_is)
    (case lN => k_is)
    (case e1 => k_is)
    (case e2 => k_is)
    (case lI => k_is)
    (case tI => rfl)
    (case hk => repeat (first | exact True.intro | refine And.intro (Exists.intro _ (Exists.intro _ rfl)) ?_))
  have T3 : L2.D1.Free3 mg := ⟨⟨⟨PySem.W.mg_none_of KX G (by k_is), PySem.W.mg_none_of KX G (by k_is), PySem.W.mg_none_of KX G (by k_is), PySem.W.mg_none_of KX G (by k_is), PySem.W.mg_none_of KX G (by k_is), PySem.W.mg_none_of KX G (by k_is), PySem.W.mg_none_of KX G (by k_is), PySem.W.mg_none_of KX G (by k_is), PySem.W.mg_none_of KX G (by k_is)⟩, PySem.W.mg_none_of KX G (by k_is), PySem.W.mg_none_of KX G (by k_is), PySem.W.mg_none_of KX G (by k_is), PySem.W.mg_none_of KX G (by k_is), PySem.W.mg_none_of KX G (by k_is), PySem.W.mg_none_of KX G (by k_is), PySem.W.mg_none_of KX G (by k_is)⟩, ⟨_, PySem.W.mg_of KX G (by k_is)⟩, ⟨_, PySem.W.mg_of KX G (by k_is)⟩⟩
  have T : L2.D1.Free4 mg := ⟨T3, PySem.W.mg_none_of KX G (by k_is)⟩
  have mr : L2.D1.MroD (L2.KOf KX) mg := by
    dsimp only [L2.KOf]
    refine' L2.D1.mroRow KX G ?aC ?oD ?oL ?oT ?oB
    (case aC => k_is)
    (case oD => k_is)
    (case oL => k_is)
    (case oT => k_is)
    (case oB => k_is)
  exact L2.D1.law_of hmg T dr nf mr f_is_name f_is_row f_is_state_of f_is_ascending f_is_book f_ordered_turns f_ordered_book f_need_desk f_is_pair_of f_books_of f_first_pair f_is_fitting f_shared_steps f_is_safe_table f__law_purse f__law_mixed f__law_draw f__law_purses f__law_one_of f__law_shuffled f__law_same f__law_exact f__law_word f__law_words f__law_pool f__law_turns f__law_world f__law_shape f__law_desk f__law_turned f__law_changed_row f__law_newer f__law_said_fewer f__law_viable f__law_sayable f__law_name f__law_partner f__law_closed f__law_row_of f__law_ended f__law_round_two f__law_safer f__law_two f__law_fits f__law_plain_steps f__law_is_table f__law_tables_of f__law_bent f__law_judged f__law_two_right f_law)
