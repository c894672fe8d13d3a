import PyProof.Rows.All
import Wide.All
import OpenK.AllK
import Wide.FinOn
import HandS.ForMost
import HandS.Wide
import HandS.WideBits
import HandS.WideMore
import HandS.More
import HandS.DictComp
import HandS.Walk
import HandS.Conv
import HandS.Flow
import HandS.TryOnly
import HandS.IsInst
import HandS.Zip
import HandS.Codes
import HandS.OwnEq
import KE.KEqNest
import HandS.Style
import KE.KExcIs
import HandS.Exc
import HandS.ExcInit
import HandS.Defaults
import HandS.ExcValue
import HandS.WordsExc
import HandS.ExcOwn
import HandS.ExcField
import HandS.DictTup
import HandS.SortOrd
import HandS.MakeKw
import HandS.ExcIs
import PySem.Challenge.RW_endswell_k08_whole_talks_of_books
set_option Elab.async false
set_option linter.all false
set_option maxRecDepth 100000
set_option exponentiation.threshold 4000
section
open PySem PySem.W PyProof.Rows
set_option maxHeartbeats 0
open_top head for PySem.Challenge.rw_endswell_k08_whole_talks_of_books
end
set_option maxHeartbeats 8100000
/-! the law's draws: a purse, mixed, draw -/
namespace L2
namespace D1
open PySem PySem.Spec PyProof.Rows
def top (i : Nat) : Stmt := PySem.Challenge.pw_endswell_k08_whole_talks_of_books.main.body.getD i (.Pass ⟨0, 0, 0, 0⟩)
abbrev sPurse : Stmt := top 32
abbrev sMixed : Stmt := top 33
abbrev sDraw : Stmt := top 34
abbrev sPurses : Stmt := top 35
abbrev sOneOf : Stmt := top 36
abbrev sWord : Stmt := top 39
/-- the built-ins' names are free -/
structure Free (mg : Str → Option Value) : Prop where
  sum : mg "sum" = none
  int : mg "int" = none
  max : mg "max" = none
  min : mg "min" = none
  len : mg "len" = none
  range : mg "range" = none
  repr : mg "repr" = none
  isi : mg "isinstance" = none
  all : mg "all" = none
/-- a purse: what is left of a great number, a seed, turns taken, its place -/
def Purse (H : Hp) (p : Addr) (t : Int) : Prop := ∃ g b z : Int, H p = some (.lst [.int g, .int b, .int t, .int z]) ∧ 0 ≤ g ∧ g < 10 ^ 480 ∧ 0 ≤ b ∧ b < 2147483629 ∧ 0 ≤ z ∧ z < 64 ∧ 0 ≤ t
theorem Purse.same {H H' : Hp} {p : Addr} {t : Int} (h : Purse H p t) (s : Same H H') : Purse H' p t := by
  obtain ⟨g, b, z, e, r⟩ := h; exact ⟨g, b, z, s _ _ e, r⟩
def spPurse (K : PySem.W.Frag) : Sp := fun vs H Q _ => ∃ (a : Addr) (ns : List Int) (z : Int), vs = [.ref a, .int z] ∧ SqL K H a (ns.map V.int) ∧ 0 ≤ z ∧ z < 64 ∧ ∀ H' p, Same H H' → H p = none → Purse H' p 0 → Q (.ref p) H'
def spMixed : Sp := fun vs H Q _ => ∃ (s t z : Int), vs = [.int s, .int t, .int z] ∧ 0 ≤ t ∧ t < 2 ^ 40 ∧ ∀ r : Int, 0 ≤ r → r < 2 ^ 31 → Q (.int r) H
def spDraw : Sp := fun vs H Q _ => ∃ (p : Addr) (m t : Int), vs = [.ref p, .int m] ∧ Purse H p t ∧ 1 ≤ m ∧ m < 2 ^ 27 ∧ t < 2 ^ 30 ∧ ∀ (r t' : Int) (o : HO), 0 ≤ r → r < m → t' ≤ t + 1 → Purse (upd H p o) p t' → Q (.int r) (upd H p o)
theorem op_powW {X : Cx} : OpR X (binaryOp .Pow) (rI (fun i j => 0 ≤ j ∧ (Builtin.Int.intBits i : Int) * j ≤ 2 ^ 27) fun i j => .int (i ^ j.toNat)) := opI fun _ _ _ _ _ _ _ hc q => pow_int hc.1 hc.2 q
theorem cut_ints (ns : List Int) (lo hi : Option Int) : ∃ ms : List Int, cutV (ns.map V.int) lo hi = ms.map V.int :=
  ⟨(ns.drop (HT.sIx ns.length 0 lo)).take (HT.sIx ns.length ns.length hi - HT.sIx ns.length 0 lo), by simp [cutV, List.map_drop, List.map_take]⟩
section
variable {P : Program} {w : World} {K : PySem.W.Frag} {mg : Str → Option Value} {base : Heap}
theorem scP : FnScope ["_law_script", "_law_at", "_law_seed"] ["_law_script", "_law_at"] (defScope sPurse) := ⟨rfl, rfl, rfl, by decide +kernel, rfl, by decide +kernel, by decide +kernel⟩
theorem ok_purse {f : Addr} {fd : FuncData} (F : Fun K "_law_purse" "_law_purse" sPurse f fd) (T : Free mg) : FnOk P w K mg base CX0 1 f fd ["_law_script", "_law_at"] (spPurse K) := by
  refine F.ok scP (fun vs H Q E h => ?_) (fun cdv A outer s H vs Q E hr h => ?_)
  · obtain ⟨a, ns, z, rfl, _⟩ := h; rfl
  · obtain ⟨a, ns, z, rfl, hS, z0, z1, k⟩ := h
    refine ⟨_, pss_cons (ps_set (i := 2) scP.nd rfl (Or.inl rfl) (pe_callB (cr_sum rfl) (by rfl) T.sum (by decide +kernel) (pa_cons (pe_slice sl_list (pv 0) (po_some (pv 1)) (po_some (pe_op op_add (pv 1) pe_int))) pa_nil)))
      (pss_one (ps_ret (pe_lst (pa_cons (pe_op op_mod (pe_callTy call_int1 (by rfl) T.int (by decide +kernel) (pa_cons (pe_callB (call_max2 rfl) (by rfl) T.max (by decide +kernel) (pa_cons (pe_op op_sub (pv 2) (pe_op op_pow pe_int pe_int)) (pa_cons pe_int pa_nil))) pa_nil)) (pe_op op_powW (pe_op op_pow pe_int pe_int) pe_int))
        (pa_cons (pe_op op_mod (pe_callTy call_int1 (by rfl) T.int (by decide +kernel) (pa_cons (pv 2) pa_nil)) pe_int) (pa_cons pe_int (pa_cons (pv 1) pa_nil))))))), ?_⟩
    obtain ⟨ms, em⟩ := cut_ints ns (some z) (some (z + 1))
    refine ⟨_, rfl, _, rfl, _, rfl, _, rfl, _, _, rfl, rfl, _, rfl, a, _, rfl, hS, fun q hq => ?_⟩
    refine ⟨q, ms, rfl, SqL.of (by rw [upd_same, em]), ?_⟩
    refine ⟨_, rfl, _, _, rfl, rfl, ⟨by decide, by decide, by decide⟩, _, _, rfl, rfl, _, _, rfl, .inl ⟨_, rfl, ?_⟩⟩
    refine ⟨_, _, rfl, rfl, ⟨by decide, by decide, by decide⟩, _, _, rfl, rfl, ⟨by decide, by decide +kernel⟩, _, _, rfl, rfl, (by show (0 : Int) < (10 ^ Int.toNat 60) ^ Int.toNat 8; decide +kernel), ?_⟩
    refine ⟨_, rfl, .inl ⟨_, rfl, _, _, rfl, rfl, (by show (0 : Int) < 2147483629; decide), _, rfl, by show 4 ≤ sizeLine; decide, fun p hp => ?_⟩⟩
    have hpq : p ≠ q := fun e => by rw [e, upd_same] at hp; cases hp
    have hp0 : H p = none := by rw [upd_ne hpq] at hp; exact hp
    refine k _ p (fun b o e => ?_) hp0 ⟨_, _, _, upd_same, ?_⟩
    · rw [upd_ne (ne_of_none e hp0), upd_ne (ne_of_none e hq)]; exact e
    · exact ⟨Int.emod_nonneg _ (by decide +kernel), Int.emod_lt_of_pos _ (by decide +kernel), Int.emod_nonneg _ (by decide), Int.emod_lt_of_pos _ (by decide), z0, z1, Int.le_refl _⟩
theorem scM : FnScope ["_law_seed", "_law_turn", "_law_at", "_law_mixed_here"] ["_law_seed", "_law_turn", "_law_at"] (defScope sMixed) := ⟨rfl, rfl, rfl, by decide +kernel, rfl, by decide +kernel, by decide +kernel⟩
theorem ok_mixed {f : Addr} {fd : FuncData} (F : Fun K "_law_mixed" "_law_mixed" sMixed f fd) (T : Free mg) : FnOk P w K mg base CX0 1 f fd ["_law_seed", "_law_turn", "_law_at"] spMixed := by
  refine F.ok scM (fun vs H Q E h => ?_) (fun cdv A outer s H vs Q E hr h => ?_)
  · obtain ⟨a, t, z, rfl, _⟩ := h; rfl
  · obtain ⟨a, t, z, rfl, t0, t1, k⟩ := h
    refine ⟨_, pss_cons (ps_set (i := 3) scM.nd rfl (Or.inl rfl) (pe_op op_add (pe_op op_mul (pv 0) pe_int) (pe_op op_mul (pe_op op_mul pe_int (pv 1)) (pv 1))))
      (pss_cons (ps_set (i := 3) scM.nd rfl (Or.inl rfl) (pe_op op_mod (pe_callTy call_int1 (by rfl) T.int (by decide +kernel) (pa_cons (pe_op op_add (pe_op op_add (pv 3) (pe_op op_mul pe_int (pv 2))) (pv 1)) pa_nil)) pe_int))
      (pss_cons (ps_set (i := 3) scM.nd rfl (Or.inl rfl) (pe_op op_mod (pe_callTy call_int1 (by rfl) T.int (by decide +kernel) (pa_cons (pe_op op_add (pe_op op_mul (pv 3) (pv 3)) pe_int) pa_nil)) pe_int))
      (pss_one (ps_ret (pe_op op_mod (pe_callTy call_int1 (by rfl) T.int (by decide +kernel) (pa_cons (pe_op op_mul (pv 3) pe_int) pa_nil)) pe_int))))), ?_⟩
    refine ⟨_, rfl, _, _, rfl, rfl, .inr ⟨by decide, by decide⟩, _, rfl, _, _, rfl, rfl, .inl ⟨by decide, by decide⟩, _, rfl, _, _, rfl, rfl, .inr ⟨by omega, by omega⟩, _, _, rfl, rfl, ?_⟩
    refine ⟨_, rfl, _, rfl, _, _, rfl, rfl, .inl ⟨by decide, by decide⟩, _, _, rfl, rfl, _, rfl, _, _, rfl, rfl, .inl ⟨_, rfl, _, _, rfl, rfl, (by show (0 : Int) < 2147483647; decide), ?_⟩⟩
    generalize hm : (a * 69069 + 104729 * t * t + 7919 * z + t) % 2147483647 = m
    have m0 : 0 ≤ m := by rw [← hm]; exact Int.emod_nonneg _ (by decide)
    have m1 : m < 2147483647 := by rw [← hm]; exact Int.emod_lt_of_pos _ (by decide)
    refine ⟨_, rfl, _, rfl, _, _, rfl, rfl, .inl ⟨by omega, by omega⟩, _, _, rfl, rfl, .inl ⟨_, rfl, _, _, rfl, rfl, (by show (0 : Int) < 2147483629; decide), ?_⟩⟩
    refine ⟨_, rfl, _, _, rfl, rfl, .inr ⟨by decide, by decide⟩, .inl ⟨_, rfl, _, _, rfl, rfl, (by show (0 : Int) < 2147483587; decide), ?_⟩⟩
    exact k _ (Int.emod_nonneg _ (by decide)) (Int.lt_trans (Int.emod_lt_of_pos _ (by decide)) (by decide))
theorem scD : FnScope ["_law_purse_here", "_law_many", "_law_drawn", "_law_found", "_law_piece"] ["_law_purse_here", "_law_many"] (defScope sDraw) := ⟨rfl, rfl, rfl, by decide +kernel, rfl, by decide +kernel, by decide +kernel⟩
theorem bits27 {m : Int} (h1 : 1 ≤ m) (h2 : m < 2 ^ 27) : ((Builtin.Int.intBits m : Nat) : Int) / 28 = 0 := by
  have h : Builtin.Int.intBits m ≤ 27 := PyProof.Rows.intBits_le (by omega)
  omega
theorem ok_draw {f fM : Addr} {fd fdM : FuncData} (F : Fun K "_law_draw" "_law_draw" sDraw f fd) (T : Free mg) (FM : Fun K "_law_mixed" "_law_mixed" sMixed fM fdM) (bM : Binds K fdM ["_law_seed", "_law_turn", "_law_at"] []) (gM : mg "_law_mixed" = some (.ref fM)) :
    FnOk P w K mg base CX0 2 f fd ["_law_purse_here", "_law_many"] spDraw := by
  have GM : FnOk P w K mg base CX0 1 fM fdM ["_law_seed", "_law_turn", "_law_at"] spMixed := ok_mixed FM T
  refine F.ok scD (fun vs H Q E h => ?_) (fun cdv A outer s H vs Q E hr h => ?_)
  · obtain ⟨p, m, t, rfl, _⟩ := h; rfl
  · obtain ⟨p, m, t, rfl, hp, m1, m2, t1, k⟩ := h
    refine ⟨_, pss_cons (ps_if (pt_cmpR op_gt (pe_ix ix_list (pv 0) pe_int (fun _ _ => rfl)) pe_int (nomark _))
        (pss_cons (ps_set (i := 2) scD.nd rfl (Or.inl rfl) (pe_op op_mod (pe_callTy call_int1 (by rfl) T.int (by decide +kernel) (pa_cons (pe_ix ix_list (pv 0) pe_int (fun _ _ => rfl)) pa_nil)) (pv 1)))
          (pss_cons (ps_asg (pe_op op_fdivW (pe_ix ix_list (pv 0) pe_int (fun _ _ => rfl)) (pv 1)) (pg_sub (pv 0) pe_int set_list)) (pss_one (ps_ret (pv 2))))) pss_nil)
      (pss_cons (ps_set (i := 3) scD.nd rfl (Or.inl rfl) pe_int)
      (pss_cons (ps_for PassesOwn.never rfl (pi_range1 rfl T.range (pa_cons (pe_op op_add pe_int (pe_op op_fdiv (pe_bits (pv 1)) pe_int)) pa_nil)) (pg_name (i := 4) scD.nd rfl (Or.inl rfl))
        (pss_cons (ps_asg (pe_op op_add (pe_ix ix_list (pv 0) pe_int (fun _ _ => rfl)) pe_int) (pg_sub (pv 0) pe_int set_list))
          (pss_one (ps_set (i := 3) scD.nd rfl (Or.inl rfl) (pe_op op_add (pe_op op_mul (pv 3) pe_int) (pe_call GM (hr.mono (by decide)) rfl gM FM.kp bM .nil pass0 (pa_cons (pe_ix ix_list (pv 0) pe_int (fun _ _ => rfl)) (pa_cons (pe_ix ix_list (pv 0) pe_int (fun _ _ => rfl)) (pa_cons (pe_ix ix_list (pv 0) pe_int (fun _ _ => rfl)) pa_nil)))))))))
      (pss_one (ps_ret (pe_op op_mod (pe_callTy call_int1 (by rfl) T.int (by decide +kernel) (pa_cons (pv 3) pa_nil)) (pv 1)))))), ?_⟩
    obtain ⟨g, b, z, hl, g0, g1, b0, b1, z0, z1, t0⟩ := hp
    refine ⟨_, rfl, p, _, 0, _, rfl, rfl, SqL.of hl, rfl, _, _, rfl, rfl, _, rfl, ?_⟩
    refine ite2 (fun c => ?_) (fun _ => ?_)
    · refine ⟨_, rfl, p, _, 0, _, rfl, rfl, SqL.of hl, rfl, .inl ⟨_, rfl, _, rfl, _, _, rfl, rfl, (by show (0 : Int) < m; omega), ?_⟩⟩
      refine ⟨_, rfl, p, _, 0, _, rfl, rfl, SqL.of hl, rfl, _, rfl, _, _, rfl, rfl, wide_div (b := 27) (by omega) (by omega) (by decide) (by decide), ?_⟩
      · refine ⟨_, rfl, p, _, 0, 0, rfl, rfl, hl, rfl, _, rfl, ?_⟩
        exact k _ t _ (Int.emod_nonneg _ (by omega)) (Int.emod_lt_of_pos _ (by omega)) (by omega) ⟨_, _, _, upd_same, Int.ediv_nonneg g0 (by omega), Int.lt_of_le_of_lt (Int.ediv_le_self _ g0) g1, b0, b1, z0, z1, t0⟩
    · have e1 := bits27 m1 m2
      refine ⟨_, rfl, m, rfl, _, _, rfl, rfl, ⟨by decide, by decide⟩, _, _, rfl, rfl, _, rfl, by rw [e1]; decide, by rw [e1]; decide, ?_⟩
      rw [e1]
      refine for_range (n := 1) (fun i σ H' => ∃ (fnd : Int) (v : Option V), σ = [some (.ref p), some (.int m), none, some (.int fnd), v] ∧ (i = 0 → H' = H) ∧ (0 < i → H' = upd H p (.lst [.int g, .int b, .int (t + 1), .int z]))) ⟨0, none, rfl, fun _ => rfl, fun c => absurd c (by decide)⟩ ?_ ?_
      · rintro i σ H' hi ⟨fnd, v, rfl, e0, _⟩
        obtain rfl : i = 0 := by omega
        obtain rfl := e0 rfl
        refine ⟨_, rfl, p, _, 2, _, rfl, rfl, SqL.of hl, rfl, _, _, rfl, rfl, _, rfl, p, _, 2, 2, rfl, rfl, hl, rfl, ?_⟩
        refine ⟨_, rfl, _, _, rfl, rfl, .inr ⟨by decide, by decide⟩, _, rfl, p, _, 1, _, rfl, rfl, SqL.of upd_same, rfl, _, rfl, p, _, 2, _, rfl, rfl, SqL.of upd_same, rfl, _, rfl, p, _, 3, _, rfl, rfl, SqL.of upd_same, rfl, ?_⟩
        refine ⟨_, _, _, rfl, by omega, by omega, fun r r0 r1 => ⟨_, _, rfl, rfl, _, _, rfl, fun c => absurd c (by decide), fun _ => rfl⟩⟩
      · rintro σ H' ⟨fnd, v, rfl, _, e2⟩
        obtain rfl := e2 (by decide)
        refine ⟨_, rfl, .inl ⟨_, rfl, _, rfl, _, _, rfl, rfl, (by show (0 : Int) < m; omega), ?_⟩⟩
        exact k _ (t + 1) _ (Int.emod_nonneg _ (by omega)) (Int.emod_lt_of_pos _ (by omega)) (Int.le_refl _) ⟨_, _, _, upd_same, g0, g1, b0, b1, z0, z1, by omega⟩
end
end D1
end L2
namespace L2
namespace D1
open PySem PySem.Spec PyProof.Rows
theorem Purse.upd {H : Hp} {p q : Addr} {t : Int} {o : HO} (h : Purse H p t) (n : p ≠ q) : Purse (upd H q o) p t := by
  obtain ⟨g, b, z, e, r⟩ := h; exact ⟨g, b, z, by rw [upd_ne n]; exact e, r⟩
theorem Purse.some {H : Hp} {p : Addr} {t : Int} (h : Purse H p t) : ∃ o, H p = some o := by
  obtain ⟨g, b, z, e, _⟩ := h; exact ⟨_, e⟩
/-- all that was tracked is as it was, but at p -/
def But (p : Addr) (H H' : Hp) : Prop := ∀ b o, b ≠ p → H b = some o → H' b = some o
theorem But.refl (p : Addr) (H : Hp) : But p H H := fun _ _ _ h => h
theorem But.upd (p : Addr) (H : Hp) (o : HO) : But p H (upd H p o) := fun b u n h => by rw [upd_ne n]; exact h
theorem But.trans {p : Addr} {H H1 H2 : Hp} (a : But p H H1) (b : But p H1 H2) : But p H H2 := fun c o n h => b c o n (a c o n h)
theorem But.of {p : Addr} {H H' : Hp} (s : Same H H') : But p H H' := fun b o _ h => s b o h
theorem Same.new {H : Hp} {a : Addr} {o : HO} (n : H a = none) : Same H (L2.upd H a o) := fun b u e => by rw [upd_ne (ne_of_none e n)]; exact e
def spPurses (K : PySem.W.Frag) : Sp := fun vs H Q _ => ∃ (a : Addr) (ns : List Int) (few : Int), vs = [.ref a, .int few] ∧ SqL K H a (ns.map V.int) ∧ ns.length ≤ 63 ∧ 1 ≤ few ∧ few ≤ 60 ∧
  ∀ (H' : Hp) (L : Addr) (ps : List Addr), Same H H' → H L = none → H' L = some (.lst (ps.map V.ref)) → (∀ p ∈ ps, H p = none ∧ Purse H' p 0) → ps.Nodup → L ∉ ps → ps.length ≤ 63 → Q (.ref L) H'
def spOneOf : Sp := fun vs H Q _ => ∃ (p L : Addr) (xs : List V) (t : Int), vs = [.ref p, .ref L] ∧ Purse H p t ∧ H L = some (.lst xs) ∧ L ≠ p ∧ 1 ≤ xs.length ∧ xs.length < 2 ^ 20 ∧ t < 2 ^ 30 ∧
  ∀ (i : Nat) (v : V) (t' : Int) (o : HO), xs[i]? = some v → t' ≤ t + 1 → Purse (L2.upd H p o) p t' → Q v (L2.upd H p o)
def spWord : Sp := fun vs H Q _ => ∃ (p : Addr) (t : Int), vs = [.ref p] ∧ Purse H p t ∧ t < 2 ^ 29 ∧
  ∀ (x : Str) (H' : Hp) (t' : Int), 1 ≤ x.length → x.length ≤ 8 → (∀ c ∈ x.cps.toList, 97 ≤ c ∧ c ≤ 122) → But p H H' → Purse H' p t' → t' ≤ t + 10 → Q (.str x) H'
section
variable {P : Program} {w : World} {K : PySem.W.Frag} {mg : Str → Option Value} {base : Heap}
theorem scPs : FnScope ["_law_script", "_law_few", "_law_at"] ["_law_script", "_law_few"] (defScope sPurses) := ⟨rfl, rfl, rfl, by decide +kernel, rfl, by decide +kernel, by decide +kernel⟩
theorem ok_purses {f fP : Addr} {fd fdP : FuncData} (F : Fun K "_law_purses" "_law_purses" sPurses f fd) (T : Free mg) (FP : Fun K "_law_purse" "_law_purse" sPurse fP fdP) (bP : Binds K fdP ["_law_script", "_law_at"] []) (gP : mg "_law_purse" = some (.ref fP)) :
    FnOk P w K mg base CX0 2 f fd ["_law_script", "_law_few"] (spPurses K) := by
  have GP : FnOk P w K mg base CX0 1 fP fdP ["_law_script", "_law_at"] (spPurse K) := ok_purse FP T
  refine F.ok scPs (fun vs H Q E h => ?_) (fun cdv A outer s H vs Q E hr h => ?_)
  · obtain ⟨a, ns, few, rfl, _⟩ := h; rfl
  · obtain ⟨a, ns, few, rfl, hS, l63, f1, f2, k⟩ := h
    refine ⟨_, pss_one (ps_ret (pe_lc (own := [("_law_at", 2)]) (g := gName 2) (tt := tYes) rfl scPs.nd
      (pi_range1 rfl T.range (pa_cons (pe_callB (call_max2 rfl) (by rfl) T.max (by decide +kernel) (pa_cons pe_int (pa_cons (pe_callB (call_min2 rfl) (by rfl) T.min (by decide +kernel) (pa_cons (pv 1) (pa_cons (pe_callB call_len_seq (by rfl) T.len PySem.boot_len (pa_cons (pv 0) pa_nil)) pa_nil))) pa_nil))) pa_nil))
      (blkOk_by (N := ["_law_script", "_law_few", "_law_at"]) (sc := defScope sPurses) (by decide +kernel)) (fun _ _ _ _ _ => pg_name (i := 2) scPs.nd rfl (Or.inl rfl)) (fun _ _ _ _ _ => pts_nil)
      (fun _ _ _ _ _ => pe_call GP (hr.mono (by decide)) rfl gP FP.kp bP .nil pass0 (pa_cons (pv 0) (pa_cons (pv 2) pa_nil))))), ?_⟩
    refine ⟨_, rfl, _, rfl, a, _, rfl, .inl hS, few, _, rfl, ?_⟩
    rw [List.length_map]
    generalize hm : (if (ns.length : Int) < few then (ns.length : Int) else few) = m
    have m0 : 0 ≤ m ∧ m ≤ 60 := by rw [← hm]; split <;> omega
    refine ⟨1, m, rfl, ?_⟩
    generalize hj : (if m > 1 then m else (1 : Int)) = j
    have j0 : 1 ≤ j ∧ j ≤ 60 := by rw [← hj]; split <;> omega
    refine ⟨j, rfl, by omega, by omega, fun D hD => ?_⟩
    refine lc_range (n := j.toNat) (fun i H' => ∃ ps : List Addr, ps.length = i ∧ Same H H' ∧ H' D = some (.lst (ps.map V.ref)) ∧ (∀ p ∈ ps, H p = none ∧ Purse H' p 0) ∧ ps.Nodup ∧ D ∉ ps)
      ⟨[], rfl, Same.new hD, upd_same, (fun p hp => by cases hp), List.nodup_nil, by simp⟩ ?_ ?_
    · rintro i H1 hi ⟨ps, lp, sm, hL, al, nd, nD⟩
      refine ⟨rfl, ?_⟩
      dsimp only [tYes]
      rw [if_pos rfl]
      refine ⟨_, rfl, _, rfl, a, ns, _, rfl, sm.seq hS, by omega, by omega, fun H2 p s2 np hp => ?_⟩
      have hD2 := s2 _ _ hL
      have npD : p ≠ D := fun e => by rw [e, hL] at np; cases np
      refine ⟨_, hD2, by rw [List.length_map, lp, sizeLine_eq]; omega, ps ++ [p], by rw [List.length_append, lp]; rfl, fun b o e => ?_, ?_, fun q hq => ?_, ?_, ?_⟩
      · rw [upd_ne (ne_of_none e hD)]; exact s2 _ _ (sm _ _ e)
      · rw [upd_same, List.map_append]; rfl
      · rcases List.mem_append.mp hq with hq | hq
        · obtain ⟨q0, qp⟩ := al q hq
          exact ⟨q0, (qp.same s2).upd fun e => nD (e ▸ hq)⟩
        · obtain rfl : q = p := by simpa using hq
          exact ⟨sm.free np, hp.upd npD⟩
      · refine List.nodup_append.mpr ⟨nd, by simp, fun x hx y hy e => ?_⟩
        obtain rfl : y = p := by simpa using hy
        obtain ⟨_, qp⟩ := al x hx
        obtain ⟨o, ho⟩ := qp.some
        rw [e, np] at ho; cases ho
      · intro z
        rcases List.mem_append.mp z with z | z
        · exact nD z
        · exact npD (by simpa using z : D = p).symm
    · rintro H1 ⟨ps, lp, sm, hL, al, nd, nD⟩
      exact k H1 D ps sm hD hL al nd nD (by omega)
theorem scO : FnScope ["_law_purse_here", "_law_some"] ["_law_purse_here", "_law_some"] (defScope sOneOf) := ⟨rfl, rfl, rfl, by decide +kernel, rfl, by decide +kernel, by decide +kernel⟩
theorem ok_oneof {f fD : Addr} {fd fdD : FuncData} (F : Fun K "_law_one_of" "_law_one_of" sOneOf f fd) (T : Free mg) (kD : PySem.W.keepIn K (.ref fD) = true) (GD : FnOk P w K mg base CX0 2 fD fdD ["_law_purse_here", "_law_many"] spDraw) (bD : Binds K fdD ["_law_purse_here", "_law_many"] []) (gD : mg "_law_draw" = some (.ref fD)) :
    FnOk P w K mg base CX0 3 f fd ["_law_purse_here", "_law_some"] spOneOf := by
  refine F.ok scO (fun vs H Q E h => ?_) (fun cdv A outer s H vs Q E hr h => ?_)
  · obtain ⟨p, L, xs, t, rfl, _⟩ := h; rfl
  · obtain ⟨p, L, xs, t, rfl, hp, hL, ne, l1, l2, t1, k⟩ := h
    refine ⟨_, pss_one (ps_ret (pe_ix ix_list (pv 1) (pe_call GD (hr.mono (by decide)) rfl gD kD bD .nil pass0 (pa_cons (pv 0) (pa_cons (pe_callB call_len_seq (by rfl) T.len PySem.boot_len (pa_cons (pv 1) pa_nil)) pa_nil))) (fun _ _ => rfl))), ?_⟩
    refine ⟨_, rfl, _, rfl, _, rfl, L, _, rfl, .inl (SqL.of hL), p, _, t, rfl, hp, by omega, by omega, t1, fun r t' o r0 r1 tt hp' => ?_⟩
    have hr2 : r.toNat < xs.length := by omega
    refine ⟨L, xs, r, xs[r.toNat], rfl, rfl, SqL.of (by rw [upd_ne ne]; exact hL), at_of (j := r.toNat) (by omega) (List.getElem?_eq_getElem hr2), ?_⟩
    exact k r.toNat _ t' o (List.getElem?_eq_getElem hr2) tt hp'
/-- single letters -/
def Let (y : Str) : Prop := ∃ c, 97 ≤ c ∧ c ≤ 122 ∧ y = ⟨#[c]⟩
theorem joinL_nil : ∀ ys : List (List Nat), (∀ y ∈ ys, ∃ c, 97 ≤ c ∧ c ≤ 122 ∧ y = [c]) → (TL.joinL [] ys).length = ys.length ∧ ∀ c ∈ TL.joinL [] ys, 97 ≤ c ∧ c ≤ 122
  | [], _ => ⟨rfl, fun c h => by cases h⟩
  | [p], h => by
    obtain ⟨c, c1, c2, rfl⟩ := h p (List.mem_singleton.mpr rfl)
    exact ⟨rfl, fun d hd => by obtain rfl : d = c := List.mem_singleton.mp hd; exact ⟨c1, c2⟩⟩
  | p :: q :: r, h => by
    obtain ⟨c, c1, c2, rfl⟩ := h p List.mem_cons_self
    obtain ⟨l, m⟩ := joinL_nil (q :: r) fun y hy => h y (List.mem_cons_of_mem _ hy)
    show ([c] ++ ([] ++ TL.joinL [] (q :: r))).length = _ ∧ ∀ d ∈ ([c] ++ ([] ++ TL.joinL [] (q :: r))), _
    refine ⟨by rw [List.length_append, List.nil_append, l]; simp; omega, fun d hd => ?_⟩
    rcases List.mem_append.mp hd with hd | hd
    · obtain rfl : d = c := List.mem_singleton.mp hd; exact ⟨c1, c2⟩
    · exact m d (by simpa using hd)
theorem word_of {ys : List Str} (h : ∀ y ∈ ys, Let y) : (Txt.join "" ys).length = ys.length ∧ ∀ c ∈ (Txt.join "" ys).cps.toList, 97 ≤ c ∧ c ≤ 122 := by
  have e : (Txt.join "" ys).cps.toList = TL.joinL [] (ys.map TL.tl) := by rw [TL.join_eq]; exact TL.tl_join "" ys
  obtain ⟨a, b⟩ := joinL_nil (ys.map TL.tl) fun y hy => by
    obtain ⟨z, hz, rfl⟩ := List.mem_map.mp hy
    obtain ⟨c, c1, c2, rfl⟩ := h z hz
    exact ⟨c, c1, c2, rfl⟩
  rw [List.length_map] at a
  refine ⟨?_, fun c hc => b c (e ▸ hc)⟩
  show (Txt.join "" ys).cps.size = _
  rw [← Array.length_toList, e, a]
theorem abc_at (r : Int) (r0 : 0 ≤ r) (r1 : r < 26) : ∃ c, atI (Str.ofString "abcdefghijklmnopqrstuvwxyz").cps.toList r = some c ∧ 97 ≤ c ∧ c ≤ 122 := by
  have h : ∀ j : Fin 26, ∃ c, (Str.ofString "abcdefghijklmnopqrstuvwxyz").cps.toList[j.val]? = some c ∧ 97 ≤ c ∧ c ≤ 122 := by
    intro j
    refine ⟨97 + j.val, ?_, by omega, by omega⟩
    revert j
    decide +kernel
  obtain ⟨c, e, q⟩ := h ⟨r.toNat, by omega⟩
  refine ⟨c, ?_, q⟩
  rw [show r = ((r.toNat : Nat) : Int) by omega]
  exact atI_nat e
theorem scW : FnScope ["_law_purse_here", "_law_size", "_law_turn"] ["_law_purse_here"] (defScope sWord) := ⟨rfl, rfl, rfl, by decide +kernel, rfl, by decide +kernel, by decide +kernel⟩
theorem ok_word {f fD : Addr} {fd fdD : FuncData} (F : Fun K "_law_word" "_law_word" sWord f fd) (T : Free mg) (kD : PySem.W.keepIn K (.ref fD) = true) (GD : FnOk P w K mg base CX0 2 fD fdD ["_law_purse_here", "_law_many"] spDraw) (bD : Binds K fdD ["_law_purse_here", "_law_many"] []) (gD : mg "_law_draw" = some (.ref fD)) :
    FnOk P w K mg base CX0 3 f fd ["_law_purse_here"] spWord := by
  refine F.ok scW (fun vs H Q E h => ?_) (fun cdv A outer s H vs Q E hr h => ?_)
  · obtain ⟨p, t, rfl, _⟩ := h; rfl
  · obtain ⟨p, t, rfl, hp, t1, k⟩ := h
    refine ⟨_, pss_cons (ps_set (i := 1) scW.nd rfl (Or.inl rfl) (pe_op op_add pe_int (pe_call GD (hr.mono (by decide)) rfl gD kD bD .nil pass0 (pa_cons (pv 0) (pa_cons (pe_ifExp (pt_cmpR op_eq (pe_call GD (hr.mono (by decide)) rfl gD kD bD .nil pass0 (pa_cons (pv 0) (pa_cons pe_int pa_nil))) pe_int (nomark _)) pe_int pe_int) pa_nil)))))
      (pss_one (ps_ret (pe_join pe_str (pe_lc (own := [("_law_turn", 2)]) (g := gName 2) (tt := tYes) rfl scW.nd (pi_range1 rfl T.range (pa_cons (pv 1) pa_nil))
        (blkOk_by (N := ["_law_purse_here", "_law_size", "_law_turn"]) (sc := defScope sWord) (by decide +kernel)) (fun _ _ _ _ _ => pg_name (i := 2) scW.nd rfl (Or.inl rfl)) (fun _ _ _ _ _ => pts_nil)
        (fun _ _ _ _ _ => pe_ix ix_str pe_str (pe_call GD (hr.mono (by decide)) rfl gD kD bD .nil pass0 (pa_cons (pv 0) (pa_cons pe_int pa_nil))) (fun _ _ => rfl)))))), ?_⟩
    refine ⟨_, rfl, _, rfl, p, 3, t, rfl, hp, by decide, by decide, by omega, fun r1 t2 o1 r10 r11 tt1 hp1 => ?_⟩
    refine ⟨rfl, _, rfl, ?_⟩
    refine ite2 (fun _ => ?_) (fun _ => ?_) <;> refine ⟨p, _, t2, rfl, hp1, by decide, by decide, by omega, fun r2 t3 o2 r20 r21 tt2 hp2 => ⟨_, _, rfl, rfl, ?_⟩⟩
    all_goals
      have rb : r2 < 8 := by omega
      clear r21
      have bt : But p H (L2.upd (L2.upd H p o1) p o2) := (But.upd p H o1).trans (But.upd p _ o2)
      generalize L2.upd (L2.upd H p o1) p o2 = H0 at hp2 bt
      refine ⟨⟨_, rfl⟩, _, rfl, _, rfl, by omega, by omega, fun D hD => ?_⟩
      have nD : p ≠ D := by obtain ⟨o, ho⟩ := hp2.some; exact ne_of_none ho hD
      refine lc_range (n := (1 + r2).toNat) (fun i H' => ∃ ys : List Str, ys.length = i ∧ (∀ y ∈ ys, Let y) ∧ H' D = some (.lst (ys.map V.str)) ∧ But p H0 H' ∧ ∃ t', Purse H' p t' ∧ t' ≤ t + 2 + i) ⟨[], rfl, (fun y hy => by cases hy), upd_same, But.of (Same.new hD), t3, hp2.upd nD, by omega⟩ ?_ ?_
      · rintro i H1 hi ⟨ys, ly, al, hL, b1, t', hp', tl'⟩
        refine ⟨rfl, ?_⟩
        dsimp only [tYes]
        rw [if_pos rfl]
        refine ⟨_, rfl, p, 26, t', rfl, hp', by decide, by decide, by omega, fun r t4 o r0 r1 tt hp4 => ?_⟩
        obtain ⟨c, ec, c1, c2⟩ := abc_at r r0 r1
        refine ⟨_, r, c, rfl, rfl, by decide +kernel, ec, _, by rw [upd_ne nD.symm]; exact hL, by rw [List.length_map, ly, sizeLine_eq]; omega, ys ++ [⟨#[c]⟩], by rw [List.length_append, ly]; rfl, fun y hy => ?_, ?_, ?_, t4, hp4.upd nD, by omega⟩
        · rcases List.mem_append.mp hy with hy | hy
          · exact al y hy
          · exact ⟨c, c1, c2, by simpa using hy⟩
        · rw [upd_same, List.map_append]; rfl
        · intro b u nb e
          have nbD : b ≠ D := ne_of_none e hD
          rw [upd_ne nbD, upd_ne nb]; exact b1 b u nb e
      · rintro H1 ⟨ys, ly, al, hL, b1, t', hp', tl'⟩
        obtain ⟨lw, cw⟩ := word_of al
        refine ⟨_, D, ys, rfl, rfl, .inl (SqL.of hL), ?_, ?_⟩
        · have one : (ys.map (·.length)).sum ≤ ys.length := by
            clear lw cw hL ly
            induction ys with
            | nil => exact Nat.le_refl _
            | cons y r ih =>
              obtain ⟨c, _, _, rfl⟩ := al y List.mem_cons_self
              have := ih fun z hz => al z (List.mem_cons_of_mem _ hz)
              simp only [List.map_cons, List.sum_cons, List.length_cons]
              show 1 + _ ≤ _
              omega
          have z0 : (Str.ofString "").length = 0 := rfl
          rw [z0]; omega
        · exact k _ H1 t' (by rw [lw]; omega) (by rw [lw]; omega) cw (bt.trans b1) hp' (by omega)
end
end D1
end L2
/-! what is hidden of a heap; shuffled -/
namespace L2
namespace D1
open PySem PySem.Spec PyProof.Rows
/-- the heap without what stands at S -/
def cut (S : List Addr) (H : Hp) : Hp := fun b => if b ∈ S then none else H b
section
variable {S : List Addr} {H H' : Hp} {p q D : Addr} {o : HO}
theorem cut_in (h : q ∈ S) : cut S H q = none := if_pos h
theorem cut_out (h : q ∉ S) : cut S H q = H q := if_neg h
theorem cut_some {u : HO} (h : cut S H q = some u) : q ∉ S ∧ H q = some u := by
  unfold cut at h
  split at h
  · cases h
  · exact ⟨by assumption, h⟩
theorem cut_le : Same (cut S H) H := fun _ _ h => (cut_some h).2
theorem cut_mono {S' : List Addr} (h : ∀ b ∈ S', b ∈ S) : Same (cut S H) (cut S' H) := fun b o e => by
  obtain ⟨n, e⟩ := cut_some e
  rw [cut_out fun z => n (h b z)]; exact e
theorem cut_upd (h : q ∈ S) : cut S (upd H q o) = cut S H := by
  funext b
  by_cases hb : b ∈ S
  · rw [cut_in hb, cut_in hb]
  · rw [cut_out hb, cut_out hb, upd_ne fun e => hb (by rw [e]; exact h)]
theorem cut_same (s : Same H H') : Same (cut S H) (cut S H') := fun b o e => by
  obtain ⟨n, e⟩ := cut_some e
  rw [cut_out n]; exact s _ _ e
theorem cut_but (s : But p H H') (h : p ∈ S) : Same (cut S H) (cut S H') := fun b o e => by
  obtain ⟨n, e⟩ := cut_some e
  rw [cut_out n]; exact s _ _ (fun z => n (z ▸ h)) e
theorem cut_new (n : H q = none) : Same (cut S H) (cut S (upd H q o)) := cut_same (Same.new n)
/-- what is new may be hidden -/
theorem cut_hide (n : H q = none) : Same (cut S H) (cut (q :: S) H) := fun b o e => by
  obtain ⟨m, e⟩ := cut_some e
  rw [cut_out fun z => by rcases List.mem_cons.mp z with z | z; exact absurd e (by rw [z, n]; exact fun y => by cases y); exact m z]; exact e
theorem cut_nil : Same H (cut [] H) := fun b o e => by rw [cut_out (by simp)]; exact e
theorem But.cut (s : But p H H') : Same (cut [p] H) (cut [p] H') := cut_but s (by simp)
theorem But.new (n : H q = none) : But p H (L2.upd H q o) := But.of (Same.new n)
/-- a list of texts -/
def SL (H : Hp) (a : Addr) (ss : List Str) : Prop := H a = some (.lst (ss.map V.str))
theorem SL.same {a : Addr} {ss : List Str} (h : SL H a ss) (s : Same H H') : SL H' a ss := s _ _ h
theorem SL.sq {K : PySem.W.Frag} {a : Addr} {ss : List Str} (h : SL H a ss) : SqL K H a (ss.map V.str) := SqL.of h
end
theorem perm_ins {α : Type} (xs : List α) (i : Nat) (y : α) : (xs.take i ++ [y] ++ xs.drop i).Perm (xs ++ [y]) := by
  have h : (xs.take i ++ ([y] ++ xs.drop i)).Perm (xs.take i ++ (xs.drop i ++ [y])) := (List.perm_append_comm).append_left _
  rw [List.append_assoc]
  refine h.trans ?_
  rw [← List.append_assoc, List.take_append_drop]
theorem take_succ_get {α : Type} {xs : List α} {i : Nat} {x : α} (h : xs[i]? = some x) : xs.take (i + 1) = xs.take i ++ [x] := by
  rw [List.take_succ, h]; rfl
abbrev sShuf : Stmt := top 37
def spShuf : Sp := fun vs H Q _ => ∃ (p L : Addr) (xs : List V) (t : Int), vs = [.ref p, .ref L] ∧ Purse H p t ∧ H L = some (.lst xs) ∧ L ≠ p ∧ xs.length ≤ 1000 ∧ t < 2 ^ 29 ∧
  ∀ (H' : Hp) (R : Addr) (ys : List V) (t' : Int), But p H H' → H R = none → H' R = some (.lst ys) → ys.Perm xs → Purse H' p t' → t' ≤ t + xs.length → Q (.ref R) H'
section
variable {P : Program} {w : World} {K : PySem.W.Frag} {mg : Str → Option Value} {base : Heap}
theorem scSh : FnScope ["_law_purse_here", "_law_some", "_law_found", "_law_item"] ["_law_purse_here", "_law_some"] (defScope sShuf) := ⟨rfl, rfl, rfl, by decide +kernel, rfl, by decide +kernel, by decide +kernel⟩
theorem ok_shuf {f fD : Addr} {fd fdD : FuncData} (F : Fun K "_law_shuffled" "_law_shuffled" sShuf f fd) (T : Free mg) (kD : PySem.W.keepIn K (.ref fD) = true) (GD : FnOk P w K mg base CX0 2 fD fdD ["_law_purse_here", "_law_many"] spDraw) (bD : Binds K fdD ["_law_purse_here", "_law_many"] []) (gD : mg "_law_draw" = some (.ref fD)) :
    FnOk P w K mg base CX0 3 f fd ["_law_purse_here", "_law_some"] spShuf := by
  refine F.ok scSh (fun vs H Q E h => ?_) (fun cdv A outer s H vs Q E hr h => ?_)
  · obtain ⟨p, L, xs, t, rfl, _⟩ := h; rfl
  · obtain ⟨p, L, xs, t, rfl, hp, hL, ne, l1, t1, k⟩ := h
    refine ⟨_, pss_cons (ps_set (i := 2) scSh.nd rfl (Or.inl rfl) (pe_lst pa_nil))
      (pss_cons (ps_for PassesOwn.never rfl (pi_list (pv 1)) (pg_name (i := 3) scSh.nd rfl (Or.inl rfl))
        (pss_one (ps_expr (pe_bm PySem.F.plainAttrs_list PySem.F.slot_list_insert PySem.F.type_list_insert mt_insert (pv 2)
          (pa_cons (pe_call GD (hr.mono (by decide)) rfl gD kD bD .nil pass0 (pa_cons (pv 0) (pa_cons (pe_op op_add (pe_callB call_len_seq (by rfl) T.len PySem.boot_len (pa_cons (pv 2) pa_nil)) pe_int) pa_nil))) (pa_cons (pv 3) pa_nil))))))
      (pss_one (ps_ret (pv 2)))), ?_⟩
    refine ⟨by decide, fun D hD => ?_⟩
    have nD : p ≠ D := by obtain ⟨o, ho⟩ := hp.some; exact ne_of_none ho hD
    have nL : L ≠ D := ne_of_none hL hD
    refine ⟨_, rfl, L, rfl, ⟨_, SqL.of (by rw [upd_ne nL]; exact hL)⟩, for_list (xs := xs) (K := K) (fun i σ H' => ∃ (v : Option V) (ys : List V) (t' : Int), σ = [some (.ref p), some (.ref L), some (.ref D), v] ∧ But p H H' ∧ H' D = some (.lst ys) ∧ ys.Perm (xs.take i) ∧ Purse H' p t' ∧ t' ≤ t + i) ⟨none, [], t, rfl, But.new hD, upd_same, by simp, hp.upd nD, by omega⟩ ?_ ?_ ?_⟩
    · rintro i σ H' hi ⟨v, ys, t', rfl, b, _⟩
      exact SqL.of (b _ _ ne hL)
    · rintro i x σ H' hx ⟨v, ys, t', rfl, b, hD', pm, hp', tt⟩
      have hi : i < xs.length := (List.getElem?_eq_some_iff.mp hx).1
      have ly : ys.length = i := by rw [pm.length_eq, List.length_take]; omega
      refine ⟨_, rfl, .inl ⟨rfl, _, SqL.of hD'⟩, _, rfl, _, rfl, D, _, rfl, .inl (SqL.of hD'), _, _, rfl, rfl, p, _, t', rfl, hp', by omega, by omega, by omega, fun r t2 o r0 r1 tt2 hp2 => ?_⟩
      refine ⟨_, rfl, D, ys, r, x, rfl, rfl, by rw [upd_ne nD.symm]; exact hD', by rw [sizeLine_eq]; omega, r0, by omega, ?_⟩
      refine ⟨_, _, t2, rfl, ?_, upd_same, ?_, hp2.upd nD, by omega⟩
      · intro b' u nb e
        rw [upd_ne (ne_of_none e hD), upd_ne nb]; exact b b' u nb e
      · rw [take_succ_get hx]
        exact (perm_ins ys _ x).trans (pm.append_right _)
    · rintro σ H' ⟨v, ys, t', rfl, b, hD', pm, hp', tt⟩
      rw [List.take_length] at pm
      exact ⟨_, rfl, k H' D ys t' b hD hD' pm hp' tt⟩
end
end D1
end L2
/-! calls told in one piece; list of a text; words -/
namespace L2
namespace D1
open PySem PySem.Spec PyProof.Rows
/-- the def that stands under the name x keeps a promise -/
structure Cal (P : Program) (w : World) (K : PySem.W.Frag) (mg : Str → Option Value) (base : Heap) (x : Str) (k : Nat) (ps : List Str) (sp : Sp) : Prop where
  ex : ∃ f fd, mg x = some (.ref f) ∧ PySem.W.keepIn K (.ref f) = true ∧ FnOk P w K mg base CX0 k f fd ps sp ∧ Binds K fd ps []
theorem pe_cal {X : Cx} {x : Str} {k : Nat} {ps : List Str} {sp : Sp} {e : Expr} {es : List Expr} {t : TA} {p pos : Pos} (C : Cal X.prog X.w X.K X.mg X.base x k ps sp) (hr : Room k X.A) (hg : Gl X x) (ha : PA X (e :: es) t)
    (hdb : (x == ("__debug__" : Str)) = false := by decide) (he : starEach (e :: es) X.env = (false, eval e X.env) :: starEach es X.env := by rfl) (hpl : (backTo pos (starEach es X.env)).any (·.1) = false := by rfl) :
    PE X (.Call (.Name x p) (e :: es) [] pos) (tCall sp [] E0 t) := by
  obtain ⟨f, fd, h1, h2, h3, h4⟩ := C.ex
  exact pe_call h3 hr hg h1 h2 h4 .nil pass0 ha hdb he hpl
theorem Cal.of {P : Program} {w : World} {K : PySem.W.Frag} {mg : Str → Option Value} {base : Heap} {x : Str} {k : Nat} {ps : List Str} {sp : Sp} {f : Addr} {fd : FuncData} (g : mg x = some (.ref f)) (kp : PySem.W.keepIn K (.ref f) = true) (F : FnOk P w K mg base CX0 k f fd ps sp) (b : Binds K fd ps []) : Cal P w K mg base x k ps sp := ⟨⟨f, fd, g, kp, F, b⟩⟩
def signs (z : Str) : List Str := z.cps.toList.map fun c => ⟨#[c]⟩
theorem call_listStr {X : Cx} (hc : X.calm = true) : CallR X (.type "list") (fun xs H Q => ∃ z : Str, xs = [.str z] ∧ z.cps.size ≤ sizeLine ∧ ∀ l, H l = none → Q (.ref l) (upd H l (.lst ((signs z).map V.str)))) := by
  intro pins s σ H xs us Q I r h
  obtain ⟨z, rfl, hz, q⟩ := h
  obtain ⟨u, rfl, t, rfl⟩ := vals1 r
  refine PySem.call_list_str (I.ok.hd hc) z t (fun h' tk acc' c' hkeep hS hacc => ?_) hz
  refine ⟨.ref s.heap.objs.size, upd H s.heap.objs.size (.lst ((signs z).map V.str)), I.laid hkeep (Nat.le_refl _) (show ObjOk X.prog X.w _ _ _ (.lst ((signs z).map V.str)) from ⟨?_, acc'.toList, c', ?_, ?_⟩), rfl, q _ (I.hok.fresh (Nat.le_refl _))⟩
  · rw [List.length_map, signs, List.length_map, Array.length_toList]; exact hz
  · have el : acc'.toList.length = acc'.size := by simp
    refine vals_of_at (by rw [List.length_map, signs, List.length_map, Array.length_toList, el, hacc.1]) fun j x w h1 h2 => ?_
    obtain ⟨c, v, hc, rfl⟩ := hacc.2 j w (by rw [← Array.getElem?_toList]; exact h2)
    rw [signs, List.map_map, List.getElem?_map, Array.getElem?_toList, hc] at h1
    cases h1
    exact ⟨v, rfl⟩
  · rw [Array.toArray_toList]; exact hS
def tl (x : Str) : List Nat := x.cps.toList
theorem tl_len (x : Str) : (tl x).length = x.length := Array.length_toList
theorem tl_app (x y : Str) : tl (x ++ y) = tl x ++ tl y := by
  show (x.cps ++ y.cps).toList = _
  rw [Array.toList_append]; rfl
theorem tl_ext {x y : Str} (h : tl x = tl y) : x = y := by
  cases x; cases y; exact congrArg _ (Array.toList_inj.mp h)
theorem tl_cut (z : Str) (lo hi : Option Int) : tl (cutS z lo hi) = ((tl z).drop (HT.sIx z.length 0 lo)).take (HT.sIx z.length z.length hi - HT.sIx z.length 0 lo) := rfl
/-- a word -/
structure Wd (x : Str) : Prop where
  lo : 1 ≤ x.length
  hi : x.length ≤ 8
  ok : ∀ c ∈ tl x, 97 ≤ c ∧ c ≤ 122
theorem wd_let {c : Nat} (h1 : 97 ≤ c) (h2 : c ≤ 122) : Wd ⟨#[c]⟩ := ⟨by show 1 ≤ 1; decide, by show 1 ≤ 8; decide, fun d hd => by obtain rfl : d = c := List.mem_singleton.mp hd; exact ⟨h1, h2⟩⟩
theorem sIx_of {n d : Nat} {r : Int} (h : 0 ≤ r) : HT.sIx n d (some r) = min r.toNat n := by
  show (if r < 0 then _ else _) = _
  rw [if_neg (by omega)]
theorem wd_bent {b : Str} {r : Int} {c : Nat} (h : Wd b) (r0 : 0 ≤ r) (r1 : r < b.length) (h1 : 97 ≤ c) (h2 : c ≤ 122) : Wd (cutS b none (some r) ++ ⟨#[c]⟩ ++ cutS b (some (r + 1)) none) := by
  have e : tl (cutS b none (some r) ++ ⟨#[c]⟩ ++ cutS b (some (r + 1)) none) = (tl b).take r.toNat ++ [c] ++ (tl b).drop (r + 1).toNat := by
    rw [tl_app, tl_app, tl_cut, tl_cut, HT.sIx_none, HT.sIx_none, sIx_of r0, sIx_of (by omega), Nat.min_eq_left (by omega), Nat.min_eq_left (by omega), Nat.sub_zero, List.drop_zero]
    congr 1
    refine List.take_of_length_le ?_
    rw [List.length_drop, tl_len]; omega
  have l : (cutS b none (some r) ++ ⟨#[c]⟩ ++ cutS b (some (r + 1)) none).length = b.length := by
    rw [← tl_len, e, List.length_append, List.length_append, List.length_take, List.length_drop, tl_len]
    simp only [List.length_singleton]
    omega
  refine ⟨by rw [l]; exact h.lo, by rw [l]; exact h.hi, fun d hd => ?_⟩
  rw [e] at hd
  rcases List.mem_append.mp hd with hd | hd
  · rcases List.mem_append.mp hd with hd | hd
    · exact h.ok d (List.mem_of_mem_take hd)
    · obtain rfl : d = c := List.mem_singleton.mp hd; exact ⟨h1, h2⟩
  · exact h.ok d (List.mem_of_mem_drop hd)
theorem inV_str (x : Str) : ∀ ss : List Str, inV (.str x) (ss.map V.str) = decide (x ∈ ss)
  | [] => by simp [inV]
  | y :: r => by
    have ih := inV_str x r
    unfold inV at ih ⊢
    rw [List.map_cons, List.any_cons, ih]
    show (y == x || decide (x ∈ r)) = _
    by_cases h : y = x
    · subst h; simp
    · have h1 : (y == x) = false := beq_eq_false_iff_ne.mpr h
      have h2 : ¬ x = y := fun e => h e.symm
      rw [h1, Bool.false_or]
      by_cases h3 : x ∈ r <;> simp [h2, h3]
theorem flat_strs (ss : List Str) : (ss.map V.str).all flatV = true := by
  induction ss with
  | nil => rfl
  | cons a r ih => rw [List.map_cons, List.all_cons, ih]; rfl
theorem pigeon {α : Type} [DecidableEq α] : ∀ (l m : List α), l.Nodup → (∀ x ∈ l, x ∈ m) → l.length ≤ m.length
  | [], _, _, _ => Nat.zero_le _
  | x :: r, m, nd, h => by
    have nd' := List.nodup_cons.mp nd
    have hx := h x List.mem_cons_self
    have ih := pigeon r (m.erase x) nd'.2 fun y hy => (List.mem_erase_of_ne fun e => nd'.1 (by rw [← e]; exact hy)).mpr (h y (List.mem_cons_of_mem _ hy))
    rw [List.length_erase_of_mem hx] at ih
    have : 0 < m.length := List.length_pos_of_mem hx
    rw [List.length_cons]; omega
def abc : Str := Str.ofString "abcdefghijklmnopqrstuvwxyz"
theorem abc_len : (signs abc).length = 26 := by decide +kernel
theorem abc_nd : (signs abc).Nodup := by decide +kernel
theorem abc_wd : ∀ x ∈ signs abc, Wd x := by
  have h : ∀ c ∈ tl abc, 97 ≤ c ∧ c ≤ 122 := by decide +kernel
  intro x hx
  obtain ⟨c, hc, rfl⟩ := List.mem_map.mp hx
  exact wd_let (h c hc).1 (h c hc).2
theorem abc_left {ss : List Str} (h : ss.length < 26) : ∃ x r, (signs abc).filter (fun x => decide (x ∉ ss)) = x :: r ∧ x ∉ ss ∧ Wd x := by
  cases e : (signs abc).filter (fun x => decide (x ∉ ss)) with
  | nil =>
    exfalso
    have := pigeon (signs abc) ss abc_nd fun x hx => Classical.byContradiction fun n => by
      have : x ∈ (signs abc).filter (fun x => decide (x ∉ ss)) := List.mem_filter.mpr ⟨hx, by simpa using n⟩
      rw [e] at this; cases this
    rw [abc_len] at this; omega
  | cons x r =>
    have h1 : x ∈ (signs abc).filter (fun x => decide (x ∉ ss)) := by rw [e]; exact List.mem_cons_self
    obtain ⟨h2, h3⟩ := List.mem_filter.mp h1
    exact ⟨x, r, rfl, by simpa using h3, abc_wd x h2⟩
end D1
end L2
/-! words, pool -/
namespace L2
namespace D1
open PySem PySem.Spec PyProof.Rows
structure Free2 (mg : Str → Option Value) : Prop extends Free mg where
  list : mg "list" = none
  dict : mg "dict" = none
  tuple : mg "tuple" = none
  str : mg "str" = none
  bool : mg "bool" = none
  zip : mg "zip" = none
  sorted : mg "sorted" = none
abbrev sWords : Stmt := top 40
abbrev sPool : Stmt := top 41
def spWords : Sp := fun vs H Q _ => ∃ (p : Addr) (n t : Int), vs = [.ref p, .int n] ∧ Purse H p t ∧ 0 ≤ n ∧ n ≤ 20 ∧ t < 2 ^ 28 ∧
  ∀ (H' : Hp) (R : Addr) (ss : List Str) (t' : Int), But p H H' → H R = none → SL H' R ss → ss.length = n.toNat → ss.Nodup → (∀ x ∈ ss, Wd x) → Purse H' p t' → t' ≤ t + 300 → Q (.ref R) H'
theorem upd_none' {H : Hp} {a b : Addr} {o : HO} (e : L2.upd H a o b = none) : H b = none := by
  by_cases h : b = a
  · rw [h, upd_same] at e; cases e
  · rw [upd_ne h] at e; exact e
theorem But.fr {p b : Addr} {H H' : Hp} (h : But p H H') (e : H' b = none) (n : b ≠ p) : H b = none := by
  cases z : H b with
  | none => rfl
  | some o => rw [h b o n z] at e; cases e
theorem But.ofL {p L : Addr} {H0 H : Hp} {o : HO} (n : H0 L = Option.none) : But p H0 H → But p H0 (L2.upd H L o) := fun s b u nb e => by
  rw [upd_ne (ne_of_none e n)]; exact s b u nb e
theorem get_map {α β : Type} {f : α → β} {l : List α} {i : Nat} {y : β} (h : (l.map f)[i]? = some y) : ∃ x, l[i]? = some x ∧ y = f x := by
  rw [List.getElem?_map] at h
  obtain ⟨x, h1, h2⟩ := Option.map_eq_some_iff.mp h
  exact ⟨x, h1, h2.symm⟩
theorem nodup_app {α : Type} {l : List α} {x : α} (h : l.Nodup) (n : x ∉ l) : (l ++ [x]).Nodup :=
  List.nodup_append.mpr ⟨h, by simp, fun a ha b hb e => by obtain rfl : b = x := List.mem_singleton.mp hb; exact n (e ▸ ha)⟩
theorem wd_app {l : List Str} {x : Str} (h : ∀ y ∈ l, Wd y) (w : Wd x) : ∀ y ∈ l ++ [x], Wd y := fun y hy => by
  rcases List.mem_append.mp hy with hy | hy
  · exact h y hy
  · obtain rfl : y = x := List.mem_singleton.mp hy; exact w
theorem filt_yes {α : Type} {l : List α} {j : Nat} {z : α} {f : α → Bool} (h : l[j]? = some z) (b : f z = true) : (l.take (j + 1)).filter f = (l.take j).filter f ++ [z] := by
  rw [take_succ_get h, List.filter_append]; simp [List.filter, b]
theorem filt_no {α : Type} {l : List α} {j : Nat} {z : α} {f : α → Bool} (h : l[j]? = some z) (b : f z = false) : (l.take (j + 1)).filter f = (l.take j).filter f := by
  rw [take_succ_get h, List.filter_append]; simp [List.filter, b]
theorem cut_len (z : Str) (lo hi : Option Int) : (cutS z lo hi).length ≤ z.length := by
  rw [← tl_len, tl_cut, List.length_take, List.length_drop, tl_len]; omega
theorem bent_len1 {b : Str} {r : Int} {c : Nat} (h : Wd b) : (cutS b none (some r)).length + (⟨#[c]⟩ : Str).length ≤ sizeLine := by
  have := cut_len b none (some r); have := h.hi; rw [sizeLine_eq]; show _ + 1 ≤ _; omega
theorem bent_len2 {b : Str} {r r2 : Int} {c : Nat} (h : Wd b) : (cutS b none (some r) ++ ⟨#[c]⟩).length + (cutS b (some r2) none).length ≤ sizeLine := by
  have h1 := cut_len b none (some r); have h2 := cut_len b (some r2) none; have := h.hi
  rw [← tl_len, tl_app, List.length_append, tl_len, sizeLine_eq]
  show _ + 1 + _ ≤ _; omega
section
variable {P : Program} {w : World} {K : PySem.W.Frag} {mg : Str → Option Value} {base : Heap}
abbrev CDraw (P : Program) (w : World) (K : PySem.W.Frag) (mg : Str → Option Value) (base : Heap) := Cal P w K mg base "_law_draw" 2 ["_law_purse_here", "_law_many"] spDraw
abbrev CWord (P : Program) (w : World) (K : PySem.W.Frag) (mg : Str → Option Value) (base : Heap) := Cal P w K mg base "_law_word" 3 ["_law_purse_here"] spWord
abbrev CShuf (P : Program) (w : World) (K : PySem.W.Frag) (mg : Str → Option Value) (base : Heap) := Cal P w K mg base "_law_shuffled" 3 ["_law_purse_here", "_law_some"] spShuf
abbrev CWords (P : Program) (w : World) (K : PySem.W.Frag) (mg : Str → Option Value) (base : Heap) := Cal P w K mg base "_law_words" 4 ["_law_purse_here", "_law_many"] spWords
theorem scWs : FnScope ["_law_purse_here", "_law_many", "_law_base", "_law_near", "_law_spot", "_law_found", "_law_turn", "_law_word_here", "_law_letter"] ["_law_purse_here", "_law_many"] (defScope sWords) := ⟨rfl, rfl, rfl, by decide +kernel, rfl, by decide +kernel, by decide +kernel⟩
theorem ok_words {f : Addr} {fd : FuncData} (F : Fun K "_law_words" "_law_words" sWords f fd) (T : Free2 mg) (CD : CDraw P w K mg base) (CW : CWord P w K mg base) :
    FnOk P w K mg base CX0 4 f fd ["_law_purse_here", "_law_many"] spWords := by
  refine F.ok scWs (fun vs H Q E h => ?_) (fun cdv A outer s H vs Q E hr h => ?_)
  · obtain ⟨p, n, t, rfl, _⟩ := h; rfl
  · obtain ⟨p, n, t, rfl, hp, n0, n1, t1, k⟩ := h
    refine ⟨_, pss_cons (ps_par (i := 2) (j := 3) rfl scWs.nd rfl rfl (by decide) rfl rfl (pa_cons (pe_cal CW (hr.mono (by decide)) rfl (pa_cons (pv 0) pa_nil)) (pa_cons (pe_cmpR op_eq (pe_cal CD (hr.mono (by decide)) rfl (pa_cons (pv 0) (pa_cons pe_int pa_nil))) pe_int (nomark _)) pa_nil)) (by rfl))
      (pss_cons (ps_asg (pe_tup (pa_cons (pe_cal CD (hr.mono (by decide)) rfl (pa_cons (pv 0) (pa_cons (pe_callB call_len_str (by rfl) T.len PySem.boot_len (pa_cons (pv 2) pa_nil)) pa_nil))) (pa_cons (pe_lst pa_nil) pa_nil))) (pg_tup rfl (pgs_cons (pg_name (i := 4) scWs.nd rfl (Or.inl rfl)) (pgs_cons (pg_name (i := 5) scWs.nd rfl (Or.inr rfl)) pgs_nil))))
      (pss_cons (ps_for PassesOwn.never rfl (pi_range1 rfl T.range (pa_cons (pv 1) pa_nil)) (pg_name (i := 6) scWs.nd rfl (Or.inl rfl))
        (pss_cons (ps_set (i := 7) scWs.nd rfl (Or.inl rfl) (pe_op op_add_str (pe_op op_add_str (pe_slice sl_str (pv 2) po_none (po_some (pv 4))) (pe_ix ix_str pe_str (pe_cal CD (hr.mono (by decide)) rfl (pa_cons (pv 0) (pa_cons pe_int pa_nil))) (fun _ _ => rfl))) (pe_slice sl_str (pv 2) (po_some (pe_op op_add (pv 4) pe_int)) po_none)))
        (pss_cons (ps_if (pt_not (pt_truth (pv 3) (by intro _; rfl))) (pss_one (ps_set (i := 7) scWs.nd rfl (Or.inl rfl) (pe_cal CW (hr.mono (by decide)) rfl (pa_cons (pv 0) pa_nil)))) pss_nil)
        (pss_cons (ps_if (pt_cmpR op_in_seq (pv 7) (pv 5) rfl) (pss_one (ps_set (i := 7) scWs.nd rfl (Or.inl rfl) (pe_ix ix_list (pe_lc (own := [("_law_letter", 8)]) (g := gName 8) (tt := tTest (tOp (rIn K true) (tVar 8) (tVar 5))) rfl scWs.nd
            (pi_list (pe_callTy (call_listStr rfl) (by rfl) T.list (by decide +kernel) (pa_cons pe_str pa_nil)))
            (blkOk_by (N := ["_law_purse_here", "_law_many", "_law_base", "_law_near", "_law_spot", "_law_found", "_law_turn", "_law_word_here", "_law_letter"]) (sc := defScope sWords) (by decide +kernel)) (fun _ _ _ _ _ => pg_name (i := 8) scWs.nd rfl (Or.inl rfl))
            (fun _ _ _ _ _ => pts_one (pt_cmpR op_notIn_seq (pv 8) (pv 5) rfl)) (fun _ _ _ _ _ => pv 8)) pe_int (fun _ _ => rfl)))) pss_nil)
        (pss_one (ps_expr (pe_bm PySem.F.plainAttrs_list PySem.F.slot_list_append PySem.F.type_list_append mt_append (pv 5) (pa_cons (pv 7) pa_nil))))))))
      (pss_one (ps_ret (pv 5))))), ?_⟩
    refine ⟨_, rfl, p, t, rfl, hp, by omega, fun base' H1 t2 b1 b2 b3 bt1 hp1 tt1 => ?_⟩
    refine ⟨_, rfl, p, 3, t2, rfl, hp1, by decide, by decide, by omega, fun r t3 o r0 r1 tt2 hp2 => ?_⟩
    refine ⟨rfl, _, _, rfl, ?_⟩
    refine ⟨_, rfl, _, rfl, base', rfl, by have := sizeLine_eq; omega, p, _, t3, rfl, hp2, by omega, by omega, by omega, fun spot t4 o4 s0 s1 tt4 hp4 => ?_⟩
    refine ⟨Nat.zero_le _, fun L hL => ?_⟩
    refine ⟨by show 2 ≤ sizeLine; decide, fun T1 hT1 => ?_⟩
    have hL0 : H L = none := by
      have z := upd_none' (upd_none' hL)
      exact bt1.fr z (fun e => by obtain ⟨u, hu⟩ := hp1.some; rw [← e, z] at hu; cases hu)
    have npL : p ≠ L := by obtain ⟨u, hu⟩ := hp4.some; exact ne_of_none hu hL
    have nTL : L ≠ T1 := fun e => by rw [← e, upd_same] at hT1; cases hT1
    have npT : p ≠ T1 := by
      obtain ⟨u, hu⟩ := (hp4.upd (o := .lst []) npL).some
      exact ne_of_none hu hT1
    refine ⟨T1, _, rfl, SqT.of upd_same, rfl, _, _, rfl, _, _, rfl, rfl, ?_⟩
    have wb : Wd base' := ⟨b1, b2, b3⟩
    refine ⟨_, rfl, n, rfl, by omega, by omega, ?_⟩
    refine for_range (n := n.toNat) (fun i σ H' => ∃ (v6 v7 : Option V) (ss : List Str) (t' : Int), σ = [some (.ref p), some (.int n), some (.str base'), some (.bl (decide (V.int r = V.int 0))), some (.int spot), some (.ref L), v6, v7, none] ∧ But p H H' ∧ SL H' L ss ∧ ss.length = i ∧ ss.Nodup ∧ (∀ x ∈ ss, Wd x) ∧ Purse H' p t' ∧ t' ≤ t + 12 + 12 * i)
      ⟨none, none, [], t4, rfl, ?_, ?_, rfl, List.nodup_nil, (fun x hx => by cases hx), (hp4.upd npL).upd npT, by omega⟩ ?_ ?_
    · exact ((bt1.trans (But.upd p _ o)).trans (But.upd p _ o4)).trans ((But.new hL).trans (But.new hT1))
    · rw [SL, upd_ne nTL, upd_same]; rfl
    · rintro i σ HX hi ⟨v6, v7, ss, tX, rfl, bX, hLX, ls, nd, aw, hpX, ttX⟩
      have li : i < 20 := by omega
      refine ⟨_, rfl, _, rfl, _, rfl, base', rfl, by rw [sizeLine_eq]; omega, _, rfl, p, 26, tX, rfl, hpX, by decide, by decide, by omega, fun rc tY oY y0 y1 ttY hpY => ?_⟩
      obtain ⟨cc, ec, c1, c2⟩ := abc_at rc y0 y1
      refine ⟨_, rc, cc, rfl, rfl, by decide +kernel, ec, _, _, rfl, rfl, ?_, _, rfl, _, rfl, _, _, rfl, rfl, _, rfl, base', rfl, by rw [sizeLine_eq]; omega, _, _, rfl, rfl, ?_, ?_⟩
      · exact bent_len1 wb
      · exact bent_len2 wb
      have wwX := wd_bent wb s0 s1 c1 c2
      generalize cutS base' none (some spot) ++ ⟨#[cc]⟩ ++ cutS base' (some (spot + 1)) none = wX at wwX
      replace bX := bX.trans (But.upd p HX oY)
      replace hLX : SL (L2.upd HX p oY) L ss := by rw [SL, upd_ne npL.symm]; exact hLX
      replace hpX := hpY
      generalize L2.upd HX p oY = HX at bX hLX hpX
      clear hpY
      refine ⟨_, rfl, _, rfl, ?_⟩
      refine ite2 (fun _ => ?_) (fun _ => ?_)
      · refine ⟨_, rfl, p, tY, rfl, hpX, by omega, fun wX HX2 tX2 w1 w2 w3 btX hpX2 ttX2 => ?_⟩
        have wwX : Wd wX := ⟨w1, w2, w3⟩
        replace bX := bX.trans btX
        replace hLX : SL HX2 L ss := btX _ _ npL.symm hLX
        replace hpX := hpX2
        refine ⟨_, rfl, _, rfl, L, _, rfl, .inl hLX.sq, rfl, flat_strs ss, ?_⟩
        refine ⟨_, rfl, ?_⟩
        rw [if_neg (by decide), inV_str]
        refine ite2 (fun c => ?_) (fun c => ?_)
        · refine ⟨_, rfl, by decide +kernel, fun q hq => ⟨q, rfl, ⟨_, SqL.of upd_same⟩, fun D hD => ?_⟩⟩
          have nqL : L ≠ q := ne_of_none hLX hq
          have hDX : HX2 D = none := upd_none' hD
          have nDL : L ≠ D := ne_of_none hLX hDX
          have nDq : q ≠ D := fun e => by rw [e, upd_same] at hD; cases hD
          refine lc_list (K := K) (a := q) (xs := (signs abc).map V.str) (fun j H' => Same HX2 H' ∧ SL H' q (signs abc) ∧ SL H' D (((signs abc).take j).filter fun x => decide (x ∉ ss)))
            ⟨fun b u e => by rw [upd_ne (ne_of_none e hDX), upd_ne (ne_of_none e hq)]; exact e, by rw [SL, upd_ne nDq, upd_same]; rfl, by rw [SL, upd_same]; rfl⟩ (fun j H' _ z => z.2.1.sq) ?_ ?_
          · rintro j x H' hx ⟨sm, hq', hD'⟩
            obtain ⟨z, hz, rfl⟩ := get_map hx
            refine ⟨rfl, _, rfl, _, rfl, L, _, rfl, .inl (hLX.same sm).sq, rfl, flat_strs ss, ?_⟩
            refine ⟨_, rfl, ?_⟩
            rw [if_pos rfl, inV_str]
            have lj : j < 26 := by rw [← abc_len]; exact (List.getElem?_eq_some_iff.mp hz).1
            by_cases hzs : z ∈ ss
            · have e1 : decide (z ∈ ss) = true := decide_eq_true hzs
              rw [e1]
              refine iteF ?_
              refine ⟨sm, hq', ?_⟩
              rw [filt_no hz (by simpa using hzs)]
              exact hD'
            · have e1 : decide (z ∈ ss) = false := decide_eq_false hzs
              rw [e1]
              refine iteT ?_
              refine ⟨_, rfl, _, hD', by rw [List.length_map, sizeLine_eq]; exact Nat.lt_of_le_of_lt (List.length_filter_le _ _) (by rw [List.length_take]; omega), fun b u e => ?_, ?_, ?_⟩
              · rw [upd_ne (ne_of_none e hDX)]; exact sm _ _ e
              · rw [SL, upd_ne nDq]; exact hq'
              · rw [SL, upd_same, filt_yes hz (by simpa using hzs), List.map_append]
                rfl
          · rintro H' ⟨sm, hq', hD'⟩
            have lf : ((signs abc).map V.str).length = (signs abc).length := List.length_map _
            rw [lf, List.take_length] at hD'
            obtain ⟨x, rr, ex, nx, wx⟩ := abc_left (ss := ss) (by omega)
            refine ⟨D, _, 0, .str x, rfl, rfl, SqL.of hD', by rw [ex]; exact atI_nat (j := 0) rfl, ?_⟩
            refine ⟨_, rfl, .inl ⟨rfl, _, SqL.of (hLX.same sm)⟩, _, rfl, L, _, _, rfl, rfl, hLX.same sm, by rw [List.length_map, sizeLine_eq]; omega, ?_⟩
            exact ⟨_, _, ss ++ [x], tX2, rfl, But.ofL hL0 (bX.trans (But.of sm)), by rw [SL, upd_same, List.map_append]; rfl, by rw [List.length_append, ls]; rfl, nodup_app nd nx, wd_app aw wx, (hpX.same sm).upd npL, by omega⟩
        · refine ⟨_, rfl, .inl ⟨rfl, _, SqL.of hLX⟩, _, rfl, L, _, _, rfl, rfl, hLX, by rw [List.length_map, sizeLine_eq]; omega, ?_⟩
          exact ⟨_, _, ss ++ [wX], tX2, rfl, But.ofL hL0 bX, by rw [SL, upd_same, List.map_append]; rfl, by rw [List.length_append, ls]; rfl, nodup_app nd (of_decide_eq_false (Bool.eq_false_iff.mpr c)), wd_app aw wwX, hpX.upd npL, by omega⟩
      · refine ⟨_, rfl, _, rfl, L, _, rfl, .inl hLX.sq, rfl, flat_strs ss, ?_⟩
        refine ⟨_, rfl, ?_⟩
        rw [if_neg (by decide), inV_str]
        refine ite2 (fun c => ?_) (fun c => ?_)
        · refine ⟨_, rfl, by decide +kernel, fun q hq => ⟨q, rfl, ⟨_, SqL.of upd_same⟩, fun D hD => ?_⟩⟩
          have nqL : L ≠ q := ne_of_none hLX hq
          have hDX : HX D = none := upd_none' hD
          have nDL : L ≠ D := ne_of_none hLX hDX
          have nDq : q ≠ D := fun e => by rw [e, upd_same] at hD; cases hD
          refine lc_list (K := K) (a := q) (xs := (signs abc).map V.str) (fun j H' => Same HX H' ∧ SL H' q (signs abc) ∧ SL H' D (((signs abc).take j).filter fun x => decide (x ∉ ss)))
            ⟨fun b u e => by rw [upd_ne (ne_of_none e hDX), upd_ne (ne_of_none e hq)]; exact e, by rw [SL, upd_ne nDq, upd_same]; rfl, by rw [SL, upd_same]; rfl⟩ (fun j H' _ z => z.2.1.sq) ?_ ?_
          · rintro j x H' hx ⟨sm, hq', hD'⟩
            obtain ⟨z, hz, rfl⟩ := get_map hx
            refine ⟨rfl, _, rfl, _, rfl, L, _, rfl, .inl (hLX.same sm).sq, rfl, flat_strs ss, ?_⟩
            refine ⟨_, rfl, ?_⟩
            rw [if_pos rfl, inV_str]
            have lj : j < 26 := by rw [← abc_len]; exact (List.getElem?_eq_some_iff.mp hz).1
            by_cases hzs : z ∈ ss
            · have e1 : decide (z ∈ ss) = true := decide_eq_true hzs
              rw [e1]
              refine iteF ?_
              refine ⟨sm, hq', ?_⟩
              rw [filt_no hz (by simpa using hzs)]
              exact hD'
            · have e1 : decide (z ∈ ss) = false := decide_eq_false hzs
              rw [e1]
              refine iteT ?_
              refine ⟨_, rfl, _, hD', by rw [List.length_map, sizeLine_eq]; exact Nat.lt_of_le_of_lt (List.length_filter_le _ _) (by rw [List.length_take]; omega), fun b u e => ?_, ?_, ?_⟩
              · rw [upd_ne (ne_of_none e hDX)]; exact sm _ _ e
              · rw [SL, upd_ne nDq]; exact hq'
              · rw [SL, upd_same, filt_yes hz (by simpa using hzs), List.map_append]
                rfl
          · rintro H' ⟨sm, hq', hD'⟩
            have lf : ((signs abc).map V.str).length = (signs abc).length := List.length_map _
            rw [lf, List.take_length] at hD'
            obtain ⟨x, rr, ex, nx, wx⟩ := abc_left (ss := ss) (by omega)
            refine ⟨D, _, 0, .str x, rfl, rfl, SqL.of hD', by rw [ex]; exact atI_nat (j := 0) rfl, ?_⟩
            refine ⟨_, rfl, .inl ⟨rfl, _, SqL.of (hLX.same sm)⟩, _, rfl, L, _, _, rfl, rfl, hLX.same sm, by rw [List.length_map, sizeLine_eq]; omega, ?_⟩
            exact ⟨_, _, ss ++ [x], tY, rfl, But.ofL hL0 (bX.trans (But.of sm)), by rw [SL, upd_same, List.map_append]; rfl, by rw [List.length_append, ls]; rfl, nodup_app nd nx, wd_app aw wx, (hpX.same sm).upd npL, by omega⟩
        · refine ⟨_, rfl, .inl ⟨rfl, _, SqL.of hLX⟩, _, rfl, L, _, _, rfl, rfl, hLX, by rw [List.length_map, sizeLine_eq]; omega, ?_⟩
          exact ⟨_, _, ss ++ [wX], tY, rfl, But.ofL hL0 bX, by rw [SL, upd_same, List.map_append]; rfl, by rw [List.length_append, ls]; rfl, nodup_app nd (of_decide_eq_false (Bool.eq_false_iff.mpr c)), wd_app aw wwX, hpX.upd npL, by omega⟩
    · rintro σ H' ⟨v6, v7, ss, t', rfl, b, hS, ls, nd, aw, hp', tt⟩
      exact ⟨_, rfl, k H' L ss t' b hL0 hS ls nd aw hp' (by omega)⟩
end
end D1
end L2
/-! pool, turns -/
namespace L2
namespace D1
open PySem PySem.Spec PyProof.Rows
def unS : V → Str
  | .str x => x
  | _ => ""
theorem Purse.ne {H : Hp} {p q : Addr} {t : Int} (h : Purse H p t) (n : H q = none) : q ≠ p := by
  obtain ⟨u, hu⟩ := h.some; exact (ne_of_none hu n).symm
theorem Purse.new {H : Hp} {p q : Addr} {t : Int} {o : HO} (h : Purse H p t) (n : H q = none) : Purse (L2.upd H q o) p t := h.upd (h.ne n).symm
theorem SL.new {H : Hp} {q a : Addr} {ss : List Str} {o : HO} (h : SL H a ss) (n : H q = none) : SL (L2.upd H q o) a ss := h.same (Same.new n)
theorem But.newt {p q : Addr} {H H1 : Hp} {o : HO} (h : But p H H1) (n : H1 q = none) : But p H (L2.upd H1 q o) := h.trans (But.new n)
theorem unS_map (ss : List Str) : (ss.map V.str).map unS = ss := by
  rw [List.map_map]
  exact List.map_id'' (fun _ => rfl) ss
/-- a permutation of texts is one of texts -/
theorem perm_str {ys : List V} {ss : List Str} (h : ys.Perm (ss.map V.str)) : ∃ zs : List Str, ys = zs.map V.str ∧ zs.Perm ss := by
  have a : ∀ y ∈ ys, y = V.str (unS y) := fun y hy => by
    obtain ⟨x, _, rfl⟩ := List.mem_map.mp (h.mem_iff.mp hy)
    rfl
  refine ⟨ys.map unS, ?_, ?_⟩
  · rw [List.map_map]
    refine (List.map_congr_left (g := id) fun y hy => (a y hy).symm).trans ?_ |>.symm
    exact List.map_id ys
  · have := h.map unS
    rwa [unS_map] at this
def cutL {α : Type} (xs : List α) (lo hi : Option Int) : List α := (xs.drop (HT.sIx xs.length 0 lo)).take (HT.sIx xs.length xs.length hi - HT.sIx xs.length 0 lo)
theorem cutV_map (ss : List Str) (lo hi : Option Int) : cutV (ss.map V.str) lo hi = (cutL ss lo hi).map V.str := by
  unfold cutV cutL
  rw [List.length_map, List.map_take, List.map_drop]
theorem cutL_to {α : Type} (xs : List α) {k : Int} (h : 0 ≤ k) : cutL xs none (some k) = xs.take k.toNat := by
  unfold cutL
  rw [HT.sIx_none, sIx_of h, Nat.sub_zero, List.drop_zero]
  rcases Nat.le_total k.toNat xs.length with q | q
  · rw [Nat.min_eq_left q]
  · rw [Nat.min_eq_right q, List.take_of_length_le (Nat.le_refl _), List.take_of_length_le q]
theorem cutL_from {α : Type} (xs : List α) {k : Int} (h : 0 ≤ k) : cutL xs (some k) none = xs.drop k.toNat := by
  unfold cutL
  rw [HT.sIx_none, sIx_of h]
  rcases Nat.le_total k.toNat xs.length with q | q
  · rw [Nat.min_eq_left q]
    exact List.take_of_length_le (by rw [List.length_drop]; omega)
  · rw [Nat.min_eq_right q, List.drop_of_length_le (Nat.le_refl _), List.drop_of_length_le q, List.take_nil]
abbrev sTurns : Stmt := top 42
def spPool : Sp := fun vs H Q _ => ∃ (p : Addr) (t : Int), vs = [.ref p] ∧ Purse H p t ∧ t < 2 ^ 27 ∧
  ∀ (H' : Hp) (R : Addr) (ss : List Str) (t' : Int), But p H H' → H R = none → SL H' R ss → ss.length = 6 → ss.Nodup → (∀ x ∈ ss, Wd x) → Purse H' p t' → t' ≤ t + 400 → Q (.ref R) H'
/-- turns as they stand in a dict -/
def kT (ts : List (Str × Str)) : List (Key × V) := ts.map fun t => (Sum.inr t.1, V.str t.2)
def putT (ts : List (Str × Str)) (k v : Str) : List (Str × Str) := if (ts.any fun t => decide (t.1 = k)) = true then ts.map (fun t => if t.1 = k then (t.1, v) else t) else ts ++ [(k, v)]
theorem any_kT (ts : List (Str × Str)) (k : Str) : ((kT ts).any fun kv => decide (kv.1 = Sum.inr k)) = ts.any fun t => decide (t.1 = k) := by
  rw [kT, List.any_map]
  refine congrArg (fun f => ts.any f) (funext fun t => ?_)
  show decide ((Sum.inr t.1 : Key) = Sum.inr k) = _
  by_cases h : t.1 = k
  · rw [h]; simp
  · have : ¬ (Sum.inr t.1 : Key) = Sum.inr k := fun e => h (Sum.inr.inj e)
    simp [h, this]
theorem putK_kT (ts : List (Str × Str)) (k v : Str) : putK (kT ts) (.inr k) (.str v) = kT (putT ts k v) := by
  unfold putK putT
  rw [any_kT]
  by_cases h : (ts.any fun t => decide (t.1 = k)) = true
  · rw [if_pos h, if_pos h, kT, kT, List.map_map, List.map_map]
    refine List.map_congr_left fun t _ => ?_
    show (if (Sum.inr t.1 : Key) = Sum.inr k then ((Sum.inr t.1 : Key), V.str v) else ((Sum.inr t.1 : Key), V.str t.2)) = _
    by_cases e : t.1 = k
    · rw [if_pos (congrArg _ e)]; simp [e]
    · rw [if_neg fun z => e (Sum.inr.inj z)]; simp [e]
  · rw [if_neg h, if_neg h, kT, kT, List.map_append]
    rfl
theorem any_mem (ts : List (Str × Str)) (k : Str) : ((ts.any fun t => decide (t.1 = k)) = true) ↔ k ∈ ts.map (·.1) := by
  rw [List.any_eq_true]
  constructor
  · rintro ⟨t, ht, e⟩
    exact List.mem_map.mpr ⟨t, ht, of_decide_eq_true e⟩
  · intro h
    obtain ⟨t, ht, e⟩ := List.mem_map.mp h
    exact ⟨t, ht, decide_eq_true e⟩
theorem putT_keys (ts : List (Str × Str)) (k v : Str) : (putT ts k v).map (·.1) = if k ∈ ts.map (·.1) then ts.map (·.1) else ts.map (·.1) ++ [k] := by
  unfold putT
  by_cases h : (ts.any fun t => decide (t.1 = k)) = true
  · rw [if_pos h, if_pos ((any_mem ts k).mp h), List.map_map]
    refine List.map_congr_left fun t _ => ?_
    show (if t.1 = k then (t.1, v) else t).1 = t.1
    by_cases e : t.1 = k
    · rw [if_pos e]
    · rw [if_neg e]
  · rw [if_neg h, if_neg fun z => h ((any_mem ts k).mpr z), List.map_append]
    rfl
theorem putT_goal {ts : List (Str × Str)} {k v : Str} : ∀ t ∈ putT ts k v, t.2 = v ∨ t ∈ ts := by
  unfold putT
  intro t ht
  by_cases h : (ts.any fun t => decide (t.1 = k)) = true
  · rw [if_pos h] at ht
    obtain ⟨u, hu, e⟩ := List.mem_map.mp ht
    by_cases c : u.1 = k
    · rw [if_pos c] at e; exact .inl (by rw [← e])
    · rw [if_neg c] at e; exact .inr (e ▸ hu)
  · rw [if_neg h] at ht
    rcases List.mem_append.mp ht with ht | ht
    · exact .inr ht
    · obtain rfl := List.mem_singleton.mp ht; exact .inl rfl
def TurnsAt (H : Hp) (a : Addr) (ts : List (Str × Str)) : Prop := H a = some (.dK (kT ts))
theorem TurnsAt.same {H H' : Hp} {a : Addr} {ts : List (Str × Str)} (h : TurnsAt H a ts) (s : Same H H') : TurnsAt H' a ts := s _ _ h
/-- turns over the words ws to the states ss -/
structure TOk (ts : List (Str × Str)) (ss ws : List Str) : Prop where
  nd : (ts.map (·.1)).Nodup
  ks : ∀ t ∈ ts, t.1 ∈ ws
  gs : ∀ t ∈ ts, t.2 ∈ ss
theorem TOk.nil {ss ws : List Str} : TOk [] ss ws := ⟨List.nodup_nil, by simp, by simp⟩
theorem TOk.len {ts : List (Str × Str)} {ss ws : List Str} (h : TOk ts ss ws) : ts.length ≤ ws.length := by
  have := pigeon (ts.map (·.1)) ws h.nd fun x hx => by obtain ⟨t, ht, rfl⟩ := List.mem_map.mp hx; exact h.ks t ht
  rwa [List.length_map] at this
theorem TOk.put {ts : List (Str × Str)} {ss ws : List Str} {k v : Str} (h : TOk ts ss ws) (hk : k ∈ ws) (hv : v ∈ ss) : TOk (putT ts k v) ss ws := by
  refine ⟨?_, fun t ht => ?_, fun t ht => ?_⟩
  · rw [putT_keys]
    by_cases c : k ∈ ts.map (·.1)
    · rw [if_pos c]; exact h.nd
    · rw [if_neg c]; exact nodup_app h.nd c
  · have : t.1 ∈ (putT ts k v).map (·.1) := List.mem_map_of_mem ht
    rw [putT_keys] at this
    have key : t.1 ∈ ts.map (·.1) → t.1 ∈ ws := fun z => by obtain ⟨u, hu, e⟩ := List.mem_map.mp z; rw [← e]; exact h.ks u hu
    by_cases c : k ∈ ts.map (·.1)
    · rw [if_pos c] at this; exact key this
    · rw [if_neg c] at this
      rcases List.mem_append.mp this with z | z
      · exact key z
      · rw [List.mem_singleton.mp z]; exact hk
  · rcases putT_goal t ht with e | e
    · rw [e]; exact hv
    · exact h.gs t e
theorem putT_ne {ts : List (Str × Str)} {k v : Str} : putT ts k v ≠ [] := fun e => by
  have := congrArg (List.map (·.1)) e
  rw [putT_keys] at this
  by_cases c : k ∈ ts.map (·.1)
  · rw [if_pos c] at this
    have e2 : ts.map (·.1) = [] := this
    rw [e2] at c; cases c
  · rw [if_neg c] at this; simp at this
def spTurns : Sp := fun vs H Q _ => ∃ (p S W : Addr) (ss ws : List Str) (at' top' t : Int), vs = [.ref p, .ref S, .ref W, .int at', .int top'] ∧ Purse H p t ∧ SL H S ss ∧ SL H W ws ∧ S ≠ p ∧ W ≠ p ∧ 1 ≤ ss.length ∧ ss.length ≤ 1000 ∧ 1 ≤ ws.length ∧ ws.length ≤ 20 ∧ ws.Nodup ∧ 0 ≤ at' ∧ at' < 2 ^ 20 ∧ 1 ≤ top' ∧ top' < 2 ^ 20 ∧ t < 2 ^ 27 ∧
  ∀ (H' : Hp) (R : Addr) (ts : List (Str × Str)) (t' : Int), But p H H' → H R = none → TurnsAt H' R ts → TOk ts ss ws → ts ≠ [] → Purse H' p t' → t' ≤ t + 50 → Q (.ref R) H'
def nmsL : List Str := ["says", "hears", "done", "start", "end"]
theorem nms_wd : ∀ x ∈ nmsL, Wd x := by
  have h : ∀ x ∈ nmsL, 1 ≤ x.length ∧ x.length ≤ 8 ∧ ∀ c ∈ tl x, 97 ≤ c ∧ c ≤ 122 := by decide +kernel
  exact fun x hx => ⟨(h x hx).1, (h x hx).2.1, (h x hx).2.2⟩
theorem nms_nd : nmsL.Nodup := by decide +kernel
section
variable {P : Program} {w : World} {K : PySem.W.Frag} {mg : Str → Option Value} {base : Heap}
abbrev COne (P : Program) (w : World) (K : PySem.W.Frag) (mg : Str → Option Value) (base : Heap) := Cal P w K mg base "_law_one_of" 3 ["_law_purse_here", "_law_some"] spOneOf
theorem scPo : FnScope ["_law_purse_here", "_law_words_here", "_law_word_here"] ["_law_purse_here"] (defScope sPool) := ⟨rfl, rfl, rfl, by decide +kernel, rfl, by decide +kernel, by decide +kernel⟩
theorem ok_pool {f : Addr} {fd : FuncData} (F : Fun K "_law_pool" "_law_pool" sPool f fd) (T : Free2 mg) (CD : CDraw P w K mg base) (CW : CWords P w K mg base) (CS : CShuf P w K mg base) :
    FnOk P w K mg base CX0 5 f fd ["_law_purse_here"] spPool := by
  refine F.ok scPo (fun vs H Q E h => ?_) (fun cdv A outer s H vs Q E hr h => ?_)
  · obtain ⟨p, t, rfl, _⟩ := h; rfl
  · obtain ⟨p, t, rfl, hp, t1, k⟩ := h
    refine ⟨_, pss_cons (ps_set (i := 1) scPo.nd rfl (Or.inr rfl) (pe_cal CW (hr.mono (by decide)) rfl (pa_cons (pv 0) (pa_cons pe_int pa_nil))))
      (pss_cons (ps_if (pt_cmpR op_eq (pe_cal CD (hr.mono (by decide)) rfl (pa_cons (pv 0) (pa_cons pe_int pa_nil))) pe_int (nomark _))
        (pss_one (ps_set (i := 1) scPo.nd rfl (Or.inr rfl) (pe_slice sl_list (pe_op op_cat (pe_slice sl_list (pe_lc (own := [("_law_word_here", 2)]) (g := gName 2) (tt := tTest (tOp (rIn K true) (tVar 2) (tVar 1))) rfl scPo.nd
            (pi_list (pe_lst (pa_cons pe_str (pa_cons pe_str (pa_cons pe_str (pa_cons pe_str (pa_cons pe_str pa_nil)))))))
            (blkOk_by (N := ["_law_purse_here", "_law_words_here", "_law_word_here"]) (sc := defScope sPool) (by decide +kernel)) (fun _ _ _ _ _ => pg_name (i := 2) scPo.nd rfl (Or.inl rfl))
            (fun _ _ _ _ _ => pts_one (pt_cmpR op_notIn_seq (pv 2) (pv 1) rfl)) (fun _ _ _ _ _ => pv 2)) po_none (po_some pe_int)) (pv 1)) po_none (po_some pe_int)))) pss_nil)
      (pss_one (ps_ret (pe_cal CS (hr.mono (by decide)) rfl (pa_cons (pv 0) (pa_cons (pv 1) pa_nil)))))), ?_⟩
    refine ⟨_, rfl, p, 6, t, rfl, hp, by decide, by decide, by omega, fun H1 R ss t1' b1 hR hS ls nd aw hp1 tt1 => ?_⟩
    refine ⟨_, rfl, p, 3, t1', rfl, hp1, by decide, by decide, by omega, fun r t2 o r0 r1 tt2 hp2 => ?_⟩
    have nRp : R ≠ p := fun e => by obtain ⟨u, hu⟩ := hp.some; rw [← e, hR] at hu; cases hu
    have b2 := b1.trans (But.upd p H1 o)
    have hS2 : SL (L2.upd H1 p o) R ss := by rw [SL, upd_ne nRp]; exact hS
    generalize L2.upd H1 p o = H2 at b2 hS2 hp2
    refine ⟨rfl, _, rfl, ?_⟩
    refine ite2 (fun _ => ?_) (fun _ => ?_)
    · refine ⟨by show 5 ≤ sizeLine; decide, fun q hq => ⟨q, rfl, ⟨_, SqL.of upd_same⟩, fun D hD => ?_⟩⟩
      have nRq : R ≠ q := ne_of_none hS2 hq
      have hD2 := upd_none' hD
      have nRD : R ≠ D := ne_of_none hS2 hD2
      have nDq : q ≠ D := fun e => by rw [e, upd_same] at hD; cases hD
      refine lc_list (K := K) (a := q) (xs := nmsL.map V.str) (fun j H' => Same H2 H' ∧ SL H' q nmsL ∧ SL H' D ((nmsL.take j).filter fun x => decide (x ∉ ss)))
        ⟨fun b u e => by rw [upd_ne (ne_of_none e hD2), upd_ne (ne_of_none e hq)]; exact e, by rw [SL, upd_ne nDq, upd_same]; rfl, by rw [SL, upd_same]; rfl⟩ (fun j H' _ z => z.2.1.sq) ?_ ?_
      · rintro j x H' hx ⟨sm, hq', hD'⟩
        obtain ⟨z, hz, rfl⟩ := get_map hx
        refine ⟨rfl, _, rfl, _, rfl, R, _, rfl, .inl (hS2.same sm).sq, rfl, flat_strs ss, ?_⟩
        refine ⟨_, rfl, ?_⟩
        rw [if_pos rfl, inV_str]
        have lj : j < 5 := (List.getElem?_eq_some_iff.mp hz).1
        by_cases hzs : z ∈ ss
        · rw [decide_eq_true hzs]
          refine iteF ⟨sm, hq', ?_⟩
          rw [filt_no hz (by simpa using hzs)]
          exact hD'
        · rw [decide_eq_false hzs]
          refine iteT ⟨_, rfl, _, hD', by rw [List.length_map, sizeLine_eq]; exact Nat.lt_of_le_of_lt (List.length_filter_le _ _) (by rw [List.length_take]; omega), fun b u e => ?_, ?_, ?_⟩
          · rw [upd_ne (ne_of_none e hD2)]; exact sm _ _ e
          · rw [SL, upd_ne nDq]; exact hq'
          · rw [SL, upd_same, filt_yes hz (by simpa using hzs), List.map_append]
            rfl
      · rintro H3 ⟨sm, hq', hD'⟩
        rw [show (nmsL.map V.str).length = 5 from rfl, show nmsL.take 5 = nmsL from rfl] at hD'
        refine ⟨_, rfl, D, _, rfl, SqL.of hD', fun q2 hq2 => ?_⟩
        have hR3 := hS2.same sm
        refine ⟨_, rfl, q2, R, _, _, rfl, rfl, upd_same, by rw [upd_ne (ne_of_none hR3 hq2)]; exact hR3, ?_, fun q3 hq3 => ?_⟩
        · rw [cutV_map, List.length_map, List.length_map, cutL_to _ (by decide), List.length_take, sizeLine_eq, ls]; omega
        refine ⟨_, rfl, q3, _, rfl, SqL.of upd_same, fun q4 hq4 => ?_⟩
        rw [cutV_map, ← List.map_append, cutV_map, cutL_to _ (by decide), cutL_to _ (by decide)]
        rw [cutV_map, ← List.map_append, cutL_to _ (by decide)] at hq4
        rw [cutV_map, cutL_to _ (by decide)] at hq3
        have wf : ∀ x ∈ nmsL.filter (fun x => decide (x ∉ ss)), x ∉ ss ∧ Wd x := fun x hx => by
          obtain ⟨h1, h2⟩ := List.mem_filter.mp hx
          exact ⟨by simpa using h2, nms_wd x h1⟩
        have nf : (nmsL.filter (fun x => decide (x ∉ ss))).Nodup := nms_nd.filter _
        generalize nmsL.filter (fun x => decide (x ∉ ss)) = fs at wf nf hq3 hq4 ⊢
        have lf : ((fs.take (2 : Int).toNat ++ ss).take (6 : Int).toNat).length = 6 := by
          rw [List.length_take, List.length_append, ls]; show min 6 _ = 6; omega
        have ndf : ((fs.take (2 : Int).toNat ++ ss).take (6 : Int).toNat).Nodup :=
          List.Nodup.sublist (List.take_sublist _ _) (List.nodup_append.mpr ⟨List.Nodup.sublist (List.take_sublist _ _) nf, nd, fun x hx y hy e => (wf x (List.mem_of_mem_take hx)).1 (e ▸ hy)⟩)
        have awf : ∀ x ∈ (fs.take (2 : Int).toNat ++ ss).take (6 : Int).toNat, Wd x := fun x hx => by
          rcases List.mem_append.mp (List.mem_of_mem_take hx) with z | z
          · exact (wf x (List.mem_of_mem_take z)).2
          · exact aw x z
        generalize (fs.take (2 : Int).toNat ++ ss).take (6 : Int).toNat = gs at lf ndf awf
        have b3 : But p H H3 := b2.trans (But.of sm)
        have hp3 := hp2.same sm
        refine ⟨_, rfl, _, rfl, p, q4, _, t2, rfl, ((hp3.new hq2).new hq3).new hq4, upd_same, ((hp3.new hq2).new hq3).ne hq4, by rw [List.length_map, lf]; decide, by omega, fun H5 R5 ys t5 b5 hR5 hy pm hp5 tt5 => ?_⟩
        obtain ⟨zs, rfl, pz⟩ := perm_str pm
        rw [List.length_map, lf] at tt5
        exact k H5 R5 zs t5 ((((b3.newt hq2).newt hq3).newt hq4).trans b5) ((((b3.newt hq2).newt hq3).newt hq4).fr hR5 ((((hp3.new hq2).new hq3).new hq4).ne hR5)) hy (by rw [pz.length_eq, lf]) (pz.nodup_iff.mpr ndf) (fun x hx => awf x (pz.mem_iff.mp hx)) hp5 (by omega)
    · refine ⟨_, rfl, _, rfl, p, R, _, t2, rfl, hp2, hS2, nRp, by rw [List.length_map, ls]; decide, by omega, fun H5 R5 ys t5 b5 hR5 hy pm hp5 tt5 => ?_⟩
      obtain ⟨zs, rfl, pz⟩ := perm_str pm
      rw [List.length_map, ls] at tt5
      exact k H5 R5 zs t5 (b2.trans b5) (b2.fr hR5 (hp2.ne hR5)) hy (by rw [pz.length_eq, ls]; rfl) (pz.nodup_iff.mpr nd) (fun x hx => aw x (pz.mem_iff.mp hx)) hp5 (by omega)
theorem scTu : FnScope ["_law_purse_here", "_law_states", "_law_words_here", "_law_at", "_law_top", "_law_many", "_law_found", "_law_word_here"] ["_law_purse_here", "_law_states", "_law_words_here", "_law_at", "_law_top"] (defScope sTurns) := ⟨rfl, rfl, rfl, by decide +kernel, rfl, by decide +kernel, by decide +kernel⟩
theorem ok_turns {f : Addr} {fd : FuncData} (F : Fun K "_law_turns" "_law_turns" sTurns f fd) (T : Free2 mg) (CD : CDraw P w K mg base) (CO : COne P w K mg base) (CS : CShuf P w K mg base) :
    FnOk P w K mg base CX0 4 f fd ["_law_purse_here", "_law_states", "_law_words_here", "_law_at", "_law_top"] spTurns := by
  refine F.ok scTu (fun vs H Q E h => ?_) (fun cdv A outer s H vs Q E hr h => ?_)
  · obtain ⟨p, S, W, ss, ws, a, b, t, rfl, _⟩ := h; rfl
  · obtain ⟨p, S, W, ss, ws, at', top', t, rfl, hp, hS, hW, nS, nW, s1, s2, w1, w2, wnd, a0, a1, p0, p1, t1, k⟩ := h
    have hu := hu_of hr
    refine ⟨_, pss_cons (ps_par (i := 5) (j := 6) rfl scTu.nd rfl rfl (by decide) rfl rfl (pa_cons (pe_op op_add pe_int (pe_cal CD (hr.mono (by decide)) rfl (pa_cons (pv 0) (pa_cons (pe_callB (call_max2 rfl) (by rfl) T.max (by decide +kernel) (pa_cons pe_int (pa_cons (pe_callB (call_min2 rfl) (by rfl) T.min (by decide +kernel) (pa_cons (pv 4) (pa_cons (pe_callB call_len_seq (by rfl) T.len PySem.boot_len (pa_cons (pv 2) pa_nil)) pa_nil))) pa_nil))) pa_nil)))) (pa_cons pe_dnewK pa_nil)) (by rfl))
      (pss_cons (ps_for PassesOwn.never rfl (pi_list (pe_slice sl_list (pe_cal CS (hr.mono (by decide)) rfl (pa_cons (pv 0) (pa_cons (pv 2) pa_nil))) po_none (po_some (pv 5)))) (pg_name (i := 7) scTu.nd rfl (Or.inl rfl))
        (pss_one (ps_dput hu (pv 6) (pv 7) (pe_cal CO (hr.mono (by decide)) rfl (pa_cons (pv 0) (pa_cons (pv 1) pa_nil))) rfl)))
      (pss_cons (ps_if (PW.pt (pw_and (pt_cmpR op_lt (pe_op op_add (pv 3) pe_int) (pe_callB call_len_seq (by rfl) T.len PySem.boot_len (pa_cons (pv 1) pa_nil)) (nomark _)) (pw_and1 (pt_cmpR op_gt (pe_cal CD (hr.mono (by decide)) rfl (pa_cons (pv 0) (pa_cons pe_int pa_nil))) pe_int (nomark _)))))
        (pss_one (ps_dput hu (pv 6) (pe_cal CO (hr.mono (by decide)) rfl (pa_cons (pv 0) (pa_cons (pe_callTy (call_listD rfl) (by rfl) T.list (by decide +kernel) (pa_cons (pv 6) pa_nil)) pa_nil))) (pe_cal CO (hr.mono (by decide)) rfl (pa_cons (pv 0) (pa_cons (pe_slice sl_list (pv 1) (po_some (pe_op op_add (pv 3) pe_int)) po_none) pa_nil))) rfl)) pss_nil)
      (pss_one (ps_ret (pv 6))))), ?_⟩
    refine ⟨_, rfl, _, rfl, _, rfl, W, _, rfl, .inl hW.sq, top', _, rfl, ?_⟩
    rw [List.length_map]
    refine ⟨1, _, rfl, ?_⟩
    generalize hM : (if (if (ws.length : Int) < top' then (ws.length : Int) else top') > 1 then (if (ws.length : Int) < top' then (ws.length : Int) else top') else (1 : Int)) = M
    have bM : 1 ≤ M ∧ M ≤ 20 := by
      rw [← hM]
      (repeat' split) <;> omega
    refine ⟨p, M, t, rfl, hp, bM.1, by omega, by omega, fun r t2 o r0 r1 tt2 hp2 => ?_⟩
    refine ⟨_, _, rfl, rfl, fun D hD => ⟨_, _, rfl, ?_⟩⟩
    have hS2 : SL (L2.upd H p o) S ss := by rw [SL, upd_ne nS]; exact hS
    have hW2 : SL (L2.upd H p o) W ws := by rw [SL, upd_ne nW]; exact hW
    have b2 := But.upd p H o
    generalize L2.upd H p o = H2 at hS2 hW2 hp2 b2 hD
    have hD0 := b2.fr hD (hp2.ne hD)
    refine ⟨_, rfl, _, rfl, p, W, _, t2, rfl, hp2.new hD, hW2.new hD, nW, by rw [List.length_map]; omega, by omega, fun H3 R ys t3 b3 hR hy pm hp3 tt3 => ?_⟩
    obtain ⟨zs, rfl, pz⟩ := perm_str pm
    refine ⟨_, rfl, _, rfl, R, _, rfl, SqL.of hy, fun q hq => ⟨q, rfl, ⟨_, SqL.of upd_same⟩, ?_⟩⟩
    rw [cutV_map, cutL_to _ (by omega)]
    have lz : zs.length = ws.length := pz.length_eq
    rw [List.length_map] at tt3
    have hm : 1 ≤ (1 + r).toNat := by omega
    generalize (1 + r).toNat = m at hm
    have lm : (zs.take m).length ≤ 20 ∧ 1 ≤ (zs.take m).length := by rw [List.length_take]; omega
    have mm : ∀ z ∈ zs.take m, z ∈ ws := fun z hz => pz.mem_iff.mp (List.mem_of_mem_take hz)
    generalize zs.take m = us at lm mm
    have nDp := hp2.ne hD
    have hS3 : SL H3 S ss := b3 _ _ nS (hS2.new hD)
    have hD3 : TurnsAt H3 D [] := b3 _ _ nDp upd_same
    have nqp := hp3.ne hq
    have nqD : D ≠ q := ne_of_none hD3 hq
    have b30 : But p H H3 := (b2.newt hD).trans b3
    refine for_list (K := K) (a := q) (xs := us.map V.str) (fun i σ H' => ∃ (v7 : Option V) (ts : List (Str × Str)) (t' : Int), σ = [some (.ref p), some (.ref S), some (.ref W), some (.int at'), some (.int top'), some (.int (1 + r)), some (.ref D), v7] ∧ But p H H' ∧ SL H' q us ∧ SL H' S ss ∧ TurnsAt H' D ts ∧ TOk ts ss ws ∧ (0 < i → ts ≠ []) ∧ Purse H' p t' ∧ t' ≤ t3 + i)
      ⟨none, [], t3, rfl, b30.newt hq, upd_same, hS3.new hq, hD3.same (Same.new hq), TOk.nil, fun c => absurd c (by decide), hp3.new hq, by omega⟩ (fun i σ H' _ ⟨v7, ts, t', _, _, z, _⟩ => z.sq) ?_ ?_
    · rintro i x σ H' hx ⟨v7, ts, t', rfl, b, hq', hS', hD', ok, ne, hp', tt'⟩
      obtain ⟨z, hz, rfl⟩ := get_map hx
      have hzm := mm z (List.mem_of_getElem? hz)
      have li : i < us.length := (List.getElem?_eq_some_iff.mp hz).1
      have lts := ok.len
      refine ⟨_, rfl, _, rfl, p, S, _, t', rfl, hp', hS', nS, by rw [List.length_map]; omega, by rw [List.length_map]; omega, by omega, fun j v t4 o4 hj tt4 hp4 => ?_⟩
      obtain ⟨g, hg, rfl⟩ := get_map hj
      have hgm := List.mem_of_getElem? hg
      refine ⟨_, rfl, _, rfl, D, _, rfl, DPut.k (k := Sum.inr z) (by rw [upd_ne nDp]; exact hD') (by rw [kT, List.length_map, sizeLine_eq]; omega), ?_⟩
      rw [putK_kT]
      have hDn : H D = none := hD0
      refine ⟨_, _, t4, rfl, But.ofL hDn (b.trans (But.upd p H' o4)), ?_, ?_, upd_same, ok.put hzm hgm, fun _ => putT_ne, hp4.upd nDp.symm, by omega⟩
      · rw [SL, upd_ne nqD.symm, upd_ne nqp]; exact hq'
      · have nSD : S ≠ D := fun e => by rw [e] at hS; rw [hS] at hDn; cases hDn
        rw [SL, upd_ne nSD, upd_ne nS]; exact hS'
    · rintro σ H' ⟨v7, ts, t', rfl, b, hq', hS', hD', ok, ne, hp', tt'⟩
      rw [List.length_map] at ne tt'
      have ne' := ne (by omega)
      have lts := ok.len
      refine ⟨_, rfl, _, _, rfl, rfl, _, rfl, S, _, rfl, .inl hS'.sq, _, _, rfl, rfl, _, rfl, ?_⟩
      rw [List.length_map]
      refine ite2 (fun c => ?_) (fun c => ?_)
      · refine ⟨_, rfl, p, 8, t', rfl, hp', by decide, by decide, by omega, fun r5 t5 o5 r50 r51 tt5 hp5 => ⟨_, _, rfl, rfl, _, rfl, ?_⟩⟩
        have hS5 : SL (L2.upd H' p o5) S ss := by rw [SL, upd_ne nS]; exact hS'
        have hD5 : TurnsAt (L2.upd H' p o5) D ts := by rw [TurnsAt, upd_ne nDp]; exact hD'
        have b5 := b.trans (But.upd p H' o5)
        generalize L2.upd H' p o5 = H5 at hS5 hD5 hp5 b5
        refine ite2 (fun c2 => ?_) (fun c2 => ?_)
        · have c' := of_decide_eq_true c
          refine ⟨_, rfl, _, rfl, _, rfl, _, _, rfl, rfl, _, rfl, S, _, rfl, hS5.sq, fun q6 hq6 => ?_⟩
          rw [cutV_map, cutL_from _ (by omega)]
          refine ⟨p, q6, _, t5, rfl, hp5.new hq6, upd_same, hp5.ne hq6, ?_, ?_, by omega, fun j v t6 o6 hj tt6 hp6 => ?_⟩
          · rw [List.length_map, List.length_drop]; omega
          · rw [List.length_map, List.length_drop]; omega
          obtain ⟨g, hg, rfl⟩ := get_map hj
          have hgm := List.mem_of_mem_drop (List.mem_of_getElem? hg)
          have hD6 : TurnsAt (L2.upd (L2.upd H5 q6 (.lst ((ss.drop (at' + 1).toNat).map V.str))) p o6) D ts := by
            rw [TurnsAt, upd_ne nDp]; exact hD5.same (Same.new hq6)
          have b6 := (b5.newt (o := .lst ((ss.drop (at' + 1).toNat).map V.str)) hq6).trans (But.upd p _ o6)
          generalize L2.upd (L2.upd H5 q6 (.lst ((ss.drop (at' + 1).toNat).map V.str))) p o6 = H6 at hp6 hD6 b6
          refine ⟨_, rfl, _, rfl, _, rfl, D, _, rfl, .inl hD6, fun q7 hq7 => ?_⟩
          have ek : (kT ts).map (fun kv => kV kv.1) = (ts.map (·.1)).map V.str := by
            rw [kT, List.map_map, List.map_map]; rfl
          rw [ek]
          refine ⟨p, q7, _, t6, rfl, hp6.new hq7, upd_same, hp6.ne hq7, ?_, ?_, by omega, fun j v t8 o8 hj tt8 hp8 => ?_⟩
          · rw [List.length_map, List.length_map]; have := List.length_pos_iff.mpr ne'; omega
          · rw [List.length_map, List.length_map]; omega
          obtain ⟨kk, hkk, rfl⟩ := get_map hj
          have hkm : kk ∈ ws := by
            obtain ⟨u, hu, e⟩ := List.mem_map.mp (List.mem_of_getElem? hkk)
            rw [← e]; exact ok.ks u hu
          refine ⟨D, _, rfl, DPut.k (k := Sum.inr kk) (by rw [upd_ne nDp]; exact hD6.same (Same.new hq7)) (by rw [kT, List.length_map, sizeLine_eq]; omega), ?_⟩
          rw [putK_kT]
          refine ⟨_, rfl, k _ D _ t8 (But.ofL hD0 ((b6.newt hq7).trans (But.upd p _ o8))) hD0 upd_same (ok.put hkm hgm) putT_ne (hp8.upd nDp.symm) (by omega)⟩
        · exact ⟨_, rfl, k H5 D ts t5 b5 hD0 hD5 ok ne' hp5 (by omega)⟩
      · exact ⟨_, rfl, k H' D ts t' b hD0 hD' ok ne' hp' (by omega)⟩
end
end D1
end L2
/-! books as they stand; world -/
namespace L2
namespace D1
open PySem PySem.Spec PyProof.Rows
abbrev RowD := Str × Str × List (Str × Str)
abbrev Bk := List RowD
def RowAt (H : Hp) (v : V) (k : Str) (ts : List (Str × Str)) : Prop := ∃ t a, v = .ref t ∧ H t = some (.tup [.str k, .ref a]) ∧ TurnsAt H a ts
theorem RowAt.same {H H' : Hp} {v : V} {k : Str} {ts : List (Str × Str)} (h : RowAt H v k ts) (s : Same H H') : RowAt H' v k ts := by
  obtain ⟨t, a, e, h1, h2⟩ := h; exact ⟨t, a, e, s _ _ h1, h2.same s⟩
def Rows (H : Hp) : List (Key × V) → Bk → Prop := Paired fun kv r => kv.1 = Sum.inr r.1 ∧ RowAt H kv.2 r.2.1 r.2.2
theorem Rows.same {H H' : Hp} {kvs : List (Key × V)} {bk : Bk} (h : Rows H kvs bk) (s : Same H H') : Rows H' kvs bk := by
  unfold Rows at h ⊢
  induction h with
  | nil => exact .nil
  | cons a b ih => exact .cons ⟨a.1, a.2.same s⟩ ih
theorem Rows.app {H : Hp} {kvs : List (Key × V)} {bk : Bk} {s : Str} {v : V} {k : Str} {ts : List (Str × Str)} (h : Rows H kvs bk) (r : RowAt H v k ts) : Rows H (kvs ++ [(.inr s, v)]) (bk ++ [(s, k, ts)]) := by
  unfold Rows at h ⊢
  induction h with
  | nil => exact .cons ⟨rfl, r⟩ .nil
  | cons a b ih => exact .cons a ih
theorem Rows.keys {H : Hp} {kvs : List (Key × V)} {bk : Bk} (h : Rows H kvs bk) : kvs.map (·.1) = bk.map fun r => Sum.inr r.1 := by
  unfold Rows at h
  induction h with
  | nil => rfl
  | cons a b ih => rw [List.map_cons, List.map_cons, ih, a.1]
theorem Rows.len {H : Hp} {kvs : List (Key × V)} {bk : Bk} (h : Rows H kvs bk) : kvs.length = bk.length := by
  have := congrArg List.length h.keys
  rwa [List.length_map, List.length_map] at this
theorem putK_new {kvs : List (Key × V)} {k : Key} {v : V} (n : k ∉ kvs.map (·.1)) : putK kvs k v = kvs ++ [(k, v)] := by
  unfold putK
  rw [if_neg]
  intro h
  obtain ⟨p, hp, e⟩ := List.any_eq_true.mp h
  exact n (List.mem_map.mpr ⟨p, hp, of_decide_eq_true e⟩)
theorem Rows.fresh {H : Hp} {kvs : List (Key × V)} {bk : Bk} {s : Str} (h : Rows H kvs bk) (n : s ∉ bk.map (·.1)) : (Sum.inr s : Key) ∉ kvs.map (·.1) := by
  rw [h.keys]
  intro z
  obtain ⟨r, hr, e⟩ := List.mem_map.mp z
  exact n (List.mem_map.mpr ⟨r, hr, Sum.inr.inj e⟩)
def BookAt (H : Hp) (b : Addr) (bk : Bk) : Prop := ∃ kvs, H b = some (.dK kvs) ∧ Rows H kvs bk
theorem BookAt.same {H H' : Hp} {b : Addr} {bk : Bk} (h : BookAt H b bk) (s : Same H H') : BookAt H' b bk := by
  obtain ⟨kvs, e, r⟩ := h; exact ⟨kvs, s _ _ e, r.same s⟩
def WorldAt (H : Hp) (R : Addr) (bk : Bk) (st : Str) : Prop := ∃ b, H R = some (.lst [.ref b, .str st]) ∧ BookAt H b bk
theorem WorldAt.same {H H' : Hp} {R : Addr} {bk : Bk} {st : Str} (h : WorldAt H R bk st) (s : Same H H') : WorldAt H' R bk st := by
  obtain ⟨b, e, r⟩ := h; exact ⟨b, s _ _ e, r.same s⟩
/-- a row of a book over the states ss -/
def ROk (ss ws : List Str) (r : RowD) : Prop := Wd r.1 ∧ ((r.2.1 = "done" ∧ r.2.2 = []) ∨ ((r.2.1 = "says" ∨ r.2.1 = "hears") ∧ r.2.2 ≠ [] ∧ TOk r.2.2 ss ws))
structure WF (bk : Bk) (st : Str) (ws : List Str) : Prop where
  nd : (bk.map (·.1)).Nodup
  rs : ∀ r ∈ bk, ROk (bk.map (·.1)) ws r
  st : st ∈ bk.map (·.1)
  len : bk.length ≤ 6
abbrev sWorld : Stmt := top 43
/-- a list of words -/
structure WsOk (ws : List Str) : Prop where
  lo : 1 ≤ ws.length
  hi : ws.length ≤ 6
  nd : ws.Nodup
  wd : ∀ x ∈ ws, Wd x
def spWorld : Sp := fun vs H Q _ => ∃ (p W : Addr) (ws : List Str) (n top' t : Int), vs = [.ref p, .int n, .ref W, .int top'] ∧ Purse H p t ∧ SL H W ws ∧ W ≠ p ∧ WsOk ws ∧ 1 ≤ n ∧ n ≤ 6 ∧ 1 ≤ top' ∧ top' < 2 ^ 20 ∧ t < 2 ^ 26 ∧
  ∀ (H' : Hp) (R : Addr) (bk : Bk) (st : Str) (t' : Int), But p H H' → H R = none → WorldAt (cut [p] H') R bk st → WF bk st ws → Purse H' p t' → t' ≤ t + 700 → Q (.ref R) H'
theorem first_at {x : Str} : ∀ {zs : List Str}, x ∈ zs → ∃ j, zs[j]? = some x ∧ ∀ m : Nat, m < j → zs[m]? ≠ some x
  | [], h => by cases h
  | y :: r, h => by
    by_cases e : y = x
    · exact ⟨0, by rw [e]; rfl, fun m hm => absurd hm (Nat.not_lt_zero _)⟩
    · rcases List.mem_cons.mp h with z | z
      · exact absurd z.symm e
      · obtain ⟨j, h1, h2⟩ := first_at z
        refine ⟨j + 1, h1, fun m hm => ?_⟩
        cases m with
        | zero => exact fun q => e (Option.some.inj q)
        | succ m => exact h2 m (by omega)
theorem row_step {p B T1 E1 : Addr} {H5 : Hp} {kvs : List (Key × V)} {bk : Bk} {x k : Str} {ts : List (Str × Str)} (hB : H5 B = some (.dK kvs)) (R : Rows (cut [p, B] H5) kvs bk) (n : x ∉ bk.map (·.1)) (hT : TurnsAt H5 E1 ts) (nE : E1 ≠ p) (nEB : E1 ≠ B)
    (nT : T1 ≠ p) (hT1 : H5 T1 = none) : ∃ kv2, (L2.upd (L2.upd H5 T1 (.tup [.str k, .ref E1])) B (.dK (putK kvs (.inr x) (.ref T1)))) B = some (.dK kv2) ∧ Rows (cut [p, B] (L2.upd (L2.upd H5 T1 (.tup [.str k, .ref E1])) B (.dK (putK kvs (.inr x) (.ref T1))))) kv2 (bk ++ [(x, k, ts)]) := by
  have nTB : T1 ≠ B := fun e => by rw [e, hB] at hT1; cases hT1
  have nET : E1 ≠ T1 := fun e => by rw [← e, hT] at hT1; cases hT1
  refine ⟨_, upd_same, ?_⟩
  rw [putK_new (R.fresh n), cut_upd (by simp)]
  refine (R.same (cut_new hT1)).app ⟨T1, E1, rfl, ?_, ?_⟩
  · rw [cut_out (by simp [nT, nTB])]; exact upd_same
  · rw [TurnsAt, cut_out (by simp [nE, nEB]), upd_ne nET]; exact hT
theorem pt_imp {X : Cx} {c : Expr} {t t' : TT} (h : PT X c t) (i : ∀ σ H Q, t' σ H Q → t σ H Q) : PT X c t' := ⟨fun pins s σ H Q I q => h.run pins s σ H Q I (i _ _ _ q)⟩
theorem pe_imp {X : Cx} {c : Expr} {t t' : TE} (h : PE X c t) (i : ∀ σ H Q, t' σ H Q → t σ H Q) : PE X c t' := ⟨fun pins s σ H Q I q => h.run pins s σ H Q I (i _ _ _ q)⟩
/-- any answer, whatever whole numbers the slots hold -/
def tAny (l : List Nat) : TT := fun σ H Q => (∀ i ∈ l, ∃ z, σ[i]? = some (some (.int z))) ∧ ∀ b, Q b H
def tKind (l : List Nat) : TE := fun σ H Q => (∀ i ∈ l, ∃ z, σ[i]? = some (some (.int z))) ∧ ∀ k : Str, k = "says" ∨ k = "hears" → Q (.str k) H
/-- one of the two lists that world begins with -/
def tBeg : TE := fun σ H Q => ∃ (p W : Addr) (n t : Int) (ws : List Str), σ[0]? = some (some (.ref p)) ∧ σ[1]? = some (some (.int n)) ∧ σ[2]? = some (some (.ref W)) ∧ Purse H p t ∧ SL H W ws ∧ W ≠ p ∧ (∀ x ∈ ws, Wd x) ∧ ws.length ≤ 6 ∧ 1 ≤ n ∧ n ≤ 6 ∧ t < 2 ^ 26 ∧
  ∀ (H' : Hp) (R : Addr) (zs : List Str) (t' : Int), But p H H' → R ≠ p → SL H' R zs → (∀ x ∈ zs, Wd x) → zs.length = n.toNat → Purse H' p t' → t' ≤ t + 301 → Q (.ref R) H'
section
variable {P : Program} {w : World} {K : PySem.W.Frag} {mg : Str → Option Value} {base : Heap}
abbrev CTurns (P : Program) (w : World) (K : PySem.W.Frag) (mg : Str → Option Value) (base : Heap) := Cal P w K mg base "_law_turns" 4 ["_law_purse_here", "_law_states", "_law_words_here", "_law_at", "_law_top"] spTurns
theorem scWo : FnScope ["_law_purse_here", "_law_many", "_law_words_here", "_law_top", "_law_states", "_law_at", "_law_book", "_law_last", "_law_way"] ["_law_purse_here", "_law_many", "_law_words_here", "_law_top"] (defScope sWorld) := ⟨rfl, rfl, rfl, by decide +kernel, rfl, by decide +kernel, by decide +kernel⟩
theorem ok_world {f : Addr} {fd : FuncData} (F : Fun K "_law_world" "_law_world" sWorld f fd) (T : Free2 mg) (CD : CDraw P w K mg base) (CW : CWords P w K mg base) (CS : CShuf P w K mg base) (CT : CTurns P w K mg base) :
    FnOk P w K mg base CX0 5 f fd ["_law_purse_here", "_law_many", "_law_words_here", "_law_top"] spWorld := by
  refine F.ok scWo (fun vs H Q E h => ?_) (fun cdv A outer s H vs Q E hr h => ?_)
  · obtain ⟨p, W, ws, n, top', t, rfl, _⟩ := h; rfl
  · obtain ⟨p, W, ws, n, top', t, rfl, hp, hW, nW, wok, n0, n1, p0, p1, t1, k⟩ := h
    have hu := hu_of hr
    refine ⟨_, pss_cons (ps_set (i := 4) scWo.nd rfl (Or.inr rfl) (pe_cal CS (hr.mono (by decide)) rfl (pa_cons (pv 0) (pa_cons (pe_imp (t' := tBeg) (pe_ifExp (pt_cmpR op_eq (pe_cal CD (hr.mono (by decide)) rfl (pa_cons (pv 0) (pa_cons pe_int pa_nil))) pe_int (nomark _))
          (pe_cal CW (hr.mono (by decide)) rfl (pa_cons (pv 0) (pa_cons (pv 1) pa_nil)))
          (pe_slice sl_list (pe_op op_cat (pv 2) (pe_cal CW (hr.mono (by decide)) rfl (pa_cons (pv 0) (pa_cons (pv 1) pa_nil)))) po_none (po_some (pv 1)))) ?sub1) pa_nil))))
      (pss_cons (ps_set (i := 4) scWo.nd rfl (Or.inr rfl) (pe_lc (own := [("_law_at", 5)]) (g := gName 5) (tt := tTest (tOp (rEq) (tBM K "list" (rIndex K) (tVar 4) (tCons (tOp (rIxL K) (tVar 4) (tVar 5)) tNil)) (tVar 5))) (te := tOp (rIxL K) (tVar 4) (tVar 5)) rfl scWo.nd
          (pi_range1 rfl T.range (pa_cons (pv 1) pa_nil))
          (blkOk_by (N := ["_law_purse_here", "_law_many", "_law_words_here", "_law_top", "_law_states", "_law_at", "_law_book", "_law_last", "_law_way"]) (sc := defScope sWorld) (by decide +kernel)) (fun _ _ _ _ _ => pg_name (i := 5) scWo.nd rfl (Or.inl rfl))
          (fun _ _ _ _ _ => pts_one (pt_cmpR op_eq (pe_bm PySem.F.plainAttrs_list PySem.F.slot_list_index PySem.F.type_list_index mt_index (pv 4) (pa_cons (pe_ix ix_list (pv 4) (pv 5) (fun _ _ => rfl)) pa_nil)) (pv 5) (nomark _))) (fun _ _ _ _ _ => pe_ix ix_list (pv 4) (pv 5) (fun _ _ => rfl))))
      (pss_cons (ps_par (i := 6) (j := 7) rfl scWo.nd rfl rfl (by decide) rfl rfl (pa_cons pe_dnewK (pa_cons (pe_op op_sub (pe_callB call_len_seq (by rfl) T.len PySem.boot_len (pa_cons (pv 4) pa_nil)) pe_int) pa_nil)) (by rfl))
      (pss_cons (ps_for PassesOwn.never rfl (pi_range1 rfl T.range (pa_cons (pe_callB call_len_seq (by rfl) T.len PySem.boot_len (pa_cons (pv 4) pa_nil)) pa_nil)) (pg_name (i := 5) scWo.nd rfl (Or.inl rfl))
        (pss_cons (ps_set (i := 8) scWo.nd rfl (Or.inl rfl) (pe_cal CD (hr.mono (by decide)) rfl (pa_cons (pv 0) (pa_cons pe_int pa_nil))))
        (pss_one (ps_if (pt_imp (t' := tAny [5, 7, 8]) (PW.pt (pw_or (PW.pt (pw_and (pt_cmpR op_eq (pv 5) (pv 7) (nomark _)) (pw_and1 (pt_cmpR op_gt (pv 8) pe_int (nomark _))))) (pw_or1 (PW.pt (pw_and (pt_cmpR op_eq (pv 8) pe_int (nomark _)) (pw_and1 (pt_cmpR op_gt (pv 5) pe_int (nomark _)))))))) ?sub2)
          (pss_one (ps_dput hu (pv 6) (pe_ix ix_list (pv 4) (pv 5) (fun _ _ => rfl)) (pe_tup (pa_cons pe_str (pa_cons pe_dnewK pa_nil))) rfl))
          (pss_one (ps_dput hu (pv 6) (pe_ix ix_list (pv 4) (pv 5) (fun _ _ => rfl)) (pe_tup (pa_cons (pe_imp (t' := tKind [8]) (pe_ifExp (pt_cmpR op_eq (pe_op op_mod (pv 8) pe_int) pe_int (nomark _)) pe_str pe_str) ?sub3) (pa_cons (pe_cal CT (hr.mono (by decide)) rfl (pa_cons (pv 0) (pa_cons (pv 4) (pa_cons (pv 2) (pa_cons (pv 5) (pa_cons (pv 3) pa_nil)))))) pa_nil))) rfl))))))
      (pss_one (ps_ret (pe_lst (pa_cons (pv 6) (pa_cons (pe_ix ix_list (pv 4) pe_int (fun _ _ => rfl)) pa_nil)))))))), ?_⟩
    case sub1 =>
      rintro σ H Q ⟨p, W, n, t, ws, e0, e1, e2, hp, hW, nW, aw, lw, n0, n1, t1, k⟩
      refine ⟨_, e0, p, 2, t, rfl, hp, by decide, by decide, by omega, fun r t2 o r0 r1 tt2 hp2 => ?_⟩
      have b2 := But.upd p H o
      have hW2 : SL (L2.upd H p o) W ws := by rw [SL, upd_ne nW]; exact hW
      generalize L2.upd H p o = H2 at b2 hW2 hp2
      refine ⟨rfl, _, rfl, ?_⟩
      refine ite2 (fun _ => ?_) (fun _ => ?_)
      · refine ⟨_, e0, _, e1, p, n, t2, rfl, hp2, by omega, by omega, by omega, fun H3 R ss t3 b3 hR hS ls nd aw hp3 tt3 => ?_⟩
        exact k H3 R ss t3 (b2.trans b3) (hp2.ne hR) hS aw ls hp3 (by omega)
      · refine ⟨_, e2, _, e0, _, e1, p, n, t2, rfl, hp2, by omega, by omega, by omega, fun H3 R ss t3 b3 hR hS ls nd aw2 hp3 tt3 => ?_⟩
        have hW3 : SL H3 W ws := b3 _ _ nW hW2
        refine ⟨W, R, _, _, rfl, rfl, hW3, hS, by rw [List.length_map, List.length_map, sizeLine_eq]; omega, fun q hq => ?_⟩
        refine ⟨_, e1, n, rfl, q, _, rfl, SqL.of upd_same, fun q2 hq2 => ?_⟩
        rw [← List.map_append, cutV_map, cutL_to _ (by omega)]
        rw [← List.map_append] at hq2
        refine k _ q2 _ t3 (((b2.trans b3).newt hq).newt hq2) ((hp3.new hq).ne hq2) upd_same (fun x hx => ?_) ?_ ((hp3.new hq).new hq2) (by omega)
        · rcases List.mem_append.mp (List.mem_of_mem_take hx) with z | z
          · exact aw x z
          · exact aw2 x z
        · rw [List.length_take, List.length_append]; omega
    case sub2 =>
      rintro σ H Q ⟨a, k⟩
      obtain ⟨z5, e5⟩ := a 5 (by simp)
      obtain ⟨z7, e7⟩ := a 7 (by simp)
      obtain ⟨z8, e8⟩ := a 8 (by simp)
      have two : ∃ a, σ[8]? = some (some a) ∧ rEq a (.int 10) H fun x H' => ∃ k, x = .bl k ∧ if k = true then (∃ a, σ[5]? = some (some a) ∧ rI0 (fun i j => V.bl (decide (j < i))) a (.int 0) H' fun x H' => ∃ k, x = .bl k ∧ Q k H') else Q false H' := by
        refine ⟨_, e8, rfl, _, rfl, ite2 (fun _ => ⟨_, e5, _, _, rfl, rfl, _, rfl, k _⟩) (fun _ => k _)⟩
      refine ⟨_, e5, _, e7, rfl, _, rfl, ?_⟩
      refine ite2 (fun _ => ⟨_, e8, _, _, rfl, rfl, _, rfl, ?_⟩) (fun _ => ?_)
      · exact ite2 (fun _ => k _) (fun _ => two)
      · exact iteF two
    case sub3 =>
      rintro σ H Q ⟨a, k⟩
      obtain ⟨z8, e8⟩ := a 8 (by simp)
      refine ⟨_, e8, _, _, rfl, rfl, (by show (0 : Int) < 2; decide), rfl, _, rfl, ?_⟩
      exact ite2 (fun _ => k _ (.inl rfl)) (fun _ => k _ (.inr rfl))
    refine ⟨_, rfl, p, W, n, t, ws, rfl, rfl, rfl, hp, hW, nW, wok.wd, wok.hi, n0, n1, t1, fun H3 R zs0 t3 b3 nR hS az0 lz0 hp3 tt3 => ?_⟩
    refine ⟨p, R, _, t3, rfl, hp3, hS, nR, by rw [List.length_map]; omega, by omega, fun H4 R4 ys t4 b4 hR4 hy pm hp4 tt4 => ?_⟩
    obtain ⟨zs, rfl, pz⟩ := perm_str pm
    rw [List.length_map, lz0] at tt4
    have lz : zs.length = n.toNat := by rw [pz.length_eq]; exact lz0
    have az : ∀ x ∈ zs, Wd x := fun x hx => az0 x (pz.mem_iff.mp hx)
    have bH4 := b3.trans b4
    have nR4 := hp3.ne hR4
    have hW4 : SL H4 W ws := bH4 _ _ nW hW
    clear b3 b4 hS pm az0 lz0 hp3 pz
    have hy : SL H4 R4 zs := hy
    refine ⟨_, rfl, n, rfl, by omega, by omega, fun D hD => ?_⟩
    refine lc_range (n := n.toNat) (fun i H' => ∃ rs : List Str, Same H4 H' ∧ SL H' D rs ∧ rs.Nodup ∧ (∀ x ∈ rs, x ∈ zs.take i) ∧ (0 < i → rs ≠ []) ∧ rs.length ≤ i)
      ⟨[], Same.new hD, upd_same, List.nodup_nil, by simp, fun c => absurd c (by decide), Nat.le_refl _⟩ ?_ ?_
    · rintro i H' hi ⟨rs, sm, hD', nd, sub, ne, ll⟩
      have hiz : i < zs.length := by omega
      have hx := List.getElem?_eq_getElem hiz
      have ha : atI (zs.map V.str) (0 + (i : Int)) = some (V.str zs[i]) := at_of (j := i) (by omega) (by rw [List.getElem?_map, hx]; rfl)
      obtain ⟨j, hj, no⟩ := first_at (List.getElem_mem hiz)
      generalize zs[i] = x at hx ha hj no
      have hy' := (hy.same sm).sq (K := K)
      refine ⟨rfl, _, rfl, .inl ⟨rfl, _, hy'⟩, _, rfl, _, rfl, R4, _, _, _, rfl, rfl, hy', ha, R4, _, .str x, j, .str x, rfl, rfl, hy', rfl, flat_strs zs, by rw [List.getElem?_map, hj]; rfl, ?_, fun m z' hm hz => ?_, ?_⟩
      · show (x == x) = true
        exact beq_self_eq_true x
      · obtain ⟨y, hyy, rfl⟩ := get_map hz
        show (y == x) = false
        exact beq_eq_false_iff_ne.mpr fun e => no m hm (by rw [hyy, e])
      refine ⟨_, rfl, rfl, _, rfl, ?_⟩
      have hji : j ≤ i := by
        rcases Nat.lt_or_ge i j with c | c
        · exact absurd hx (no i c)
        · exact c
      refine ite2 (fun c => ?_) (fun c => ?_)
      · have ej : j = i := by
          have := of_decide_eq_true c
          have e2 : (j : Int) = 0 + (i : Int) := by injection this
          omega
        have xn : x ∉ zs.take i := fun hm => by
          obtain ⟨m, hm1, hm2⟩ := List.mem_take_iff_getElem.mp hm
          have : m < j := by omega
          exact no m this (by rw [List.getElem?_eq_getElem (by omega), hm2])
        refine ⟨_, rfl, _, rfl, R4, _, _, _, rfl, rfl, hy', ha, _, hD', by rw [List.length_map, sizeLine_eq]; omega, rs ++ [x], ?_, by rw [SL, upd_same, List.map_append]; rfl, nodup_app nd fun z => xn (sub x z), fun z hz => ?_, fun _ e => by simp at e, by rw [List.length_append]; simp only [List.length_singleton]; omega⟩
        · intro b u e
          rw [upd_ne (ne_of_none e hD)]; exact sm _ _ e
        · rw [take_succ_get hx]
          rcases List.mem_append.mp hz with z1 | z1
          · exact List.mem_append_left _ (sub z z1)
          · exact List.mem_append_right _ z1
      · have ei : i ≠ 0 := fun e => by
          refine c (decide_eq_true ?_)
          have : j = i := by omega
          rw [this, Int.zero_add]
        exact ⟨rs, sm, hD', nd, fun z hz => by rw [take_succ_get hx]; exact List.mem_append_left _ (sub z hz), fun _ => ne (by omega), by omega⟩
    · rintro H5 ⟨rs, sm, hD', nd, sub, ne, ll⟩
      have ne' := ne (by omega)
      have ln : 1 ≤ rs.length := List.length_pos_iff.mpr ne'
      have ar : ∀ x ∈ rs, Wd x := fun x hx => az x (List.mem_of_mem_take (sub x hx))
      have b5 := bH4.trans (But.of sm)
      have hp5 := hp4.same sm
      have hW5 := hW4.same sm
      have nDp := hp4.ne hD
      clear hy sub ne hD
      refine fun B hB => ⟨_, rfl, D, _, rfl, .inl (hD'.new hB).sq, _, _, rfl, rfl, _, _, rfl, ?_⟩
      have nBp := hp5.ne hB
      have nDB : D ≠ B := ne_of_none hD' hB
      have nWB : W ≠ B := ne_of_none hW5 hB
      have hB0 : H B = none := b5.fr hB nBp
      refine ⟨_, rfl, D, _, rfl, .inl (hD'.new hB).sq, _, rfl, by rw [List.length_map]; omega, by rw [List.length_map]; omega, ?_⟩
      rw [List.length_map]
      refine for_range (n := rs.length) (fun i σ H' => ∃ (v5 v8 : Option V) (bk : Bk) (t' : Int), σ = [some (.ref p), some (.int n), some (.ref W), some (.int top'), some (.ref D), v5, some (.ref B), some (.int ((rs.length : Int) - 1)), v8] ∧ But p H H' ∧ SL H' D rs ∧ SL H' W ws ∧ (∃ kvs, H' B = some (.dK kvs) ∧ Rows (cut [p, B] H') kvs bk) ∧ bk.map (·.1) = rs.take i ∧ (∀ r ∈ bk, ROk rs ws r) ∧ Purse H' p t' ∧ t' ≤ t4 + 51 * i)
        ⟨none, none, [], t4, rfl, b5.newt hB, hD'.new hB, hW5.new hB, ⟨[], upd_same, .nil⟩, by simp, by simp, hp5.new hB, by omega⟩ ?_ ?_
      · rintro i σ H' hi ⟨v5, v8, bk, t', rfl, b, hDD, hWW, ⟨kvs, hBB, hR⟩, ek, ak, hp', tt'⟩
        have hx := List.getElem?_eq_getElem hi
        have hxm := List.getElem_mem hi
        have ha : atI (rs.map V.str) (0 + (i : Int)) = some (V.str rs[i]) := at_of (j := i) (by omega) (by rw [List.getElem?_map, hx]; rfl)
        generalize rs[i] = x at hx hxm ha
        have xn : x ∉ bk.map (·.1) := fun z => by
          rw [ek] at z
          obtain ⟨m, hm1, hm2⟩ := List.mem_take_iff_getElem.mp z
          have h1 : rs[m]? = some x := by rw [List.getElem?_eq_getElem (by omega), hm2]
          have := (List.getElem?_inj (by omega) nd).mp (h1.trans hx.symm)
          omega
        have lk : kvs.length ≤ 6 := by
          rw [hR.len, ← List.length_map (·.1), ek, List.length_take]; omega
        refine ⟨_, rfl, p, 11, t', rfl, hp', by decide, by decide, by omega, fun way t5 o r0 r1 tt5 hp5 => ?_⟩
        have hD5 : SL (L2.upd H' p o) D rs := by rw [SL, upd_ne nDp]; exact hDD
        have hW5 : SL (L2.upd H' p o) W ws := by rw [SL, upd_ne nW]; exact hWW
        have hB5 : (L2.upd H' p o) B = some (.dK kvs) := by rw [upd_ne nBp]; exact hBB
        have hR5 : Rows (cut [p, B] (L2.upd H' p o)) kvs bk := by rw [cut_upd (by simp)]; exact hR
        have b5 := b.trans (But.upd p H' o)
        generalize L2.upd H' p o = H5 at hD5 hW5 hB5 hR5 hp5 b5
        clear hDD hWW hBB hR b hp'
        refine ⟨fun j hj => ?_, fun bb => ?_⟩
        · simp only [List.mem_cons, List.not_mem_nil, or_false] at hj
          rcases hj with rfl | rfl | rfl
          · exact ⟨_, rfl⟩
          · exact ⟨_, rfl⟩
          · exact ⟨_, rfl⟩
        have fin : ∀ (H6 : Hp) (E1 T1 : Addr) (k0 : Str) (ts : List (Str × Str)) (t6 : Int), But p H5 H6 → E1 ≠ p → E1 ≠ B → TurnsAt H6 E1 ts → H6 T1 = none → Purse H6 p t6 → t6 ≤ t5 + 50 → ROk rs ws (x, k0, ts) →
            ∃ (v5 v8 : Option V) (bk2 : Bk) (t' : Int), [some (.ref p), some (.int n), some (.ref W), some (.int top'), some (.ref D), some (.int (0 + (i : Int))), some (.ref B), some (.int ((rs.length : Int) - 1)), some (.int way)] = [some (.ref p), some (.int n), some (.ref W), some (.int top'), some (.ref D), v5, some (.ref B), some (.int ((rs.length : Int) - 1)), v8] ∧ But p H (L2.upd (L2.upd H6 T1 (.tup [.str k0, .ref E1])) B (.dK (putK kvs (.inr x) (.ref T1)))) ∧ SL (L2.upd (L2.upd H6 T1 (.tup [.str k0, .ref E1])) B (.dK (putK kvs (.inr x) (.ref T1)))) D rs ∧ SL (L2.upd (L2.upd H6 T1 (.tup [.str k0, .ref E1])) B (.dK (putK kvs (.inr x) (.ref T1)))) W ws ∧
              (∃ kvs', (L2.upd (L2.upd H6 T1 (.tup [.str k0, .ref E1])) B (.dK (putK kvs (.inr x) (.ref T1)))) B = some (.dK kvs') ∧ Rows (cut [p, B] (L2.upd (L2.upd H6 T1 (.tup [.str k0, .ref E1])) B (.dK (putK kvs (.inr x) (.ref T1))))) kvs' bk2) ∧ bk2.map (·.1) = rs.take (i + 1) ∧ (∀ r ∈ bk2, ROk rs ws r) ∧ Purse (L2.upd (L2.upd H6 T1 (.tup [.str k0, .ref E1])) B (.dK (putK kvs (.inr x) (.ref T1)))) p t' ∧ t' ≤ t4 + 51 * ((i + 1 : Nat) : Int) := by
          intro H6 E1 T1 k0 ts t6 b6 nE nEB hT hT1 hp6 tt6 rok
          have hB6 : H6 B = some (.dK kvs) := b6 _ _ nBp hB5
          have nT := hp6.ne hT1
          refine ⟨_, _, bk ++ [(x, k0, ts)], t6, rfl, But.ofL hB0 ((b5.trans b6).newt hT1), ?_, ?_, row_step hB6 (hR5.same (cut_but b6 (by simp))) xn hT nE nEB nT hT1, ?_, fun r hr => ?_, (hp6.new hT1).upd nBp.symm, by omega⟩
          · rw [SL, upd_ne nDB]; exact SL.new (b6 _ _ nDp hD5) hT1
          · rw [SL, upd_ne nWB]; exact SL.new (b6 _ _ nW hW5) hT1
          · rw [List.map_append, ek, take_succ_get hx]; rfl
          · rcases List.mem_append.mp hr with z | z
            · exact ak r z
            · rw [List.mem_singleton.mp z]; exact rok
        refine ite2 (fun _ => ?_) (fun _ => ?_)
        · refine fun E1 hE1 => ⟨by show 2 ≤ sizeLine; decide, fun T1 hT1 => ?_⟩
          have hD6 := (hD5.new (o := .dK []) hE1).new (o := .tup [.str "done", .ref E1]) hT1
          refine ⟨_, rfl, _, rfl, _, rfl, D, _, _, _, rfl, rfl, hD6.sq, ha, B, _, rfl, DPut.k (kvs := kvs) (k := Sum.inr x) ?_ (by rw [sizeLine_eq]; omega), ?_⟩
          · exact Same.new hT1 _ _ (Same.new hE1 _ _ hB5)
          · exact fin _ E1 T1 "done" [] t5 (But.new hE1) (hp5.ne hE1) (ne_of_none hB5 hE1).symm upd_same hT1 (hp5.new hE1) (by omega) ⟨ar x hxm, .inl ⟨rfl, rfl⟩⟩
        · refine ⟨fun j hj => ?_, fun k0 hk0 => ?_⟩
          · simp only [List.mem_cons, List.not_mem_nil, or_false] at hj
            rw [hj]; exact ⟨_, rfl⟩
          refine ⟨_, rfl, _, rfl, _, rfl, _, rfl, _, rfl, p, D, W, rs, ws, _, top', t5, rfl, hp5, hD5, hW5, nDp, nW, ln, by omega, wok.lo, Nat.le_trans wok.hi (by decide), wok.nd, by omega, by omega, p0, p1, by omega, fun H6 E1 ts t6 b6 hE1 hT ok ne6 hp6 tt6 => ?_⟩
          refine ⟨by show 2 ≤ sizeLine; decide, fun T1 hT1 => ?_⟩
          have hD6 := SL.new (o := .tup [.str k0, .ref E1]) (b6 _ _ nDp hD5 : SL H6 D rs) hT1
          refine ⟨_, rfl, _, rfl, _, rfl, D, _, _, _, rfl, rfl, hD6.sq, ha, B, _, rfl, DPut.k (k := Sum.inr x) (Same.new hT1 _ _ (b6 _ _ nBp hB5)) (by rw [sizeLine_eq]; omega), ?_⟩
          exact fin H6 E1 T1 k0 ts t6 b6 (hp5.ne hE1) (ne_of_none hB5 hE1).symm hT hT1 hp6 tt6 ⟨ar x hxm, .inr ⟨hk0, ne6, ok⟩⟩
      · rintro σ H' ⟨v5, v8, bk, t', rfl, b, hDD, hWW, ⟨kvs, hBB, hR⟩, ek, ak, hp', tt'⟩
        rw [List.take_length] at ek
        have ha : atI (rs.map V.str) (0 : Int) = some (V.str rs[0]) := at_of (j := 0) (by omega) (by rw [List.getElem?_map, List.getElem?_eq_getElem ln]; rfl)
        have h0 : rs[0] ∈ rs := List.getElem_mem ln
        refine ⟨_, rfl, _, rfl, D, _, _, _, rfl, rfl, hDD.sq, ha, by show 2 ≤ sizeLine; decide, fun R hR1 => ?_⟩
        refine k _ R bk rs[0] t' (b.newt hR1) (b.fr hR1 (hp'.ne hR1)) ⟨B, ?_, kvs, ?_, hR.same ?_⟩ ⟨by rw [ek]; exact nd, by rw [ek]; exact ak, by rw [ek]; exact h0, ?_⟩ (hp'.new hR1) (by omega)
        · rw [cut_out (by simp [hp'.ne hR1])]; exact upd_same
        · rw [cut_out (by simp [nBp])]; exact Same.new hR1 _ _ hBB
        · exact fun c u e => cut_new hR1 _ _ (cut_mono (S := [p, B]) (S' := [p]) (by simp) _ _ e)
        · rw [← List.length_map (·.1), ek]; omega
end
end D1
end L2
/-! shape -/
namespace L2
namespace D1
open PySem PySem.Spec PyProof.Rows
theorem merge_nd : ∀ (more kvs : List (Key × V)), (∀ p ∈ more, p.1 ∉ kvs.map (·.1)) → (more.map (·.1)).Nodup → mergeK kvs more = kvs ++ more
  | [], kvs, _, _ => (List.append_nil _).symm
  | p :: r, kvs, h, nd => by
    have nd' := List.nodup_cons.mp nd
    show mergeK (putK kvs p.1 p.2) r = _
    rw [putK_new (h p List.mem_cons_self), merge_nd r _ ?_ nd'.2, List.append_assoc]
    · rfl
    · intro q hq z
      rw [List.map_append] at z
      rcases List.mem_append.mp z with z | z
      · exact h q (List.mem_cons_of_mem _ hq) z
      · have : q.1 = p.1 := List.mem_singleton.mp z
        exact nd'.1 (by show p.1 ∈ _; rw [← this]; exact List.mem_map_of_mem hq)
theorem merge_id {kvs : List (Key × V)} (nd : (kvs.map (·.1)).Nodup) : mergeK [] kvs = kvs := by
  rw [merge_nd kvs [] (by simp) nd]; rfl
theorem inr_nd {l : List Str} (h : l.Nodup) : (l.map (Sum.inr : Str → Key)).Nodup := by
  induction l with
  | nil => exact List.nodup_nil
  | cons a r ih =>
    have h' := List.nodup_cons.mp h
    refine List.nodup_cons.mpr ⟨fun z => ?_, ih h'.2⟩
    obtain ⟨b, hb, e⟩ := List.mem_map.mp z
    exact h'.1 (by rw [← Sum.inr.inj e]; exact hb)
theorem kT_nd {ts : List (Str × Str)} (h : (ts.map (·.1)).Nodup) : ((kT ts).map (·.1)).Nodup := by
  have : (kT ts).map (·.1) = (ts.map (·.1)).map Sum.inr := by rw [kT, List.map_map, List.map_map]; rfl
  rw [this]; exact inr_nd h
/-- a new row, its words and goals in slots -/
def tRow (k : Str) (l : List (Nat × Nat)) : TE := fun σ H Q => ∃ ts : List (Str × Str), Paired (fun ij t => σ[ij.1]? = some (some (.str t.1)) ∧ σ[ij.2]? = some (some (.str t.2))) l ts ∧ (ts.map (·.1)).Nodup ∧
  ∀ (H' : Hp) (T E : Addr), Same H H' → H T = none → H E = none → H' T = some (.tup [.str k, .ref E]) → TurnsAt H' E ts → Q (.ref T) H'
theorem row2 {X : Cx} {k : Str} {i j m n : Nat} {e1 e2 e3 e4 : Expr} {pos pos' : Pos} {x1 j0 : Nat} {ps : Pos} (h1 : PE X e1 (tVar i)) (h2 : PE X e2 (tVar j)) (h3 : PE X e3 (tVar m)) (h4 : PE X e4 (tVar n)) :
    PE X (.Tuple [.Constant (.str k) j0 ps, .Dict [some e1, some e3] [e2, e4] pos] x1 pos') (tRow k [(i, j), (m, n)]) := by
  refine pe_imp (pe_tup (pa_cons pe_str (pa_cons (pe_disp (pps_cons h1 h2 (pps_cons h3 h4 pps_nil)) (by rfl) (by rfl) (fun z => by cases z) (by show 2 ≤ 15; decide)) pa_nil))) ?_
  rintro σ H Q ⟨ts, pr, nd, kk⟩
  cases pr with
  | @cons _ t1 _ _ a pr =>
    cases pr with
    | @cons _ t2 _ _ b pr =>
      cases pr
      refine fun E hE => ⟨_, a.1, _, a.2, _, b.1, _, b.2, upd_same, kT [t1, t2], rfl, by show 2 ≤ 15; decide, by show 2 ≤ sizeLine; decide, fun T hT => ?_⟩
      rw [merge_id (kT_nd nd)] at hT ⊢
      have hT2 := upd_none' hT
      have nET : E ≠ T := fun e => by rw [← e, upd_same] at hT; cases hT
      refine kk _ T E (fun c u ec => ?_) (upd_none' hT2) hE upd_same (by rw [TurnsAt, upd_ne nET, upd_same])
      rw [upd_ne (ne_of_none ec (upd_none' hT2)), upd_ne (ne_of_none ec hE), upd_ne (ne_of_none ec hE)]; exact ec
theorem row1 {X : Cx} {k : Str} {i j : Nat} {e1 e2 : Expr} {pos pos' : Pos} {x1 j0 : Nat} {ps : Pos} (h1 : PE X e1 (tVar i)) (h2 : PE X e2 (tVar j)) :
    PE X (.Tuple [.Constant (.str k) j0 ps, .Dict [some e1] [e2] pos] x1 pos') (tRow k [(i, j)]) := by
  refine pe_imp (pe_tup (pa_cons pe_str (pa_cons (pe_disp (pps_cons h1 h2 pps_nil) (by rfl) (by rfl) (fun z => by cases z) (by show 1 ≤ 15; decide)) pa_nil))) ?_
  rintro σ H Q ⟨ts, pr, nd, kk⟩
  cases pr with
  | @cons _ t1 _ _ a pr =>
    cases pr
    refine fun E hE => ⟨_, a.1, _, a.2, upd_same, kT [t1], rfl, by show 1 ≤ 15; decide, by show 2 ≤ sizeLine; decide, fun T hT => ?_⟩
    rw [merge_id (kT_nd nd)] at hT ⊢
    have hT2 := upd_none' hT
    have nET : E ≠ T := fun e => by rw [← e, upd_same] at hT; cases hT
    refine kk _ T E (fun c u ec => ?_) (upd_none' hT2) hE upd_same (by rw [TurnsAt, upd_ne nET, upd_same])
    rw [upd_ne (ne_of_none ec (upd_none' hT2)), upd_ne (ne_of_none ec hE), upd_ne (ne_of_none ec hE)]; exact ec
theorem row0 {X : Cx} {k : Str} {pos pos' : Pos} {x1 j0 : Nat} {ps : Pos} :
    PE X (.Tuple [.Constant (.str k) j0 ps, .Dict [] [] pos] x1 pos') (tRow k []) := by
  refine pe_imp (pe_tup (pa_cons pe_str (pa_cons pe_dnewK pa_nil))) ?_
  rintro σ H Q ⟨ts, pr, nd, kk⟩
  cases pr
  refine fun E hE => ⟨by show 2 ≤ sizeLine; decide, fun T hT => ?_⟩
  have nET : E ≠ T := fun e => by rw [← e, upd_same] at hT; cases hT
  refine kk _ T E (fun c u ec => ?_) (upd_none' hT) hE upd_same (by rw [TurnsAt, upd_ne nET, upd_same]; rfl)
  rw [upd_ne (ne_of_none ec (upd_none' hT)), upd_ne (ne_of_none ec hE)]; exact ec
/-- a row that stands new -/
theorem RowAt.mk' {S : List Addr} {H H' : Hp} {T E : Addr} {k : Str} {ts : List (Str × Str)} (hS : ∀ b ∈ S, ∃ u, H b = some u) (nT : H T = none) (nE : H E = none) (h1 : H' T = some (.tup [.str k, .ref E])) (h2 : TurnsAt H' E ts) : RowAt (cut S H') (.ref T) k ts := by
  refine ⟨T, E, rfl, ?_, ?_⟩
  · rw [cut_out fun z => by obtain ⟨u, hu⟩ := hS T z; rw [hu] at nT; cases nT]; exact h1
  · rw [TurnsAt, cut_out fun z => by obtain ⟨u, hu⟩ := hS E z; rw [hu] at nE; cases nE]; exact h2
abbrev sShape : Stmt := top 44
def spShape : Sp := fun vs H Q _ => ∃ (p W : Addr) (ws : List Str) (t : Int), vs = [.ref p, .ref W] ∧ Purse H p t ∧ SL H W ws ∧ W ≠ p ∧ WsOk ws ∧ 4 ≤ ws.length ∧ t < 2 ^ 26 ∧
  ∀ (H' : Hp) (R : Addr) (bk : Bk) (st : Str) (t' : Int), But p H H' → H R = none → WorldAt (cut [p] H') R bk st → WF bk st ws → Purse H' p t' → t' ≤ t + 700 → Q (.ref R) H'
/-- the end of a display of a book -/
theorem book_end {p B R : Addr} {H3 : Hp} {kvs : List (Key × V)} {bk : Bk} {st : Str} (hp : p ≠ B) (hRw : Rows (cut [p, B] H3) kvs bk) (nd : (bk.map (·.1)).Nodup) (hR : (L2.upd H3 B (.dK (mergeK [] kvs))) R = none) (nRp : R ≠ p) :
    WorldAt (cut [p] (L2.upd (L2.upd H3 B (.dK (mergeK [] kvs))) R (.lst [.ref B, .str st]))) R bk st := by
  have nd2 : (kvs.map (·.1)).Nodup := by
    have z := inr_nd nd
    rw [List.map_map] at z
    rw [hRw.keys]; exact z
  have nBR : B ≠ R := fun e => by rw [← e, upd_same] at hR; cases hR
  refine ⟨B, by rw [cut_out (by simpa using nRp)]; exact upd_same, kvs, ?_, ?_⟩
  · rw [cut_out (by simpa using hp.symm), upd_ne nBR, upd_same, merge_id nd2]
  · refine hRw.same fun c u e => ?_
    obtain ⟨nc, e⟩ := cut_some e
    simp only [List.mem_cons, List.not_mem_nil, or_false, not_or] at nc
    have ncR : c ≠ R := fun z => by rw [z] at e nc; rw [upd_ne nc.2] at hR; rw [hR] at e; cases e
    rw [cut_out (by simpa using nc.1), upd_ne ncR, upd_ne nc.2]; exact e
theorem tok2 {a b c d : Str} {ss ws : List Str} (n : a ≠ b) (ha : a ∈ ws) (hb : b ∈ ws) (hc : c ∈ ss) (hd : d ∈ ss) : TOk [(a, c), (b, d)] ss ws :=
  ⟨by simpa using n, by simp [ha, hb], by simp [hc, hd]⟩
theorem tok1 {a c : Str} {ss ws : List Str} (ha : a ∈ ws) (hc : c ∈ ss) : TOk [(a, c)] ss ws := ⟨by simp, by simp [ha], by simp [hc]⟩
end D1
end L2
/-! shape, its body -/
namespace L2
namespace D1
open PySem PySem.Spec PyProof.Rows
section
variable {P : Program} {w : World} {K : PySem.W.Frag} {mg : Str → Option Value} {base : Heap}
theorem scSa : FnScope ["_law_purse_here", "_law_words_here", "_law_way", "_law_states", "_law_begin", "_law_second", "_law_third", "_law_last", "_law_go", "_law_out", "_law_on", "_law_end", "_law_row"] ["_law_purse_here", "_law_words_here"] (defScope sShape) := ⟨rfl, rfl, rfl, by decide +kernel, rfl, by decide +kernel, by decide +kernel⟩
theorem ok_shape {f : Addr} {fd : FuncData} (F : Fun K "_law_shape" "_law_shape" sShape f fd) (T : Free2 mg) (CD : CDraw P w K mg base) (CW : CWords P w K mg base) :
    FnOk P w K mg base CX0 5 f fd ["_law_purse_here", "_law_words_here"] spShape := by
  refine F.ok scSa (fun vs H Q E h => ?_) (fun cdv A outer s H vs Q E hr h => ?_)
  · obtain ⟨p, W, ws, t, rfl, _⟩ := h; rfl
  · obtain ⟨p, W, ws, t, rfl, hp, hW, nW, wok, l4, t1, k⟩ := h
    have hu := hu_of hr
    refine ⟨_, pss_cons (ps_par (i := 2) (j := 3) rfl scSa.nd rfl rfl (by decide) rfl rfl (pa_cons (pe_cal CD (hr.mono (by decide)) rfl (pa_cons (pv 0) (pa_cons pe_int pa_nil))) (pa_cons (pe_cal CW (hr.mono (by decide)) rfl (pa_cons (pv 0) (pa_cons pe_int pa_nil))) pa_nil)) (by rfl))
      (pss_cons (ps_asg (pv 3) (pg_lst rfl (pgs_cons (pg_name (i := 4) scSa.nd rfl (Or.inl rfl)) (pgs_cons (pg_name (i := 5) scSa.nd rfl (Or.inl rfl)) (pgs_cons (pg_name (i := 6) scSa.nd rfl (Or.inl rfl)) (pgs_cons (pg_name (i := 7) scSa.nd rfl (Or.inl rfl)) pgs_nil))))))
      (pss_cons (ps_asg (pe_slice sl_list (pv 1) po_none (po_some pe_int)) (pg_lst rfl (pgs_cons (pg_name (i := 8) scSa.nd rfl (Or.inl rfl)) (pgs_cons (pg_name (i := 9) scSa.nd rfl (Or.inl rfl)) (pgs_cons (pg_name (i := 10) scSa.nd rfl (Or.inl rfl)) (pgs_cons (pg_name (i := 11) scSa.nd rfl (Or.inl rfl)) pgs_nil))))))
      (pss_cons (ps_if (pt_cmpR op_eq (pv 2) pe_int (nomark _)) (pss_one (ps_ret (pe_lst (pa_cons (pe_disp (pps_cons (pv 4) (row2 (pv 8) (pv 4) (pv 9) (pv 5)) (pps_cons (pv 5) row0 pps_nil)) (by rfl) (by rfl) (fun z => by cases z) (by show 2 ≤ 15; decide)) (pa_cons (pv 4) pa_nil))))) pss_nil)
      (pss_cons (ps_if (pt_cmpR op_eq (pv 2) pe_int (nomark _)) (pss_one (ps_ret (pe_lst (pa_cons (pe_disp (pps_cons (pv 4) (row2 (pv 8) (pv 5) (pv 9) (pv 6)) (pps_cons (pv 5) (row2 (pv 10) (pv 4) (pv 11) (pv 6)) (pps_cons (pv 6) row0 pps_nil))) (by rfl) (by rfl) (fun z => by cases z) (by show 3 ≤ 15; decide)) (pa_cons (pv 4) pa_nil))))) pss_nil)
      (pss_cons (ps_set (i := 12) scSa.nd rfl (Or.inl rfl) (pe_disp (pps_cons (pv 4) (row2 (pv 8) (pv 5) (pv 9) (pv 6)) (pps_cons (pv 5) (row2 (pv 10) (pv 4) (pv 11) (pv 7)) (pps_cons (pv 7) row0 pps_nil))) (by rfl) (by rfl) (fun z => by cases z) (by show 3 ≤ 15; decide)))
      (pss_cons (ps_dput hu (pv 12) (pv 6) (pe_ifExp (pt_cmpR op_eq (pv 2) pe_int (nomark _)) (row2 (pv 10) (pv 4) (pv 11) (pv 7)) (row1 (pv 10) (pv 6))) rfl)
      (pss_one (ps_ret (pe_lst (pa_cons (pv 12) (pa_cons (pv 4) pa_nil))))))))))), ?_⟩
    refine ⟨_, rfl, p, 4, t, rfl, hp, by decide, by decide, by omega, fun way t2 o r0 r1 tt2 hp2 => ?_⟩
    have b2 := But.upd p H o
    have hW2 : SL (L2.upd H p o) W ws := by rw [SL, upd_ne nW]; exact hW
    generalize L2.upd H p o = H2 at b2 hW2 hp2
    refine ⟨_, rfl, p, 4, t2, rfl, hp2, by decide, by decide, by omega, fun H3 S ss t3 b3 hS hSS ls nd aw hp3 tt3 => ⟨_, _, rfl, ?_⟩⟩
    have b03 := b2.trans b3
    have hW3 : SL H3 W ws := b3 _ _ nW hW2
    have ls4 : ss.length = 4 := ls
    obtain ⟨b', s', d', l', rfl⟩ : ∃ a b c d, ss = [a, b, c, d] := by
      match ss, ls4 with
      | [a, b, c, d], _ => exact ⟨a, b, c, d, rfl⟩
    refine ⟨_, rfl, S, _, rfl, hSS.sq, rfl, _, _, rfl, _, _, rfl, _, _, rfl, _, _, rfl, rfl, ?_⟩
    refine ⟨_, rfl, _, rfl, W, _, rfl, hW3.sq, fun q hq => ?_⟩
    rw [cutV_map, cutL_to _ (by decide)]
    obtain ⟨g', o', n', e', ew⟩ : ∃ a b c d, ws.take (4 : Int).toNat = [a, b, c, d] := by
      match ws, l4 with
      | a :: b :: c :: d :: r, _ => exact ⟨a, b, c, d, rfl⟩
    rw [ew]
    have wnd : ([g', o', n', e'] : List Str).Nodup := ew ▸ List.Nodup.sublist (List.take_sublist _ _) wok.nd
    have wm : ∀ x ∈ ([g', o', n', e'] : List Str), x ∈ ws := fun x hx => List.mem_of_mem_take (by rw [ew]; exact hx)
    refine ⟨q, _, rfl, SqL.of upd_same, rfl, _, _, rfl, _, _, rfl, _, _, rfl, _, _, rfl, rfl, ?_⟩
    have hp4 : Purse (L2.upd H3 q (.lst ([g', o', n', e'].map V.str))) p t3 := hp3.new hq
    have b04 : But p H (L2.upd H3 q (.lst ([g', o', n', e'].map V.str))) := b03.newt hq
    generalize L2.upd H3 q (.lst ([g', o', n', e'].map V.str)) = H4 at hp4 b04
    simp only [List.nodup_cons, List.mem_cons, List.not_mem_nil, or_false, not_or, not_false_eq_true, List.nodup_nil, and_true] at nd wnd
    obtain ⟨⟨nbs, nbd, nbl⟩, ⟨nsd, nsl⟩, ndl⟩ := nd
    obtain ⟨⟨ngo, ngn, nge⟩, ⟨non, noe⟩, nne⟩ := wnd
    have nld : ¬ l' = d' := fun e => ndl e.symm
    have gm := wm g' (by simp)
    have om := wm o' (by simp)
    have nm := wm n' (by simp)
    have em := wm e' (by simp)
    have wb := aw b' (by simp)
    have wsc := aw s' (by simp)
    have wd' := aw d' (by simp)
    have wl := aw l' (by simp)
    change Ends.nx _ [some (.ref p), some (.ref W), some (.int way), some (.ref S), some (.str b'), some (.str s'), some (.str d'), some (.str l'), some (.str g'), some (.str o'), some (.str n'), some (.str e'), none] _
    clear wm aw ls ls4 hSS hW3 hp3 hq b03 b3 hp2 b2 hW2
    refine ⟨_, rfl, rfl, _, rfl, ?_⟩
    refine ite2 (fun _ => ?_) (fun _ => ?_)
    · skip
      refine fun B hB => ?_
      have nBp := hp4.ne hB
      have hB0 : H B = none := b04.fr hB nBp
      have k0 : ∀ c ∈ [p, B], ∃ u, (L2.upd H4 B (.dK [])) c = some u := fun c hc => by
        rcases List.mem_cons.mp hc with rfl | hc
        · exact (hp4.new hB).some
        · obtain rfl := List.mem_singleton.mp hc; exact ⟨_, upd_same⟩
      have s0 : Same (L2.upd H4 B (.dK [])) (L2.upd H4 B (.dK [])) := Same.refl _
      refine ⟨_, rfl, [(g', b'), (o', s')], (.cons ⟨rfl, rfl⟩ (.cons ⟨rfl, rfl⟩ .nil)), by simpa using ngo, fun G1 T1 E1 s1 nT1 nE1 h1 e1 => ?_⟩
      have R1 := RowAt.mk' k0 nT1 nE1 h1 e1
      have k1 : ∀ c ∈ [p, B], ∃ u, G1 c = some u := fun c hc => by obtain ⟨u, hu⟩ := k0 c hc; exact ⟨u, s1 _ _ hu⟩
      refine ⟨_, rfl, [], .nil, by simp, fun G2 T2 E2 s2 nT2 nE2 h2 e2 => ?_⟩
      have R2 := RowAt.mk' k1 nT2 nE2 h2 e2
      have k2 : ∀ c ∈ [p, B], ∃ u, G2 c = some u := fun c hc => by obtain ⟨u, hu⟩ := k1 c hc; exact ⟨u, s2 _ _ hu⟩
      have hRw : Rows (cut [p, B] G2) [(.inr b', .ref T1), (.inr s', .ref T2)] [(b', "says", [(g', b'), (o', s')]), (s', "done", [])] := (.cons ⟨rfl, (R1).same (cut_same s2)⟩ (.cons ⟨rfl, R2⟩ .nil))
      have sT : Same (L2.upd H4 B (.dK [])) G2 := (Same.trans s1 s2)
      have hG := (hp4.new (o := .dK []) hB).same sT
      have bG : But p H G2 := (b04.newt hB).trans (But.of sT)
      refine ⟨sT _ _ upd_same, [(.inr b', .ref T1), (.inr s', .ref T2)], rfl, by show 2 ≤ 15; decide, ?_⟩
      refine ⟨_, rfl, by show 2 ≤ sizeLine; decide, fun R hR => ?_⟩
      have hG2 : Purse (L2.upd G2 B (.dK (mergeK [] [(.inr b', .ref T1), (.inr s', .ref T2)]))) p t3 := hG.upd nBp.symm
      have bG2 : But p H (L2.upd G2 B (.dK (mergeK [] [(.inr b', .ref T1), (.inr s', .ref T2)]))) := But.ofL hB0 bG
      refine k _ R [(b', "says", [(g', b'), (o', s')]), (s', "done", [])] b' t3 (bG2.newt hR) (bG2.fr hR (hG2.ne hR)) (book_end nBp.symm hRw (by simp [nbs, nbd, nbl, nsd, nsl, ndl, nld]) hR (hG2.ne hR)) ?_ (hG2.new hR) (by omega)
      refine ⟨by simp [nbs, nbd, nbl, nsd, nsl, ndl, nld], fun r hr => ?_, by simp, by simp⟩
      simp only [List.mem_cons, List.not_mem_nil, or_false] at hr
      rcases hr with rfl | rfl
      · exact ⟨wb, .inr ⟨.inl rfl, by simp, tok2 ngo gm om (by simp) (by simp)⟩⟩
      · exact ⟨wsc, .inl ⟨rfl, rfl⟩⟩
    · refine ⟨_, rfl, rfl, _, rfl, ?_⟩
      refine ite2 (fun _ => ?_) (fun _ => ?_)
      · skip
        refine fun B hB => ?_
        have nBp := hp4.ne hB
        have hB0 : H B = none := b04.fr hB nBp
        have k0 : ∀ c ∈ [p, B], ∃ u, (L2.upd H4 B (.dK [])) c = some u := fun c hc => by
          rcases List.mem_cons.mp hc with rfl | hc
          · exact (hp4.new hB).some
          · obtain rfl := List.mem_singleton.mp hc; exact ⟨_, upd_same⟩
        have s0 : Same (L2.upd H4 B (.dK [])) (L2.upd H4 B (.dK [])) := Same.refl _
        refine ⟨_, rfl, [(g', s'), (o', d')], (.cons ⟨rfl, rfl⟩ (.cons ⟨rfl, rfl⟩ .nil)), by simpa using ngo, fun G1 T1 E1 s1 nT1 nE1 h1 e1 => ?_⟩
        have R1 := RowAt.mk' k0 nT1 nE1 h1 e1
        have k1 : ∀ c ∈ [p, B], ∃ u, G1 c = some u := fun c hc => by obtain ⟨u, hu⟩ := k0 c hc; exact ⟨u, s1 _ _ hu⟩
        refine ⟨_, rfl, [(n', b'), (e', d')], (.cons ⟨rfl, rfl⟩ (.cons ⟨rfl, rfl⟩ .nil)), by simpa using nne, fun G2 T2 E2 s2 nT2 nE2 h2 e2 => ?_⟩
        have R2 := RowAt.mk' k1 nT2 nE2 h2 e2
        have k2 : ∀ c ∈ [p, B], ∃ u, G2 c = some u := fun c hc => by obtain ⟨u, hu⟩ := k1 c hc; exact ⟨u, s2 _ _ hu⟩
        refine ⟨_, rfl, [], .nil, by simp, fun G3 T3 E3 s3 nT3 nE3 h3 e3 => ?_⟩
        have R3 := RowAt.mk' k2 nT3 nE3 h3 e3
        have k3 : ∀ c ∈ [p, B], ∃ u, G3 c = some u := fun c hc => by obtain ⟨u, hu⟩ := k2 c hc; exact ⟨u, s3 _ _ hu⟩
        have hRw : Rows (cut [p, B] G3) [(.inr b', .ref T1), (.inr s', .ref T2), (.inr d', .ref T3)] [(b', "says", [(g', s'), (o', d')]), (s', "says", [(n', b'), (e', d')]), (d', "done", [])] := (.cons ⟨rfl, ((R1).same (cut_same s2)).same (cut_same s3)⟩ (.cons ⟨rfl, (R2).same (cut_same s3)⟩ (.cons ⟨rfl, R3⟩ .nil)))
        have sT : Same (L2.upd H4 B (.dK [])) G3 := (Same.trans (Same.trans s1 s2) s3)
        have hG := (hp4.new (o := .dK []) hB).same sT
        have bG : But p H G3 := (b04.newt hB).trans (But.of sT)
        refine ⟨sT _ _ upd_same, [(.inr b', .ref T1), (.inr s', .ref T2), (.inr d', .ref T3)], rfl, by show 3 ≤ 15; decide, ?_⟩
        refine ⟨_, rfl, by show 2 ≤ sizeLine; decide, fun R hR => ?_⟩
        have hG2 : Purse (L2.upd G3 B (.dK (mergeK [] [(.inr b', .ref T1), (.inr s', .ref T2), (.inr d', .ref T3)]))) p t3 := hG.upd nBp.symm
        have bG2 : But p H (L2.upd G3 B (.dK (mergeK [] [(.inr b', .ref T1), (.inr s', .ref T2), (.inr d', .ref T3)]))) := But.ofL hB0 bG
        refine k _ R [(b', "says", [(g', s'), (o', d')]), (s', "says", [(n', b'), (e', d')]), (d', "done", [])] b' t3 (bG2.newt hR) (bG2.fr hR (hG2.ne hR)) (book_end nBp.symm hRw (by simp [nbs, nbd, nbl, nsd, nsl, ndl, nld]) hR (hG2.ne hR)) ?_ (hG2.new hR) (by omega)
        refine ⟨by simp [nbs, nbd, nbl, nsd, nsl, ndl, nld], fun r hr => ?_, by simp, by simp⟩
        simp only [List.mem_cons, List.not_mem_nil, or_false] at hr
        rcases hr with rfl | rfl | rfl
        · exact ⟨wb, .inr ⟨.inl rfl, by simp, tok2 ngo gm om (by simp) (by simp)⟩⟩
        · exact ⟨wsc, .inr ⟨.inl rfl, by simp, tok2 nne nm em (by simp) (by simp)⟩⟩
        · exact ⟨wd', .inl ⟨rfl, rfl⟩⟩
      · skip
        refine fun B hB => ?_
        have nBp := hp4.ne hB
        have hB0 : H B = none := b04.fr hB nBp
        have k0 : ∀ c ∈ [p, B], ∃ u, (L2.upd H4 B (.dK [])) c = some u := fun c hc => by
          rcases List.mem_cons.mp hc with rfl | hc
          · exact (hp4.new hB).some
          · obtain rfl := List.mem_singleton.mp hc; exact ⟨_, upd_same⟩
        have s0 : Same (L2.upd H4 B (.dK [])) (L2.upd H4 B (.dK [])) := Same.refl _
        refine ⟨_, rfl, [(g', s'), (o', d')], (.cons ⟨rfl, rfl⟩ (.cons ⟨rfl, rfl⟩ .nil)), by simpa using ngo, fun G1 T1 E1 s1 nT1 nE1 h1 e1 => ?_⟩
        have R1 := RowAt.mk' k0 nT1 nE1 h1 e1
        have k1 : ∀ c ∈ [p, B], ∃ u, G1 c = some u := fun c hc => by obtain ⟨u, hu⟩ := k0 c hc; exact ⟨u, s1 _ _ hu⟩
        refine ⟨_, rfl, [(n', b'), (e', l')], (.cons ⟨rfl, rfl⟩ (.cons ⟨rfl, rfl⟩ .nil)), by simpa using nne, fun G2 T2 E2 s2 nT2 nE2 h2 e2 => ?_⟩
        have R2 := RowAt.mk' k1 nT2 nE2 h2 e2
        have k2 : ∀ c ∈ [p, B], ∃ u, G2 c = some u := fun c hc => by obtain ⟨u, hu⟩ := k1 c hc; exact ⟨u, s2 _ _ hu⟩
        refine ⟨_, rfl, [], .nil, by simp, fun G3 T3 E3 s3 nT3 nE3 h3 e3 => ?_⟩
        have R3 := RowAt.mk' k2 nT3 nE3 h3 e3
        have k3 : ∀ c ∈ [p, B], ∃ u, G3 c = some u := fun c hc => by obtain ⟨u, hu⟩ := k2 c hc; exact ⟨u, s3 _ _ hu⟩
        have hRw : Rows (cut [p, B] G3) [(.inr b', .ref T1), (.inr s', .ref T2), (.inr l', .ref T3)] [(b', "hears", [(g', s'), (o', d')]), (s', "says", [(n', b'), (e', l')]), (l', "done", [])] := (.cons ⟨rfl, ((R1).same (cut_same s2)).same (cut_same s3)⟩ (.cons ⟨rfl, (R2).same (cut_same s3)⟩ (.cons ⟨rfl, R3⟩ .nil)))
        have sT : Same (L2.upd H4 B (.dK [])) G3 := (Same.trans (Same.trans s1 s2) s3)
        have hG := (hp4.new (o := .dK []) hB).same sT
        have bG : But p H G3 := (b04.newt hB).trans (But.of sT)
        refine ⟨sT _ _ upd_same, [(.inr b', .ref T1), (.inr s', .ref T2), (.inr l', .ref T3)], rfl, by show 3 ≤ 15; decide, ?_⟩
        have mid : mergeK [] [(.inr b', .ref T1), (.inr s', .ref T2), (.inr l', .ref T3)] = [(.inr b', .ref T1), (.inr s', .ref T2), (.inr l', .ref T3)] := merge_id (inr_nd (l := [b', s', l']) (by simp [nbs, nbl, nsl]))
        have hG2 : Purse (L2.upd G3 B (.dK (mergeK [] [(.inr b', .ref T1), (.inr s', .ref T2), (.inr l', .ref T3)]))) p t3 := hG.upd nBp.symm
        have bG2 : But p H (L2.upd G3 B (.dK (mergeK [] [(.inr b', .ref T1), (.inr s', .ref T2), (.inr l', .ref T3)]))) := But.ofL hB0 bG
        have hRw5 : Rows (cut [p, B] (L2.upd G3 B (.dK (mergeK [] [(.inr b', .ref T1), (.inr s', .ref T2), (.inr l', .ref T3)])))) [(.inr b', .ref T1), (.inr s', .ref T2), (.inr l', .ref T3)] [(b', "hears", [(g', s'), (o', d')]), (s', "says", [(n', b'), (e', l')]), (l', "done", [])] := by rw [cut_upd (by simp)]; exact hRw
        have k4 : ∀ c ∈ [p, B], ∃ u, (L2.upd G3 B (.dK (mergeK [] [(.inr b', .ref T1), (.inr s', .ref T2), (.inr l', .ref T3)]))) c = some u := fun c hc => by
          rcases List.mem_cons.mp hc with rfl | hc
          · exact hG2.some
          · obtain rfl := List.mem_singleton.mp hc; exact ⟨_, upd_same⟩
        refine ⟨_, rfl, rfl, _, rfl, ?_⟩
        refine ite2 (fun _ => ?_) (fun _ => ?_)
        ·   refine ⟨[(n', b'), (e', l')], (.cons ⟨rfl, rfl⟩ (.cons ⟨rfl, rfl⟩ .nil)), by simpa using nne, fun G4 T4 E4 s4 nT4 nE4 h4 e4 => ?_⟩
            have R4 := RowAt.mk' k4 nT4 nE4 h4 e4
            have hB4 : G4 B = some (.dK [(.inr b', .ref T1), (.inr s', .ref T2), (.inr l', .ref T3)]) := s4 _ _ (by rw [upd_same, mid])
            have hRw4 : Rows (cut [p, B] G4) [(.inr b', .ref T1), (.inr s', .ref T2), (.inr l', .ref T3)] [(b', "hears", [(g', s'), (o', d')]), (s', "says", [(n', b'), (e', l')]), (l', "done", [])] := (hRw5.same (cut_same s4))
            refine ⟨_, rfl, _, rfl, B, _, rfl, DPut.k (k := Sum.inr d') hB4 (by rw [sizeLine_eq]; show 3 < _; decide), ?_⟩
            have hRw6 := hRw4.app (s := d') R4
            have ep : putK ([(.inr b', .ref T1), (.inr s', .ref T2), (.inr l', .ref T3)] : List (Key × V)) (.inr d') (.ref T4) = ([(.inr b', .ref T1), (.inr s', .ref T2), (.inr l', .ref T3)] : List (Key × V)) ++ ([(.inr d', .ref T4)] : List (Key × V)) := putK_new (hRw4.fresh (by simp [Ne.symm nbd, Ne.symm nsd, ndl]))
            rw [ep]
            have hG4 := hG2.same s4
            have bG4 := bG2.trans (But.of s4)
            refine ⟨_, rfl, _, rfl, by show 2 ≤ sizeLine; decide, fun R hR => ?_⟩
            have hG5 : Purse (L2.upd G4 B (.dK (([(.inr b', .ref T1), (.inr s', .ref T2), (.inr l', .ref T3)] : List (Key × V)) ++ ([(.inr d', .ref T4)] : List (Key × V))))) p t3 := hG4.upd nBp.symm
            have bG5 : But p H (L2.upd G4 B (.dK (([(.inr b', .ref T1), (.inr s', .ref T2), (.inr l', .ref T3)] : List (Key × V)) ++ ([(.inr d', .ref T4)] : List (Key × V))))) := But.ofL hB0 bG4
            have nRp := hG5.ne hR
            have nBR : B ≠ R := fun e => by rw [← e, upd_same] at hR; cases hR
            refine k _ R [(b', "hears", [(g', s'), (o', d')]), (s', "says", [(n', b'), (e', l')]), (l', "done", []), (d', "says", [(n', b'), (e', l')])] b' t3 (bG5.newt hR) (bG5.fr hR nRp) ⟨B, by rw [cut_out (by simpa using nRp)]; exact upd_same, _, by rw [cut_out (by simpa using nBp), upd_ne nBR, upd_same], hRw6.same fun c u e => ?_⟩ ?_ (hG5.new hR) (by omega)
            · obtain ⟨nc, e⟩ := cut_some e
              simp only [List.mem_cons, List.not_mem_nil, or_false, not_or] at nc
              have ncR : c ≠ R := fun z => by rw [z] at e nc; rw [upd_ne nc.2] at hR; rw [hR] at e; cases e
              rw [cut_out (by simpa using nc.1), upd_ne ncR, upd_ne nc.2]; exact e
            · refine ⟨by simp [nbs, nbd, nbl, nsd, nsl, ndl, nld], fun r hr => ?_, by simp, by simp⟩
              simp only [List.mem_cons, List.not_mem_nil, or_false] at hr
              rcases hr with rfl | rfl | rfl | rfl
              · exact ⟨wb, .inr ⟨.inr rfl, by simp, tok2 ngo gm om (by simp) (by simp)⟩⟩
              · exact ⟨wsc, .inr ⟨.inl rfl, by simp, tok2 nne nm em (by simp) (by simp)⟩⟩
              · exact ⟨wl, .inl ⟨rfl, rfl⟩⟩
              · exact ⟨wd', .inr ⟨.inl rfl, by simp, tok2 nne nm em (by simp) (by simp)⟩⟩
        ·   refine ⟨[(n', d')], (.cons ⟨rfl, rfl⟩ .nil), by simp, fun G4 T4 E4 s4 nT4 nE4 h4 e4 => ?_⟩
            have R4 := RowAt.mk' k4 nT4 nE4 h4 e4
            have hB4 : G4 B = some (.dK [(.inr b', .ref T1), (.inr s', .ref T2), (.inr l', .ref T3)]) := s4 _ _ (by rw [upd_same, mid])
            have hRw4 : Rows (cut [p, B] G4) [(.inr b', .ref T1), (.inr s', .ref T2), (.inr l', .ref T3)] [(b', "hears", [(g', s'), (o', d')]), (s', "says", [(n', b'), (e', l')]), (l', "done", [])] := (hRw5.same (cut_same s4))
            refine ⟨_, rfl, _, rfl, B, _, rfl, DPut.k (k := Sum.inr d') hB4 (by rw [sizeLine_eq]; show 3 < _; decide), ?_⟩
            have hRw6 := hRw4.app (s := d') R4
            have ep : putK ([(.inr b', .ref T1), (.inr s', .ref T2), (.inr l', .ref T3)] : List (Key × V)) (.inr d') (.ref T4) = ([(.inr b', .ref T1), (.inr s', .ref T2), (.inr l', .ref T3)] : List (Key × V)) ++ ([(.inr d', .ref T4)] : List (Key × V)) := putK_new (hRw4.fresh (by simp [Ne.symm nbd, Ne.symm nsd, ndl]))
            rw [ep]
            have hG4 := hG2.same s4
            have bG4 := bG2.trans (But.of s4)
            refine ⟨_, rfl, _, rfl, by show 2 ≤ sizeLine; decide, fun R hR => ?_⟩
            have hG5 : Purse (L2.upd G4 B (.dK (([(.inr b', .ref T1), (.inr s', .ref T2), (.inr l', .ref T3)] : List (Key × V)) ++ ([(.inr d', .ref T4)] : List (Key × V))))) p t3 := hG4.upd nBp.symm
            have bG5 : But p H (L2.upd G4 B (.dK (([(.inr b', .ref T1), (.inr s', .ref T2), (.inr l', .ref T3)] : List (Key × V)) ++ ([(.inr d', .ref T4)] : List (Key × V))))) := But.ofL hB0 bG4
            have nRp := hG5.ne hR
            have nBR : B ≠ R := fun e => by rw [← e, upd_same] at hR; cases hR
            refine k _ R [(b', "hears", [(g', s'), (o', d')]), (s', "says", [(n', b'), (e', l')]), (l', "done", []), (d', "says", [(n', d')])] b' t3 (bG5.newt hR) (bG5.fr hR nRp) ⟨B, by rw [cut_out (by simpa using nRp)]; exact upd_same, _, by rw [cut_out (by simpa using nBp), upd_ne nBR, upd_same], hRw6.same fun c u e => ?_⟩ ?_ (hG5.new hR) (by omega)
            · obtain ⟨nc, e⟩ := cut_some e
              simp only [List.mem_cons, List.not_mem_nil, or_false, not_or] at nc
              have ncR : c ≠ R := fun z => by rw [z] at e nc; rw [upd_ne nc.2] at hR; rw [hR] at e; cases e
              rw [cut_out (by simpa using nc.1), upd_ne ncR, upd_ne nc.2]; exact e
            · refine ⟨by simp [nbs, nbd, nbl, nsd, nsl, ndl, nld], fun r hr => ?_, by simp, by simp⟩
              simp only [List.mem_cons, List.not_mem_nil, or_false] at hr
              rcases hr with rfl | rfl | rfl | rfl
              · exact ⟨wb, .inr ⟨.inr rfl, by simp, tok2 ngo gm om (by simp) (by simp)⟩⟩
              · exact ⟨wsc, .inr ⟨.inl rfl, by simp, tok2 nne nm em (by simp) (by simp)⟩⟩
              · exact ⟨wl, .inl ⟨rfl, rfl⟩⟩
              · exact ⟨wd', .inr ⟨.inl rfl, by simp, tok1 nm (by simp)⟩⟩
end
end D1
end L2
/-! long -/
namespace L2
namespace D1
open PySem PySem.Spec PyProof.Rows
abbrev sLong : Stmt := top 52
def spLong : Sp := fun vs H Q _ => ∃ (p W : Addr) (ws : List Str) (most t : Int), vs = [.ref p, .ref W, .int most] ∧ Purse H p t ∧ SL H W ws ∧ W ≠ p ∧ WsOk ws ∧ 3 ≤ most ∧ most ≤ 6 ∧ t < 2 ^ 26 ∧
  ∀ (H' : Hp) (R : Addr) (bk : Bk) (st : Str) (t' : Int), But p H H' → H R = none → WorldAt (cut [p] H') R bk st → WF bk st ws → Purse H' p t' → t' ≤ t + 700 → Q (.ref R) H'
theorem atI_last {xs : List V} {v : V} (h : xs[xs.length - 1]? = some v) : atI xs (-1) = some v := by
  have hl : 0 < xs.length := by
    rcases Nat.eq_zero_or_pos xs.length with e | e
    · rw [List.length_eq_zero_iff.mp e] at h; cases h
    · exact e
  unfold atI ixN
  rw [if_neg (by decide), if_pos (by omega)]
  show xs[(-1 + (xs.length : Int)).toNat]? = _
  rw [show (-1 + (xs.length : Int)).toNat = xs.length - 1 by omega]
  exact h
theorem updd {H : Hp} {a : Addr} {o o' : HO} : L2.upd (L2.upd H a o) a o' = L2.upd H a o' := by
  funext b
  by_cases h : b = a
  · rw [h, upd_same, upd_same]
  · rw [upd_ne h, upd_ne h, upd_ne h]
section
variable {P : Program} {w : World} {K : PySem.W.Frag} {mg : Str → Option Value} {base : Heap}
theorem scLo : FnScope ["_law_purse_here", "_law_words_here", "_law_most", "_law_many", "_law_states", "_law_book", "_law_at", "_law_some", "_law_turns_here", "_law_word_here"] ["_law_purse_here", "_law_words_here", "_law_most"] (defScope sLong) := ⟨rfl, rfl, rfl, by decide +kernel, rfl, by decide +kernel, by decide +kernel⟩
theorem ok_long {f : Addr} {fd : FuncData} (F : Fun K "_law_long" "_law_long" sLong f fd) (T : Free2 mg) (CD : CDraw P w K mg base) (CW : CWords P w K mg base) (CS : CShuf P w K mg base) (CO : COne P w K mg base) :
    FnOk P w K mg base CX0 5 f fd ["_law_purse_here", "_law_words_here", "_law_most"] spLong := by
  refine F.ok scLo (fun vs H Q E h => ?_) (fun cdv A outer s H vs Q E hr h => ?_)
  · obtain ⟨p, W, ws, m, t, rfl, _⟩ := h; rfl
  · obtain ⟨p, W, ws, most, t, rfl, hp, hW, nW, wok, m3, m6, t1, k⟩ := h
    have hu := hu_of hr
    refine ⟨_, pss_cons (ps_set (i := 3) scLo.nd rfl (Or.inl rfl) (pe_op op_add pe_int (pe_cal CD (hr.mono (by decide)) rfl (pa_cons (pv 0) (pa_cons (pe_op op_sub (pv 2) pe_int) pa_nil)))))
      (pss_cons (ps_par (i := 4) (j := 5) rfl scLo.nd rfl rfl (by decide) rfl rfl (pa_cons (pe_cal CW (hr.mono (by decide)) rfl (pa_cons (pv 0) (pa_cons (pv 3) pa_nil))) (pa_cons pe_dnewK pa_nil)) (by rfl))
      (pss_cons (ps_for PassesOwn.never rfl (pi_range1 rfl T.range (pa_cons (pe_op op_sub (pv 3) pe_int) pa_nil)) (pg_name (i := 6) scLo.nd rfl (Or.inl rfl))
        (pss_cons (ps_set (i := 7) scLo.nd rfl (Or.inl rfl) (pe_slice sl_list (pe_cal CS (hr.mono (by decide)) rfl (pa_cons (pv 0) (pa_cons (pv 1) pa_nil))) po_none (po_some (pe_op op_add pe_int (pe_cal CD (hr.mono (by decide)) rfl (pa_cons (pv 0) (pa_cons (pe_callB (call_min2 rfl) (by rfl) T.min (by decide +kernel) (pa_cons pe_int (pa_cons (pe_callB call_len_seq (by rfl) T.len PySem.boot_len (pa_cons (pv 1) pa_nil)) pa_nil))) pa_nil)))))))
        (pss_cons (ps_set (i := 8) scLo.nd rfl (Or.inl rfl) (pe_disp (pps_cons (pe_ix ix_list (pv 7) pe_int (fun _ _ => rfl)) (pe_ix ix_list (pv 4) (pe_op op_add (pv 6) pe_int) (fun _ _ => rfl)) pps_nil) (by rfl) (by rfl) (fun z => by cases z) (by show 1 ≤ 15; decide)))
        (pss_cons (ps_for PassesOwn.never rfl (pi_list (pe_slice sl_list (pv 7) (po_some pe_int) po_none)) (pg_name (i := 9) scLo.nd rfl (Or.inl rfl))
          (pss_one (ps_dput hu (pv 8) (pv 9) (pe_cal CO (hr.mono (by decide)) rfl (pa_cons (pv 0) (pa_cons (pv 4) pa_nil))) rfl)))
        (pss_one (ps_dput hu (pv 5) (pe_ix ix_list (pv 4) (pv 6) (fun _ _ => rfl)) (pe_tup (pa_cons (pe_cal CO (hr.mono (by decide)) rfl (pa_cons (pv 0) (pa_cons (pe_lst (pa_cons pe_str (pa_cons pe_str pa_nil))) pa_nil))) (pa_cons (pv 8) pa_nil))) rfl))))))
      (pss_cons (ps_dput hu (pv 5) (pe_ix ix_list (pv 4) (pe_un un_neg pe_int) (fun _ _ => rfl)) (pe_tup (pa_cons pe_str (pa_cons pe_dnewK pa_nil))) rfl)
      (pss_one (ps_ret (pe_lst (pa_cons (pv 5) (pa_cons (pe_ix ix_list (pv 4) pe_int (fun _ _ => rfl)) pa_nil)))))))), ?_⟩
    refine ⟨_, rfl, _, rfl, _, _, rfl, rfl, p, most - 2, t, rfl, hp, by omega, by omega, by omega, fun r t2 o r0 r1 tt2 hp2 => ?_⟩
    have b2 := But.upd p H o
    have hW2 : SL (L2.upd H p o) W ws := by rw [SL, upd_ne nW]; exact hW
    generalize L2.upd H p o = H2 at b2 hW2 hp2
    refine ⟨_, _, rfl, rfl, ?_⟩
    refine ⟨_, rfl, _, rfl, p, 3 + r, t2, rfl, hp2, by omega, by omega, by omega, fun H3 S rs t3 b3 hS hSS ls nd ar hp3 tt3 => ?_⟩
    have b03 := b2.trans b3
    have hW3 : SL H3 W ws := b3 _ _ nW hW2
    have nSp := hp2.ne hS
    clear b2 b3 hW2 hp2 hS
    refine fun B hB => ⟨_, _, rfl, ?_⟩
    have nBp := hp3.ne hB
    have nSB : S ≠ B := ne_of_none hSS hB
    have nWB : W ≠ B := ne_of_none hW3 hB
    have hB0 := b03.fr hB nBp
    have lr : 3 ≤ rs.length ∧ rs.length ≤ 6 ∧ (rs.length : Int) = 3 + r := by omega
    refine ⟨_, rfl, _, _, rfl, rfl, 3 + r - 1, rfl, by omega, by omega, ?_⟩
    refine for_range (n := (3 + r - 1).toNat) (fun i σ H' => ∃ (v6 v7 v8 v9 : Option V) (bk : Bk) (t' : Int), σ = [some (.ref p), some (.ref W), some (.int most), some (.int (3 + r)), some (.ref S), some (.ref B), v6, v7, v8, v9] ∧ But p H H' ∧ SL H' S rs ∧ SL H' W ws ∧ (∃ kvs, H' B = some (.dK kvs) ∧ Rows (cut [p, B] H') kvs bk) ∧ bk.map (·.1) = rs.take i ∧ (∀ r ∈ bk, ROk rs ws r) ∧ Purse H' p t' ∧ t' ≤ t3 + 20 * i)
      ⟨none, none, none, none, [], t3, rfl, b03.newt hB, hSS.new hB, hW3.new hB, ⟨[], upd_same, .nil⟩, by simp, by simp, hp3.new hB, by omega⟩ ?_ ?_
    · rintro i σ H' hi ⟨v6, v7, v8, v9, bk, t', rfl, b, hDD, hWW, ⟨kvs, hBB, hR⟩, ek, ak, hp', tt'⟩
      have hil : i < rs.length := by omega
      have hil1 : i + 1 < rs.length := by omega
      have hx := List.getElem?_eq_getElem hil
      have hxm := List.getElem_mem hil
      have ha : atI (rs.map V.str) (0 + (i : Int)) = some (V.str rs[i]) := at_of (j := i) (by omega) (by rw [List.getElem?_map, hx]; rfl)
      have ha1 : atI (rs.map V.str) (0 + (i : Int) + 1) = some (V.str rs[i + 1]) := at_of (j := i + 1) (by omega) (by rw [List.getElem?_map, List.getElem?_eq_getElem hil1]; rfl)
      have hgm := List.getElem_mem hil1
      generalize rs[i] = x at hx hxm ha
      generalize rs[i + 1] = g at ha1 hgm
      have xn : x ∉ bk.map (·.1) := fun z => by
        rw [ek] at z
        obtain ⟨m, hm1, hm2⟩ := List.mem_take_iff_getElem.mp z
        have h1 : rs[m]? = some x := by rw [List.getElem?_eq_getElem (by omega), hm2]
        have := (List.getElem?_inj (by omega) nd).mp (h1.trans hx.symm)
        omega
      have lk : kvs.length ≤ 6 := by
        rw [hR.len, ← List.length_map (·.1), ek, List.length_take]; omega
      refine ⟨_, rfl, _, rfl, p, W, _, t', rfl, hp', hWW, nW, by rw [List.length_map]; have := wok.hi; omega, by omega, fun H4 R4 ys t4 b4 hR4 hy pm hp4 tt4 => ?_⟩
      obtain ⟨zs, rfl, pz⟩ := perm_str pm
      rw [List.length_map] at tt4
      have wl := wok.lo
      have wh := wok.hi
      have lz : zs.length = ws.length := pz.length_eq
      have hy : SL H4 R4 zs := hy
      have nR4 := hp'.ne hR4
      refine ⟨_, rfl, _, rfl, W, _, rfl, .inl (SL.sq (b4 _ _ nW hWW : SL H4 W ws)), 3, _, rfl, ?_⟩
      rw [List.length_map]
      generalize hM : (if (ws.length : Int) < 3 then (ws.length : Int) else 3) = M
      have bM : 1 ≤ M ∧ M ≤ 3 := by rw [← hM]; split <;> omega
      refine ⟨p, M, t4, rfl, hp4, bM.1, by omega, by omega, fun r5 t5 o5 r50 r51 tt5 hp5 => ?_⟩
      have hy5 : SL (L2.upd H4 p o5) R4 zs := by rw [SL, upd_ne nR4]; exact hy
      have b5 := b4.trans (But.upd p H4 o5)
      generalize L2.upd H4 p o5 = H5 at hp5 hy5 b5
      refine ⟨_, _, rfl, rfl, 1 + r5, rfl, R4, _, rfl, hy5.sq, fun X hX => ?_⟩
      rw [cutV_map, cutL_to _ (by omega)]
      have hm : 1 ≤ (1 + r5).toNat := by omega
      generalize (1 + r5).toNat = m at hm
      have lu : (zs.take m).length ≤ 6 ∧ 1 ≤ (zs.take m).length := by rw [List.length_take]; omega
      have mm : ∀ z ∈ zs.take m, z ∈ ws := fun z hz => pz.mem_iff.mp (List.mem_of_mem_take hz)
      generalize zs.take m = us at lu mm
      have hX6 : SL (L2.upd H5 X (.lst (us.map V.str))) X us := upd_same
      have b6 := b5.newt (o := .lst (us.map V.str)) hX
      have hp6 := hp5.new (o := .lst (us.map V.str)) hX
      generalize L2.upd H5 X (.lst (us.map V.str)) = H6 at hX6 b6 hp6
      obtain ⟨u0, ur, rfl⟩ : ∃ a l, us = a :: l := by
        match us, lu.2 with
        | a :: l, _ => exact ⟨a, l, rfl⟩
      have hS6 : SL H6 S rs := b6 _ _ nSp hDD
      refine fun Dt hDt => ?_
      have nXD : X ≠ Dt := ne_of_none hX6 hDt
      refine ⟨_, rfl, X, _, 0, .str u0, rfl, rfl, (hX6.new hDt).sq, atI_nat (j := 0) rfl, _, rfl, _, rfl, _, _, rfl, rfl, S, _, _, _, rfl, rfl, (hS6.new hDt).sq, ha1, upd_same, kT [(u0, g)], rfl, by show 1 ≤ 15; decide, ?_⟩
      rw [merge_id (kT_nd (ts := [(u0, g)]) (by simp))]
      rw [updd]
      have nDp := hp6.ne hDt
      have b7 := b6.newt (o := .dK (kT [(u0, g)])) hDt
      have hX7 : SL (L2.upd H6 Dt (.dK (kT [(u0, g)]))) X (u0 :: ur) := hX6.new hDt
      have hp7 := hp6.new (o := .dK (kT [(u0, g)])) hDt
      have hT7 : TurnsAt (L2.upd H6 Dt (.dK (kT [(u0, g)]))) Dt [(u0, g)] := upd_same
      have hDt0 : H' Dt = none := b6.fr hDt nDp
      have nDB : Dt ≠ B := fun e => by rw [e, hBB] at hDt0; cases hDt0
      have nSD : S ≠ Dt := fun e => by rw [← e, hDD] at hDt0; cases hDt0
      generalize L2.upd H6 Dt (.dK (kT [(u0, g)])) = H7 at b7 hX7 hp7 hT7
      clear hX6 hp6 b6 hS6 hDt hp5 hy5 b5 hp4 b4 hy
      refine ⟨_, rfl, _, rfl, X, _, rfl, hX7.sq, fun Y hY => ⟨Y, rfl, ⟨_, SqL.of upd_same⟩, ?_⟩⟩
      rw [cutV_map, cutL_from _ (by decide)]
      have nYp := hp7.ne hY
      have nYD : Dt ≠ Y := ne_of_none hT7 hY
      have mr : ∀ z ∈ (u0 :: ur).drop (1 : Int).toNat, z ∈ ws := fun z hz => mm z (List.mem_of_mem_drop hz)
      have lu2 : ((u0 :: ur).drop (1 : Int).toNat).length ≤ 5 := by rw [List.length_drop]; have := lu.1; show _ - 1 ≤ 5; omega
      generalize (u0 :: ur).drop (1 : Int).toNat = vs at mr lu2
      refine for_list (K := K) (a := Y) (xs := vs.map V.str) (fun j σ H'' => ∃ (v9 : Option V) (ts : List (Str × Str)) (t'' : Int), σ = [some (.ref p), some (.ref W), some (.int most), some (.int (3 + r)), some (.ref S), some (.ref B), some (.int (0 + (i : Int))), some (.ref X), some (.ref Dt), v9] ∧ But p H' H'' ∧ SL H'' Y vs ∧ TurnsAt H'' Dt ts ∧ TOk ts rs ws ∧ ts ≠ [] ∧ Purse H'' p t'' ∧ t'' ≤ t5 + j)
        ⟨v9, _, t5, rfl, b7.newt hY, upd_same, hT7.same (Same.new hY), tok1 (mm u0 List.mem_cons_self) hgm, by simp, hp7.new hY, by omega⟩ (fun j σ H'' _ ⟨v9, ts, t'', _, _, z, _⟩ => z.sq) ?_ ?_
      · rintro j z0 σ H8 hz0 ⟨v9, ts, t8, rfl, b8, hY8, hT8, ok, ne, hp8, tt8⟩
        obtain ⟨z, hz, rfl⟩ := get_map hz0
        have hzm := mr z (List.mem_of_getElem? hz)
        have lj : j < vs.length := (List.getElem?_eq_some_iff.mp hz).1
        have lts := ok.len
        refine ⟨_, rfl, _, rfl, p, S, _, t8, rfl, hp8, b8 _ _ nSp hDD, nSp, by rw [List.length_map]; omega, by rw [List.length_map]; omega, by omega, fun jj v tA oA hj ttA hpA => ?_⟩
        obtain ⟨gg, hgg, rfl⟩ := get_map hj
        have hggm := List.mem_of_getElem? hgg
        refine ⟨_, rfl, _, rfl, Dt, _, rfl, DPut.k (k := Sum.inr z) (by rw [upd_ne nDp]; exact hT8) (by rw [kT, List.length_map, sizeLine_eq]; omega), ?_⟩
        rw [putK_kT]
        refine ⟨_, _, tA, rfl, But.ofL hDt0 (b8.trans (But.upd p H8 oA)), ?_, upd_same, ok.put hzm hggm, putT_ne, hpA.upd nDp.symm, by omega⟩
        rw [SL, upd_ne nYD.symm, upd_ne nYp]; exact hY8
      · rintro σ H8 ⟨v9, ts, t8, rfl, b8, hY8, hT8, ok, ne, hp8, tt8⟩
        rw [List.length_map] at tt8
        have lts := ok.len
        refine ⟨_, rfl, ⟨by show 2 ≤ sizeLine; decide, fun q hq => ?_⟩⟩
        refine ⟨p, q, [.str "says", .str "hears"], t8, rfl, hp8.new hq, upd_same, hp8.ne hq, by show 1 ≤ 2; decide, by show 2 < 2 ^ 20; decide, by omega, fun jj v tA oA hj ttA hpA => ?_⟩
        obtain ⟨k0, rfl, hk0⟩ : ∃ k0 : Str, v = .str k0 ∧ (k0 = "says" ∨ k0 = "hears") := by
          match jj, hj with
          | 0, hj => cases hj; exact ⟨_, rfl, .inl rfl⟩
          | 1, hj => cases hj; exact ⟨_, rfl, .inr rfl⟩
        have hT9 : TurnsAt (L2.upd (L2.upd H8 q (.lst [.str "says", .str "hears"])) p oA) Dt ts := by
          rw [TurnsAt, upd_ne nDp]; exact hT8.same (Same.new hq)
        have b9 := (b8.newt (o := .lst [.str "says", .str "hears"]) hq).trans (But.upd p _ oA)
        generalize L2.upd (L2.upd H8 q (.lst [.str "says", .str "hears"])) p oA = H9 at hT9 b9 hpA
        refine ⟨_, rfl, by show 2 ≤ sizeLine; decide, fun T1 hT1 => ?_⟩
        have hS9 : SL H9 S rs := b9 _ _ nSp hDD
        have hB9 : H9 B = some (.dK kvs) := b9 _ _ nBp hBB
        refine ⟨_, rfl, _, rfl, _, rfl, S, _, _, _, rfl, rfl, (hS9.new hT1).sq, ha, B, _, rfl, DPut.k (kvs := kvs) (k := Sum.inr x) (Same.new hT1 _ _ hB9) (by rw [sizeLine_eq]; omega), ?_⟩
        have nT := hpA.ne hT1
        have hR9 : Rows (cut [p, B] H9) kvs bk := hR.same (cut_but b9 (by simp))
        have nSB' : S ≠ B := nSB
        refine ⟨_, _, _, _, bk ++ [(x, k0, ts)], tA, rfl, But.ofL hB0 ((b.trans b9).newt hT1), ?_, ?_, row_step hB9 hR9 xn hT9 nDp nDB nT hT1, ?_, fun r hr => ?_, (hpA.new hT1).upd nBp.symm, by omega⟩
        · rw [SL, upd_ne nSB]; exact hS9.new hT1
        · rw [SL, upd_ne nWB]; exact SL.new (b9 _ _ nW hWW) hT1
        · rw [List.map_append, ek, take_succ_get hx]; rfl
        · rcases List.mem_append.mp hr with z | z
          · exact ak r z
          · rw [List.mem_singleton.mp z]; exact ⟨ar x hxm, .inr ⟨hk0, ne, ok⟩⟩
    · rintro σ H' ⟨v6, v7, v8, v9, bk, t', rfl, b, hDD, hWW, ⟨kvs, hBB, hR⟩, ek, ak, hp', tt'⟩
      have e1 : (3 + r - 1).toNat = rs.length - 1 := by omega
      rw [e1] at ek
      have hil : rs.length - 1 < rs.length := by omega
      have hx := List.getElem?_eq_getElem hil
      have hxm := List.getElem_mem hil
      have ha : atI (rs.map V.str) (-1) = some (V.str rs[rs.length - 1]) := atI_last (by rw [List.length_map, List.getElem?_map, hx]; rfl)
      have hfull : rs.take (rs.length - 1) ++ [rs[rs.length - 1]] = rs := by
        rw [← take_succ_get hx, Nat.sub_add_cancel (by omega), List.take_length]
      generalize rs[rs.length - 1] = x at hx hxm ha hfull
      have xn : x ∉ bk.map (·.1) := fun z => by
        rw [ek] at z
        obtain ⟨m, hm1, hm2⟩ := List.mem_take_iff_getElem.mp z
        have h1 : rs[m]? = some x := by rw [List.getElem?_eq_getElem (by omega), hm2]
        have := (List.getElem?_inj (by omega) nd).mp (h1.trans hx.symm)
        omega
      have lk : kvs.length ≤ 6 := by
        rw [hR.len, ← List.length_map (·.1), ek, List.length_take]; omega
      refine fun E1 hE1 => ⟨by show 2 ≤ sizeLine; decide, fun T1 hT1 => ?_⟩
      have hD6 := (hDD.new (o := .dK []) hE1).new (o := .tup [.str "done", .ref E1]) hT1
      have hB6 := Same.new (o := .dK []) hE1 _ _ hBB
      refine ⟨_, rfl, _, rfl, _, rfl, S, _, _, _, rfl, rfl, hD6.sq, ha, B, _, rfl, DPut.k (kvs := kvs) (k := Sum.inr x) (Same.new hT1 _ _ hB6) (by rw [sizeLine_eq]; omega), ?_⟩
      have hp6 := hp'.new (o := .dK []) hE1
      obtain ⟨kv2, g1, g2⟩ := row_step (k := "done") (ts := []) hB6 (hR.same (cut_new hE1)) xn upd_same (hp'.ne hE1) (ne_of_none hBB hE1).symm (hp6.ne hT1) hT1
      have b6 := But.ofL (o := .dK (putK kvs (.inr x) (.ref T1))) hB0 ((b.newt hE1).newt (o := .tup [.str "done", .ref E1]) hT1)
      have hp7 := (hp6.new (o := .tup [.str "done", .ref E1]) hT1).upd (o := .dK (putK kvs (.inr x) (.ref T1))) nBp.symm
      have hS7 : SL (L2.upd (L2.upd (L2.upd H' E1 (.dK [])) T1 (.tup [.str "done", .ref E1])) B (.dK (putK kvs (.inr x) (.ref T1)))) S rs := by rw [SL, upd_ne nSB]; exact hD6
      generalize L2.upd (L2.upd (L2.upd H' E1 (.dK [])) T1 (.tup [.str "done", .ref E1])) B (.dK (putK kvs (.inr x) (.ref T1))) = H7 at g1 g2 b6 hp7 hS7
      have ha0 : atI (rs.map V.str) (0 : Int) = some (V.str rs[0]) := at_of (j := 0) (by omega) (by rw [List.getElem?_map, List.getElem?_eq_getElem (by omega)]; rfl)
      have h0 : rs[0] ∈ rs := List.getElem_mem (by omega)
      have ekk : (bk ++ ([(x, "done", [])] : Bk)).map (·.1) = rs := by rw [List.map_append, ek]; exact hfull
      refine ⟨_, rfl, _, rfl, S, _, _, _, rfl, rfl, hS7.sq, ha0, by show 2 ≤ sizeLine; decide, fun R hR1 => ?_⟩
      refine k _ R (bk ++ ([(x, "done", [])] : Bk)) rs[0] t' (b6.newt hR1) (b6.fr hR1 (hp7.ne hR1)) ⟨B, ?_, kv2, ?_, g2.same ?_⟩ ⟨by rw [ekk]; exact nd, ?_, by rw [ekk]; exact h0, ?_⟩ (hp7.new hR1) (by omega)
      · rw [cut_out (by simp [hp7.ne hR1])]; exact upd_same
      · rw [cut_out (by simp [nBp])]; exact Same.new hR1 _ _ g1
      · exact fun c u e => cut_new hR1 _ _ (cut_mono (S := [p, B]) (S' := [p]) (by simp) _ _ e)
      · rw [ekk]
        intro r hr
        rcases List.mem_append.mp hr with z | z
        · exact ak r z
        · rw [List.mem_singleton.mp z]; exact ⟨ar x hxm, .inl ⟨rfl, rfl⟩⟩
      · rw [← List.length_map (·.1), ekk]; omega
end
end D1
end L2
/-! row_of, rich -/
namespace L2
namespace D1
open PySem PySem.Spec PyProof.Rows
abbrev sRowOf : Stmt := top 48
abbrev sRich : Stmt := top 53
/-- a list of a world and its words -/
def RichAt (H : Hp) (R : Addr) (bk : Bk) (st : Str) (ws : List Str) : Prop := ∃ W L, H R = some (.lst [.ref W, .ref L]) ∧ WorldAt H W bk st ∧ SL H L ws
theorem RichAt.same {H H' : Hp} {R : Addr} {bk : Bk} {st : Str} {ws : List Str} (h : RichAt H R bk st ws) (s : Same H H') : RichAt H' R bk st ws := by
  obtain ⟨W, L, h1, h2, h3⟩ := h; exact ⟨W, L, s _ _ h1, h2.same s, h3.same s⟩
def spRow (c d : Int) : Sp := fun vs H Q _ => ∃ (p : Addr) (top' t : Int), vs = [.ref p, .int top'] ∧ Purse H p t ∧ 3 ≤ top' ∧ top' ≤ 6 ∧ t < c ∧
  ∀ (H' : Hp) (R : Addr) (bk : Bk) (st : Str) (ws : List Str) (t' : Int), But p H H' → RichAt (cut [p] H') R bk st ws → WF bk st ws → WsOk ws → Purse H' p t' → t' ≤ t + d → Q (.ref R) H'
theorem rich_new {p R W L : Addr} {H : Hp} {bk : Bk} {st : Str} {ws : List Str} (hR : H R = none) (nR : R ≠ p) (hW : WorldAt (cut [p] H) W bk st) (hL : SL H L ws) (nL : L ≠ p) : RichAt (cut [p] (L2.upd H R (.lst [.ref W, .ref L]))) R bk st ws :=
  ⟨W, L, by rw [cut_out (by simpa using nR)]; exact upd_same, hW.same (cut_new hR), by rw [SL, cut_out (by simpa using nL)]; exact hL.new hR⟩
theorem ws_take {ws : List Str} (l : ws.length = 6) (nd : ws.Nodup) (aw : ∀ x ∈ ws, Wd x) {k : Nat} (h : 1 ≤ k) : WsOk (ws.take k) :=
  ⟨by rw [List.length_take]; omega, by rw [List.length_take]; omega, List.Nodup.sublist (List.take_sublist _ _) nd, fun x hx => aw x (List.mem_of_mem_take hx)⟩
section
variable {P : Program} {w : World} {K : PySem.W.Frag} {mg : Str → Option Value} {base : Heap}
abbrev CPool (P : Program) (w : World) (K : PySem.W.Frag) (mg : Str → Option Value) (base : Heap) := Cal P w K mg base "_law_pool" 5 ["_law_purse_here"] spPool
abbrev CWorld (P : Program) (w : World) (K : PySem.W.Frag) (mg : Str → Option Value) (base : Heap) := Cal P w K mg base "_law_world" 5 ["_law_purse_here", "_law_many", "_law_words_here", "_law_top"] spWorld
abbrev CShape (P : Program) (w : World) (K : PySem.W.Frag) (mg : Str → Option Value) (base : Heap) := Cal P w K mg base "_law_shape" 5 ["_law_purse_here", "_law_words_here"] spShape
abbrev CLong (P : Program) (w : World) (K : PySem.W.Frag) (mg : Str → Option Value) (base : Heap) := Cal P w K mg base "_law_long" 5 ["_law_purse_here", "_law_words_here", "_law_most"] spLong
abbrev CRow (P : Program) (w : World) (K : PySem.W.Frag) (mg : Str → Option Value) (base : Heap) := Cal P w K mg base "_law_row_of" 6 ["_law_purse_here", "_law_top"] (spRow (2 ^ 25) 1800)
theorem scRo : FnScope ["_law_purse_here", "_law_top", "_law_pool_here", "_law_words_here"] ["_law_purse_here", "_law_top"] (defScope sRowOf) := ⟨rfl, rfl, rfl, by decide +kernel, rfl, by decide +kernel, by decide +kernel⟩
theorem ok_row {f : Addr} {fd : FuncData} (F : Fun K "_law_row_of" "_law_row_of" sRowOf f fd) (T : Free2 mg) (CD : CDraw P w K mg base) (CP : CPool P w K mg base) (CW : CWorld P w K mg base) (CS : CShape P w K mg base) :
    FnOk P w K mg base CX0 6 f fd ["_law_purse_here", "_law_top"] (spRow (2 ^ 25) 1800) := by
  refine F.ok scRo (fun vs H Q E h => ?_) (fun cdv A outer s H vs Q E hr h => ?_)
  · obtain ⟨p, m, t, rfl, _⟩ := h; rfl
  · obtain ⟨p, top', t, rfl, hp, m3, m6, t1, k⟩ := h
    refine ⟨_, pss_cons (ps_set (i := 2) scRo.nd rfl (Or.inl rfl) (pe_cal CP (hr.mono (by decide)) rfl (pa_cons (pv 0) pa_nil)))
      (pss_cons (ps_if (pt_cmpR op_eq (pe_cal CD (hr.mono (by decide)) rfl (pa_cons (pv 0) (pa_cons pe_int pa_nil))) pe_int (nomark _))
        (pss_one (ps_ret (pe_lst (pa_cons (pe_cal CW (hr.mono (by decide)) rfl (pa_cons (pv 0) (pa_cons (pe_op op_add pe_int (pe_cal CD (hr.mono (by decide)) rfl (pa_cons (pv 0) (pa_cons (pv 1) pa_nil)))) (pa_cons (pe_slice sl_list (pv 2) po_none (po_some pe_int)) (pa_cons pe_int pa_nil))))) (pa_cons (pe_slice sl_list (pv 2) po_none (po_some pe_int)) pa_nil))))) pss_nil)
      (pss_cons (ps_set (i := 3) scRo.nd rfl (Or.inl rfl) (pe_slice sl_list (pv 2) po_none (po_some (pe_op op_add pe_int (pe_cal CD (hr.mono (by decide)) rfl (pa_cons (pv 0) (pa_cons (pe_callB (call_min2 rfl) (by rfl) T.min (by decide +kernel) (pa_cons pe_int (pa_cons (pe_callB call_len_seq (by rfl) T.len PySem.boot_len (pa_cons (pv 2) pa_nil)) pa_nil))) pa_nil)))))))
      (pss_cons (ps_if (PW.pt (pw_and (pt_cmpR op_gt (pe_callB call_len_seq (by rfl) T.len PySem.boot_len (pa_cons (pv 3) pa_nil)) pe_int (nomark _)) (pw_and1 (pt_cmpR op_eq (pe_cal CD (hr.mono (by decide)) rfl (pa_cons (pv 0) (pa_cons pe_int pa_nil))) pe_int (nomark _)))))
        (pss_one (ps_ret (pe_lst (pa_cons (pe_cal CS (hr.mono (by decide)) rfl (pa_cons (pv 0) (pa_cons (pv 3) pa_nil))) (pa_cons (pv 3) pa_nil))))) pss_nil)
      (pss_one (ps_ret (pe_lst (pa_cons (pe_cal CW (hr.mono (by decide)) rfl (pa_cons (pv 0) (pa_cons (pe_op op_add pe_int (pe_cal CD (hr.mono (by decide)) rfl (pa_cons (pv 0) (pa_cons (pv 1) pa_nil)))) (pa_cons (pv 3) (pa_cons pe_int pa_nil))))) (pa_cons (pv 3) pa_nil)))))))), ?_⟩
    refine ⟨_, rfl, p, t, rfl, hp, by omega, fun H1 L ps t1 b1 hL hLL lp nd aw hp1 tt1 => ?_⟩
    have nL := hp.ne hL
    refine ⟨_, rfl, p, 8, t1, rfl, hp1, by decide, by decide, by omega, fun r t2 o r0 r1 tt2 hp2 => ?_⟩
    have b2 := b1.trans (But.upd p H1 o)
    have hL2 : SL (L2.upd H1 p o) L ps := by rw [SL, upd_ne nL]; exact hLL
    generalize L2.upd H1 p o = H2 at b2 hL2 hp2
    refine ⟨rfl, _, rfl, ?_⟩
    refine ite2 (fun _ => ?_) (fun _ => ?_)
    · refine ⟨_, rfl, _, rfl, _, rfl, p, top', t2, rfl, hp2, by omega, by omega, by omega, fun r3 t3 o3 r30 r31 tt3 hp3 => ?_⟩
      have b3 := b2.trans (But.upd p H2 o3)
      have hL3 : SL (L2.upd H2 p o3) L ps := by rw [SL, upd_ne nL]; exact hL2
      generalize L2.upd H2 p o3 = H3 at b3 hL3 hp3
      refine ⟨_, _, rfl, rfl, _, rfl, _, rfl, L, _, rfl, hL3.sq, fun q hq => ?_⟩
      rw [cutV_map, cutL_to _ (by decide)]
      have wok := ws_take lp nd aw (k := (6 : Int).toNat) (by decide)
      refine ⟨p, q, ps.take (6 : Int).toNat, 1 + r3, 6, t3, rfl, hp3.new hq, upd_same, hp3.ne hq, wok, by omega, by omega, by decide, by decide, by omega, fun H4 W bk st t4 b4 hW0 hW wf hp4 tt4 => ?_⟩
      have hL4 : SL H4 L ps := b4 _ _ nL (hL3.new hq)
      have b04 := (b3.newt hq).trans b4
      refine ⟨_, rfl, _, rfl, L, _, rfl, hL4.sq, fun q2 hq2 => ?_⟩
      rw [cutV_map, cutL_to _ (by decide)]
      refine ⟨by show 2 ≤ sizeLine; decide, fun R hR => ?_⟩
      exact k _ R bk st _ t4 ((b04.newt hq2).newt hR) (rich_new hR ((hp4.new hq2).ne hR) (hW.same (cut_new hq2)) upd_same (hp4.ne hq2)) wf wok ((hp4.new hq2).new hR) (by omega)
    · refine ⟨_, rfl, _, rfl, _, rfl, L, _, rfl, .inl hL2.sq, 5, _, rfl, ?_⟩
      rw [List.length_map, lp]
      refine ⟨p, 5, t2, rfl, hp2, by decide, by decide, by omega, fun r3 t3 o3 r30 r31 tt3 hp3 => ?_⟩
      have b3 := b2.trans (But.upd p H2 o3)
      have hL3 : SL (L2.upd H2 p o3) L ps := by rw [SL, upd_ne nL]; exact hL2
      generalize L2.upd H2 p o3 = H3 at b3 hL3 hp3
      refine ⟨_, _, rfl, rfl, _, rfl, L, _, rfl, hL3.sq, fun q hq => ?_⟩
      rw [cutV_map, cutL_to _ (by omega)]
      have wok := ws_take lp nd aw (k := (1 + r3).toNat) (by omega)
      generalize ps.take (1 + r3).toNat = ws at wok
      have hq3 : SL (L2.upd H3 q (.lst (ws.map V.str))) q ws := upd_same
      have hp4 := hp3.new (o := .lst (ws.map V.str)) hq
      have b4 := b3.newt (o := .lst (ws.map V.str)) hq
      have nq := hp3.ne hq
      generalize L2.upd H3 q (.lst (ws.map V.str)) = H4 at hq3 hp4 b4
      refine ⟨_, rfl, q, _, rfl, .inl hq3.sq, _, _, rfl, rfl, _, rfl, ?_⟩
      rw [List.length_map]
      refine ite2 (fun c => ?_) (fun c => ?_)
      · refine ⟨_, rfl, p, 3, t3, rfl, hp4, by decide, by decide, by omega, fun r5 t5 o5 r50 r51 tt5 hp5 => ?_⟩
        have b5 := b4.trans (But.upd p H4 o5)
        have hq5 : SL (L2.upd H4 p o5) q ws := by rw [SL, upd_ne nq]; exact hq3
        generalize L2.upd H4 p o5 = H5 at b5 hq5 hp5
        refine ⟨rfl, _, rfl, ?_⟩
        refine ite2 (fun c2 => ?_) (fun c2 => ?_)
        · have c' := of_decide_eq_true c
          refine ⟨_, rfl, _, rfl, p, q, ws, t5, rfl, hp5, hq5, nq, wok, by omega, by omega, fun H6 W bk st t6 b6 hW0 hW wf hp6 tt6 => ?_⟩
          have hq6 : SL H6 q ws := b6 _ _ nq hq5
          refine ⟨_, rfl, by show 2 ≤ sizeLine; decide, fun R hR => ?_⟩
          exact k _ R bk st _ t6 ((b5.trans b6).newt hR) (rich_new hR (hp6.ne hR) hW hq6 nq) wf wok (hp6.new hR) (by omega)
        · refine ⟨_, rfl, _, rfl, _, rfl, p, top', t5, rfl, hp5, by omega, by omega, by omega, fun r7 t7 o7 r70 r71 tt7 hp7 => ?_⟩
          have b7 := b5.trans (But.upd p H5 o7)
          have hq7 : SL (L2.upd H5 p o7) q ws := by rw [SL, upd_ne nq]; exact hq5
          generalize L2.upd H5 p o7 = H7 at b7 hq7 hp7
          refine ⟨_, _, rfl, rfl, _, rfl, p, q, ws, 1 + r7, 3, t7, rfl, hp7, hq7, nq, wok, by omega, by omega, by decide, by decide, by omega, fun H8 W bk st t8 b8 hW0 hW wf hp8 tt8 => ?_⟩
          have hq8 : SL H8 q ws := b8 _ _ nq hq7
          refine ⟨_, rfl, by show 2 ≤ sizeLine; decide, fun R hR => ?_⟩
          exact k _ R bk st _ t8 ((b7.trans b8).newt hR) (rich_new hR (hp8.ne hR) hW hq8 nq) wf wok (hp8.new hR) (by omega)
      · refine ⟨_, rfl, _, rfl, _, rfl, p, top', t3, rfl, hp4, by omega, by omega, by omega, fun r7 t7 o7 r70 r71 tt7 hp7 => ?_⟩
        have b7 := b4.trans (But.upd p H4 o7)
        have hq7 : SL (L2.upd H4 p o7) q ws := by rw [SL, upd_ne nq]; exact hq3
        generalize L2.upd H4 p o7 = H7 at b7 hq7 hp7
        refine ⟨_, _, rfl, rfl, _, rfl, p, q, ws, 1 + r7, 3, t7, rfl, hp7, hq7, nq, wok, by omega, by omega, by decide, by decide, by omega, fun H8 W bk st t8 b8 hW0 hW wf hp8 tt8 => ?_⟩
        have hq8 : SL H8 q ws := b8 _ _ nq hq7
        refine ⟨_, rfl, by show 2 ≤ sizeLine; decide, fun R hR => ?_⟩
        exact k _ R bk st _ t8 ((b7.trans b8).newt hR) (rich_new hR (hp8.ne hR) hW hq8 nq) wf wok (hp8.new hR) (by omega)
theorem scRi : FnScope ["_law_purse_here", "_law_most", "_law_words_here"] ["_law_purse_here", "_law_most"] (defScope sRich) := ⟨rfl, rfl, rfl, by decide +kernel, rfl, by decide +kernel, by decide +kernel⟩
theorem ok_rich {f : Addr} {fd : FuncData} (F : Fun K "_law_rich" "_law_rich" sRich f fd) (T : Free2 mg) (CD : CDraw P w K mg base) (CP : CPool P w K mg base) (CL : CLong P w K mg base) (CR : CRow P w K mg base) :
    FnOk P w K mg base CX0 7 f fd ["_law_purse_here", "_law_most"] (spRow (2 ^ 24) 2000) := by
  refine F.ok scRi (fun vs H Q E h => ?_) (fun cdv A outer s H vs Q E hr h => ?_)
  · obtain ⟨p, m, t, rfl, _⟩ := h; rfl
  · obtain ⟨p, top', t, rfl, hp, m3, m6, t1, k⟩ := h
    refine ⟨_, pss_cons (ps_if (pt_cmpR op_eq (pe_cal CD (hr.mono (by decide)) rfl (pa_cons (pv 0) (pa_cons pe_int pa_nil))) pe_int (nomark _)) (pss_one (ps_ret (pe_cal CR (hr.mono (by decide)) rfl (pa_cons (pv 0) (pa_cons (pv 1) pa_nil))))) pss_nil)
      (pss_cons (ps_set (i := 2) scRi.nd rfl (Or.inl rfl) (pe_slice sl_list (pe_cal CP (hr.mono (by decide)) rfl (pa_cons (pv 0) pa_nil)) po_none (po_some (pe_op op_add pe_int (pe_cal CD (hr.mono (by decide)) rfl (pa_cons (pv 0) (pa_cons pe_int pa_nil)))))))
      (pss_one (ps_ret (pe_lst (pa_cons (pe_cal CL (hr.mono (by decide)) rfl (pa_cons (pv 0) (pa_cons (pv 2) (pa_cons (pv 1) pa_nil)))) (pa_cons (pv 2) pa_nil)))))), ?_⟩
    refine ⟨_, rfl, p, 3, t, rfl, hp, by decide, by decide, by omega, fun r t2 o r0 r1 tt2 hp2 => ?_⟩
    have b2 := But.upd p H o
    generalize L2.upd H p o = H2 at b2 hp2
    refine ⟨rfl, _, rfl, ?_⟩
    refine ite2 (fun _ => ?_) (fun _ => ?_)
    · refine ⟨_, rfl, _, rfl, p, top', t2, rfl, hp2, m3, m6, by omega, fun H3 R bk st ws t3 b3 hR wf wok hp3 tt3 => ?_⟩
      exact k H3 R bk st ws t3 (b2.trans b3) hR wf wok hp3 (by omega)
    · refine ⟨_, rfl, p, t2, rfl, hp2, by omega, fun H3 L ps t3 b3 hL hLL lp nd aw hp3 tt3 => ?_⟩
      have nL := hp2.ne hL
      refine ⟨_, rfl, p, 3, t3, rfl, hp3, by decide, by decide, by omega, fun r4 t4 o4 r40 r41 tt4 hp4 => ?_⟩
      have b4 := (b2.trans b3).trans (But.upd p H3 o4)
      have hL4 : SL (L2.upd H3 p o4) L ps := by rw [SL, upd_ne nL]; exact hLL
      generalize L2.upd H3 p o4 = H4 at b4 hL4 hp4
      refine ⟨_, _, rfl, rfl, _, rfl, L, _, rfl, hL4.sq, fun q hq => ?_⟩
      rw [cutV_map, cutL_to _ (by omega)]
      have wok := ws_take lp nd aw (k := (2 + r4).toNat) (by omega)
      generalize ps.take (2 + r4).toNat = ws at wok
      have nq := hp4.ne hq
      refine ⟨_, rfl, _, rfl, _, rfl, p, q, ws, top', t4, rfl, hp4.new hq, upd_same, nq, wok, m3, m6, by omega, fun H6 W bk st t6 b6 hW0 hW wf hp6 tt6 => ?_⟩
      have hq6 : SL H6 q ws := b6 _ _ nq upd_same
      refine ⟨_, rfl, by show 2 ≤ sizeLine; decide, fun R hR => ?_⟩
      exact k _ R bk st _ t6 (((b4.newt hq).trans b6).newt hR) (rich_new hR (hp6.ne hR) hW hq6 nq) wf wok (hp6.new hR) (by omega)
end
end D1
end L2
/-! forms: is_name, is_names, is_state_of, is_row -/
namespace L2
namespace D1
open PySem PySem.Spec PyProof.Rows
abbrev sIsName : Stmt := top 3
abbrev sIsNames : Stmt := top 4
abbrev sIsRow : Stmt := top 5
abbrev sIsState : Stmt := top 6
/-- the names of built-in classes, and the two numbers of forms -/
structure Free3 (mg : Str → Option Value) : Prop extends Free2 mg where
  lets : ∃ t, mg "LETTERS" = some (.str abc t)
  most : ∃ t, mg "MOST_LETTERS" = some (.int 8 t)
def spIsName : Sp := fun vs H Q _ => ∃ x : Str, vs = [.str x] ∧ Wd x ∧ ∀ H', Same H H' → Q (.bl true) H'
def spIsNames : Sp := fun vs H Q _ => ∃ (L : Addr) (ss : List Str), vs = [.ref L] ∧ SL H L ss ∧ ss.length ≤ 1000 ∧ (∀ x ∈ ss, Wd x) ∧ ∀ H', Same H H' → Q (.bl true) H'
def spIsState : Sp := fun vs H Q _ => ∃ (b : Addr) (kvs : List (Key × V)) (x : Str), vs = [.ref b, .str x] ∧ Rd H b (.dK kvs) ∧ (valV kvs (.inr x)).isSome = true ∧ Q (.bl true) H
/-- a row by its form -/
def RForm (k : Str) (ts : List (Str × Str)) : Prop := (k = "done" ∧ ts = []) ∨ ((k = "says" ∨ k = "hears") ∧ ts ≠ [] ∧ ts.length ≤ 1000 ∧ ∀ t ∈ ts, Wd t.1 ∧ Wd t.2)
def spIsRow : Sp := fun vs H Q _ => ∃ (v : V) (k : Str) (ts : List (Str × Str)), vs = [v] ∧ RowAt H v k ts ∧ RForm k ts ∧ ∀ H', Same H H' → Q (.bl true) H'
theorem Same.unlock {H H' : Hp} {b : Addr} {u f : HO} (e : H b = some u) (s : Same (L2.upd H b f) H') : Same H (L2.upd H' b u) := fun c o ec => by
  by_cases h : c = b
  · rw [h] at ec ⊢; rw [upd_same, ← ec, e]
  · rw [upd_ne h]; exact s _ _ (by rw [upd_ne h]; exact ec)
theorem all_true (n : Nat) : (List.replicate n true).all id = true := by
  induction n with
  | zero => rfl
  | succ n ih => rw [List.replicate_succ, List.all_cons, ih]; rfl
theorem repl_snoc (n : Nat) : (List.replicate n true).map V.bl ++ [V.bl true] = (List.replicate (n + 1) true).map V.bl := by
  rw [List.replicate_succ', List.map_append]; rfl
section
variable {P : Program} {w : World} {K : PySem.W.Frag} {mg : Str → Option Value} {base : Heap}
abbrev CIsName (P : Program) (w : World) (K : PySem.W.Frag) (mg : Str → Option Value) (base : Heap) := Cal P w K mg base "is_name" 1 ["value"] spIsName
theorem scIn : FnScope ["value", "letter"] ["value"] (defScope sIsName) := ⟨rfl, rfl, rfl, by decide +kernel, rfl, by decide +kernel, by decide +kernel⟩
theorem ok_isname {f : Addr} {fd : FuncData} (F : Fun K "is_name" "is_name" sIsName f fd) (T : Free3 mg) : FnOk P w K mg base CX0 1 f fd ["value"] spIsName := by
  obtain ⟨tL, eL⟩ := T.lets
  obtain ⟨tM, eM⟩ := T.most
  refine F.ok scIn (fun vs H Q E h => ?_) (fun cdv A outer s H vs Q E hr h => ?_)
  · obtain ⟨x, rfl, _⟩ := h; rfl
  · obtain ⟨x, rfl, wx, k⟩ := h
    refine ⟨_, pss_cons (ps_if (PW.pt (pw_or (pt_not (pt_val (pe_callB call_isi (by rfl) T.isi (by decide +kernel) (pa_cons (pv 0) (pa_cons (pe_bltn (v := .ty "str") rfl T.str (by decide +kernel) rfl) pa_nil))))) (pw_or1 (pt_not (pt_chain op_le op_le pe_int (pe_callB call_len_str (by rfl) T.len PySem.boot_len (pa_cons (pv 0) pa_nil)) (pe_glob (v := .int 8) rfl eM ⟨_, rfl⟩)))))) (pss_one (ps_ret pe_bl)) pss_nil)
      (pss_one (ps_ret (pe_callB (cr_all rfl) (by rfl) T.all (by decide +kernel) (pa_cons (pe_lc (own := [("letter", 1)]) (g := gName 1) (tt := tYes) rfl scIn.nd (pi_str (pv 0))
        (blkOk_by (N := ["value", "letter"]) (sc := defScope sIsName) (by decide +kernel)) (fun _ _ _ _ _ => pg_name (i := 1) scIn.nd rfl (Or.inl rfl)) (fun _ _ _ _ _ => pts_nil)
        (fun _ _ _ _ _ => pe_cmpR op_in_sign (pv 1) (pe_glob (v := .str abc) rfl eL ⟨_, rfl⟩) rfl)) pa_nil)))), ?_⟩
    have l1 := wx.lo
    have l2 := wx.hi
    refine ⟨_, rfl, _, .ty "str", .type "str", .type "str", true, rfl, .ty _, .base (.str _), kit_ty (by decide +kernel), _, rfl, ?_⟩
    refine iteF ?_
    refine ⟨_, rfl, x, rfl, by rw [sizeLine_eq]; omega, _, _, rfl, rfl, _, rfl, ?_⟩
    rw [decide_eq_true (show (1 : Int) ≤ x.length by omega)]
    refine iteT ⟨_, _, rfl, rfl, _, rfl, ?_⟩
    rw [decide_eq_true (show (x.length : Int) ≤ 8 by omega)]
    refine iteF ?_
    refine ⟨_, rfl, x, rfl, fun D hD => ?_⟩
    refine lc_it (walk_str (z := x)) (fun i H' => Same H H' ∧ H' D = some (.lst ((List.replicate i true).map V.bl))) ⟨Same.new hD, upd_same⟩ (fun _ _ _ _ => trivial) ?_ ?_
    · rintro i v H1 H2 hi ⟨sm, hl⟩ ⟨rfl, c, hc, rfl⟩
      refine ⟨rfl, ?_⟩
      dsimp only [tYes]
      rw [if_pos rfl]
      have hm : c ∈ tl x := by
        rw [tl, ← Array.getElem?_toList] at *
        exact List.mem_of_getElem? hc
      have hr' := wx.ok c hm
      have ha : ∀ c, 97 ≤ c → c ≤ 122 → c ∈ abc.cps.toList := by
        have h : ∀ j : Fin 26, (97 + j.val) ∈ abc.cps.toList := by decide +kernel
        intro c h1 h2
        have := h ⟨c - 97, by omega⟩
        rwa [show 97 + (c - 97) = c by omega] at this
      refine ⟨_, rfl, c, abc, rfl, rfl, _, hl, by rw [List.length_map, List.length_replicate, sizeLine_eq]; have : x.cps.size = x.length := rfl; omega, ?_, ?_⟩
      · intro b u e
        rw [upd_ne (ne_of_none e hD)]; exact sm _ _ e
      · rw [upd_same, decide_eq_true (ha c hr'.1 hr'.2), repl_snoc]
    · rintro H1 ⟨sm, hl⟩
      refine ⟨D, _, rfl, SqL.of hl, ?_⟩
      rw [all_true]
      exact k H1 sm
theorem scIns : FnScope ["value", "word"] ["value"] (defScope sIsNames) := ⟨rfl, rfl, rfl, by decide +kernel, rfl, by decide +kernel, by decide +kernel⟩
theorem ok_isnames {f : Addr} {fd : FuncData} (F : Fun K "is_names" "is_names" sIsNames f fd) (T : Free3 mg) (CN : CIsName P w K mg base) : FnOk P w K mg base CX0 2 f fd ["value"] spIsNames := by
  refine F.ok scIns (fun vs H Q E h => ?_) (fun cdv A outer s H vs Q E hr h => ?_)
  · obtain ⟨L, ss, rfl, _⟩ := h; rfl
  · obtain ⟨L, ss, rfl, hL, ll, aw, k⟩ := h
    refine ⟨_, pss_one (ps_ret (pe_and (pe_callB call_isi (by rfl) T.isi (by decide +kernel) (pa_cons (pv 0) (pa_cons (pe_bltn (v := .ty "list") rfl T.list (by decide +kernel) rfl) pa_nil))) (pe_one (pe_callB (cr_all rfl) (by rfl) T.all (by decide +kernel) (pa_cons (pe_lc (own := [("word", 1)]) (g := gName 1) (tt := tYes) rfl scIns.nd (pi_list (pv 0))
        (blkOk_by (N := ["value", "word"]) (sc := defScope sIsNames) (by decide +kernel)) (fun _ _ _ _ _ => pg_name (i := 1) scIns.nd rfl (Or.inl rfl)) (fun _ _ _ _ _ => pts_nil)
        (fun _ _ _ _ _ => pe_cal CN (hr.mono (by decide)) rfl (pa_cons (pv 1) pa_nil))) pa_nil))))), ?_⟩
    refine ⟨_, rfl, _, .ty "list", .type "list", .type "list", true, rfl, .ty _, .base (.lst hL), kit_ty (by decide +kernel), _, rfl, ?_⟩
    refine iteT ⟨_, rfl, L, rfl, ⟨_, hL.sq⟩, fun D hD => ?_⟩
    have nLD : L ≠ D := ne_of_none hL hD
    refine lc_list (K := K) (a := L) (xs := ss.map V.str) (fun i H' => Same H H' ∧ H' D = some (.lst ((List.replicate i true).map V.bl))) ⟨Same.new hD, upd_same⟩ (fun i H' _ z => (hL.same z.1).sq) ?_ ?_
    · rintro i v H1 hv ⟨sm, hl⟩
      obtain ⟨z, hz, rfl⟩ := get_map hv
      refine ⟨rfl, ?_⟩
      dsimp only [tYes]
      rw [if_pos rfl]
      refine ⟨_, rfl, z, rfl, aw z (List.mem_of_getElem? hz), fun H2 s2 => ?_⟩
      have li : i < ss.length := (List.getElem?_eq_some_iff.mp hz).1
      refine ⟨_, s2 _ _ hl, by rw [List.length_map, List.length_replicate, sizeLine_eq]; omega, ?_, ?_⟩
      · intro b u e
        rw [upd_ne (ne_of_none e hD)]; exact s2 _ _ (sm _ _ e)
      · rw [upd_same, repl_snoc]
    · rintro H1 ⟨sm, hl⟩
      refine ⟨D, _, rfl, SqL.of hl, ?_⟩
      rw [all_true]
      exact k H1 sm
theorem scIst : FnScope ["book", "value"] ["book", "value"] (defScope sIsState) := ⟨rfl, rfl, rfl, by decide +kernel, rfl, by decide +kernel, by decide +kernel⟩
theorem ok_isstate {f : Addr} {fd : FuncData} (F : Fun K "is_state_of" "is_state_of" sIsState f fd) (T : Free3 mg) : FnOk P w K mg base CX0 1 f fd ["book", "value"] spIsState := by
  refine F.ok scIst (fun vs H Q E h => ?_) (fun cdv A outer s H vs Q E hr h => ?_)
  · obtain ⟨b, kvs, x, rfl, _⟩ := h; rfl
  · obtain ⟨b, kvs, x, rfl, hb, hx, k⟩ := h
    have hu := hu_of hr
    refine ⟨_, pss_one (ps_ret (pe_and (pe_callB call_isi (by rfl) T.isi (by decide +kernel) (pa_cons (pv 1) (pa_cons (pe_bltn (v := .ty "str") rfl T.str (by decide +kernel) rfl) pa_nil))) (pe_one (pe_cmp (pc_din hu (pv 1) (pv 0)) rfl)))), ?_⟩
    refine ⟨_, rfl, _, .ty "str", .type "str", .type "str", true, rfl, .ty _, .base (.str _), kit_ty (by decide +kernel), _, rfl, ?_⟩
    refine iteT ⟨_, rfl, _, rfl, b, _, rfl, .inl ⟨kvs, .inr x, hb, rfl, rfl⟩, ?_⟩
    rw [hx]
    exact k
abbrev CIsRow (P : Program) (w : World) (K : PySem.W.Frag) (mg : Str → Option Value) (base : Heap) := Cal P w K mg base "is_row" 2 ["value"] spIsRow
theorem scIr : FnScope ["value", "kind", "turns", "word", "goal"] ["value"] (defScope sIsRow) := ⟨rfl, rfl, rfl, by decide +kernel, rfl, by decide +kernel, by decide +kernel⟩
theorem ok_isrow {f : Addr} {fd : FuncData} (F : Fun K "is_row" "is_row" sIsRow f fd) (T : Free3 mg) (CN : CIsName P w K mg base) : FnOk P w K mg base CX0 2 f fd ["value"] spIsRow := by
  refine F.ok scIr (fun vs H Q E h => ?_) (fun cdv A outer s H vs Q E hr h => ?_)
  · obtain ⟨v, k, ts, rfl, _⟩ := h; rfl
  · obtain ⟨v, kd, ts, rfl, ⟨t, a, rfl, ht, ha⟩, rf, k⟩ := h
    have hu := hu_of hr
    refine ⟨_, pss_cons (ps_if (PW.pt (pw_or (pt_not (pt_val (pe_callB call_isi (by rfl) T.isi (by decide +kernel) (pa_cons (pv 0) (pa_cons (pe_bltn (v := .ty "tuple") rfl T.tuple (by decide +kernel) rfl) pa_nil))))) (pw_or1 (pt_cmpR op_ne (pe_callB call_len_seq (by rfl) T.len PySem.boot_len (pa_cons (pv 0) pa_nil)) pe_int (nomark _))))) (pss_one (ps_ret pe_bl)) pss_nil)
      (pss_cons (ps_asg (pv 0) (pg_tup rfl (pgs_cons (pg_name (i := 1) scIr.nd rfl (Or.inl rfl)) (pgs_cons (pg_name (i := 2) scIr.nd rfl (Or.inl rfl)) pgs_nil))))
      (pss_cons (ps_if (pt_not (pt_val (pe_callB call_isi (by rfl) T.isi (by decide +kernel) (pa_cons (pv 2) (pa_cons (pe_bltn (v := .ty "dict") rfl T.dict (by decide +kernel) rfl) pa_nil))))) (pss_one (ps_ret pe_bl)) pss_nil)
      (pss_cons (ps_if (pt_cmpR op_eq (pv 1) pe_str (nomark _)) (pss_one (ps_ret (pe_cmpR op_eq (pe_callB call_lenD (by rfl) T.len PySem.boot_len (pa_cons (pv 2) pa_nil)) pe_int (nomark _)))) pss_nil)
      (pss_cons (ps_if (PW.pt (pw_and (pt_cmpR op_ne (pv 1) pe_str (nomark _)) (pw_and1 (pt_cmpR op_ne (pv 1) pe_str (nomark _))))) (pss_one (ps_ret pe_bl)) pss_nil)
      (pss_one (ps_ret (pe_and (pe_cmpR op_gt (pe_callB call_lenD (by rfl) T.len PySem.boot_len (pa_cons (pv 2) pa_nil)) pe_int (nomark _)) (pe_one (pe_callB (cr_all rfl) (by rfl) T.all (by decide +kernel) (pa_cons (pe_lock (pe_lc (own := [("word", 3), ("goal", 4)]) (g := gTup K 2 (gCons (gName 3) (gCons (gName 4) gNil))) (tt := tYes) rfl scIr.nd (pi_items (pv 2))
        (blkOk_by (N := ["value", "kind", "turns", "word", "goal"]) (sc := defScope sIsRow) (by decide +kernel)) (fun _ _ _ _ _ => pg_tup rfl (pgs_cons (pg_name (i := 3) scIr.nd rfl (Or.inl rfl)) (pgs_cons (pg_name (i := 4) scIr.nd rfl (Or.inl rfl)) pgs_nil))) (fun _ _ _ _ _ => pts_nil)
        (fun _ _ _ _ _ => pe_and (pe_cal CN (hr.mono (by decide)) rfl (pa_cons (pv 3) pa_nil)) (pe_one (pe_cal CN (hr.mono (by decide)) rfl (pa_cons (pv 4) pa_nil)))))) pa_nil)))))))))), ?_⟩
    refine ⟨_, rfl, _, .ty "tuple", .type "tuple", .type "tuple", true, rfl, .ty _, .base (.tup ht), kit_ty (by decide +kernel), _, rfl, ?_⟩
    refine iteF ⟨_, rfl, t, _, rfl, .inr (SqT.of ht), ?_⟩
    refine ⟨rfl, _, rfl, ?_⟩
    refine iteF ⟨_, rfl, t, _, rfl, SqT.of ht, rfl, _, _, rfl, _, _, rfl, rfl, ?_⟩
    refine ⟨_, rfl, _, .ty "dict", .type "dict", .type "dict", true, rfl, .ty _, .base (.dK ha), kit_ty (by decide +kernel), _, rfl, ?_⟩
    refine iteF ⟨_, rfl, rfl, _, rfl, ?_⟩
    rcases rf with ⟨rfl, rfl⟩ | ⟨hk, ne, ll, aw⟩
    · refine iteT ⟨_, rfl, a, [], rfl, ha, rfl, ?_⟩
      exact k H (Same.refl H)
    · have nk : (decide (V.str kd = V.str "done")) = false := by
        refine decide_eq_false fun e => ?_
        have e : kd = "done" := by injection e
        rcases hk with h | h <;> rw [h] at e <;> exact absurd e (by decide)
      rw [nk]
      refine iteF ⟨_, rfl, rfl, _, rfl, ?_⟩
      have bad : (!decide (V.str kd = V.str "says")) = true → (!decide (V.str kd = V.str "hears")) = true → False := fun c1 c2 => by
        rcases hk with h | h
        · rw [h] at c1; simp at c1
        · rw [h] at c2; simp at c2
      refine ite2 (fun c1 => ⟨_, rfl, rfl, _, rfl, ite2 (fun c2 => (bad c1 c2).elim) (fun _ => ?_)⟩) (fun _ => iteF ?_)
      all_goals
        refine ⟨_, rfl, a, _, rfl, ha, _, _, rfl, rfl, _, rfl, ?_⟩
        have lp : 0 < (kT ts).length := by rw [kT, List.length_map]; exact List.length_pos_iff.mpr ne
        rw [decide_eq_true (show (0 : Int) < ((kT ts).length : Int) by omega)]
        refine iteT ⟨a, _, ha, trivial, fun od => ?_⟩
        refine ⟨_, rfl, a, od, kT ts, rfl, upd_same, fun D hD => ?_⟩
        have nD : a ≠ D := fun e => by rw [← e, upd_same] at hD; cases hD
        have hD0 := upd_none' hD
        refine lc_it (walk_items (d := a) (o := od) (kvs := kT ts)) (fun i H' => Same (L2.upd H a (.frz od (.dK (kT ts)))) H' ∧ H' D = some (.lst ((List.replicate i true).map V.bl))) ⟨Same.new hD, upd_same⟩ (fun i H' _ z => z.1 _ _ upd_same) ?_ ?_
        · rintro i v H1 H2 hi ⟨sm, hl⟩ ⟨T1, x, y, rfl, hT1, rfl, ex, ey⟩
          have hi' : i < ts.length := by rw [kT, List.length_map] at hi; exact hi
          have hk1 : (kT ts)[i]? = some (.inr ts[i].1, .str ts[i].2) := by rw [kT, List.getElem?_map, List.getElem?_eq_getElem hi']; rfl
          dsimp only at ex ey
          rw [hk1] at ex ey
          cases ex; cases ey
          have hw := aw ts[i] (List.getElem_mem hi')
          have nTD : D ≠ T1 := ne_of_none hl hT1
          refine ⟨T1, _, rfl, SqT.of upd_same, rfl, _, _, rfl, _, _, rfl, rfl, rfl, ?_⟩
          dsimp only [tYes]
          rw [if_pos rfl]
          refine ⟨_, rfl, _, rfl, hw.1, fun H3 s3 => ⟨_, rfl, iteT ⟨_, rfl, _, rfl, hw.2, fun H4 s4 => ?_⟩⟩⟩
          refine ⟨_, s4 _ _ (s3 _ _ (by rw [upd_ne nTD]; exact hl)), by rw [List.length_map, List.length_replicate, sizeLine_eq]; omega, ?_, ?_⟩
          · intro b u e
            rw [upd_ne (ne_of_none e hD)]; exact s4 _ _ (s3 _ _ (Same.new hT1 _ _ (sm _ _ e)))
          · rw [upd_same, repl_snoc]
        · rintro H1 ⟨sm, hl⟩
          refine ⟨sm _ _ upd_same, D, _, rfl, SqL.of (by rw [upd_ne nD.symm]; exact hl), ?_⟩
          rw [all_true]
          exact k _ (Same.unlock ha sm)
end
end D1
end L2
/-! ordered turns and books -/
namespace L2
namespace D1
open PySem PySem.Spec PyProof.Rows
def leC (a b : List Nat) : Prop := ltCps b a = false
theorem leC_trans : ∀ {a b c : List Nat}, leC a b → leC b c → leC a c
  | [], _, [], _, _ => rfl
  | [], _, _ :: _, _, _ => rfl
  | _ :: _, [], _, h, _ => by cases h
  | _ :: _, _ :: _, [], _, h => by cases h
  | x :: a, y :: b, z :: c, h1, h2 => by
    unfold leC at *
    unfold ltCps at *
    simp only [Bool.or_eq_false_iff, decide_eq_false_iff_not, Bool.and_eq_false_iff, beq_eq_false_iff_ne] at *
    obtain ⟨p1, q1⟩ := h1
    obtain ⟨p2, q2⟩ := h2
    refine ⟨by omega, ?_⟩
    by_cases e : z = x
    · right
      have e1 : y = x := by omega
      have e2 : z = y := by omega
      have r1 := q1.resolve_left fun n => n e1
      have r2 := q2.resolve_left fun n => n e2
      exact leC_trans (a := a) (b := b) (c := c) r1 r2
    · exact .inl e
theorem leC_anti : ∀ {a b : List Nat}, leC a b → leC b a → a = b
  | [], [], _, _ => rfl
  | [], _ :: _, _, h => by cases h
  | _ :: _, [], h, _ => by cases h
  | x :: a, y :: b, h1, h2 => by
    unfold leC at *
    unfold ltCps at *
    simp only [Bool.or_eq_false_iff, decide_eq_false_iff_not, Bool.and_eq_false_iff, beq_eq_false_iff_ne] at *
    have e : x = y := by omega
    have r1 := h1.2.resolve_left fun n => n e.symm
    have r2 := h2.2.resolve_left fun n => n e
    rw [e, leC_anti (a := a) (b := b) r1 r2]
theorem leC_total : ∀ (a b : List Nat), leC a b ∨ leC b a
  | [], [] => .inl rfl
  | [], _ :: _ => .inl rfl
  | _ :: _, [] => .inr rfl
  | x :: a, y :: b => by
    unfold leC
    unfold ltCps
    simp only [Bool.or_eq_false_iff, decide_eq_false_iff_not, Bool.and_eq_false_iff, beq_eq_false_iff_ne]
    rcases Nat.lt_trichotomy x y with h | h | h
    · exact .inl ⟨by omega, .inl (by omega)⟩
    · rcases leC_total a b with r | r
      · exact .inl ⟨by omega, .inr r⟩
      · exact .inr ⟨by omega, .inr r⟩
    · exact .inr ⟨by omega, .inl (by omega)⟩
def leS (x y : Str) : Prop := leC (tl x) (tl y)
theorem rising_pw : ∀ (l : List Str) (p : Str), risingS p l = true → (p :: l).Pairwise leS
  | [], p, _ => List.pairwise_singleton _ _
  | x :: r, p, h => by
    unfold risingS at h
    rw [Bool.and_eq_true, Bool.not_eq_true'] at h
    have ih := rising_pw r x h.2
    refine List.pairwise_cons.mpr ⟨fun y hy => ?_, ih⟩
    rcases List.mem_cons.mp hy with e | e
    · rw [e]; exact h.1
    · exact leC_trans (show leC (tl p) (tl x) from h.1) ((List.pairwise_cons.mp ih).1 y e)
theorem sorted_pw : ∀ {l : List Str}, sortedS l = true → l.Pairwise leS
  | [], _ => List.Pairwise.nil
  | x :: r, h => rising_pw r x h
theorem pw_unique : ∀ {ys zs : List Str}, ys.Perm zs → ys.Pairwise leS → zs.Pairwise leS → ys = zs
  | [], zs, p, _, _ => (List.nil_perm.mp p).symm
  | y :: r, [], p, _, _ => by have := p.length_eq; simp at this
  | y :: r, z :: s, p, h1, h2 => by
    have e : y = z := by
      rcases List.mem_cons.mp (p.mem_iff.mp List.mem_cons_self) with e | e
      · exact e
      · rcases List.mem_cons.mp (p.mem_iff.mpr List.mem_cons_self) with e2 | e2
        · exact e2.symm
        · exact tl_ext (leC_anti ((List.pairwise_cons.mp h1).1 z e2) ((List.pairwise_cons.mp h2).1 y e))
    subst e
    rw [pw_unique (List.Perm.cons_inv p) (List.pairwise_cons.mp h1).2 (List.pairwise_cons.mp h2).2]
instance (x y : Str) : Decidable (leS x y) := inferInstanceAs (Decidable (_ = false))
def insS (x : Str) : List Str → List Str
  | [] => [x]
  | y :: r => if leS x y then x :: y :: r else y :: insS x r
def srt : List Str → List Str
  | [] => []
  | x :: r => insS x (srt r)
theorem ins_perm (x : Str) : ∀ l : List Str, (insS x l).Perm (x :: l)
  | [] => List.Perm.refl _
  | y :: r => by
    unfold insS
    split
    · exact List.Perm.refl _
    · exact ((ins_perm x r).cons y).trans (List.Perm.swap x y r)
theorem srt_perm : ∀ l : List Str, (srt l).Perm l
  | [] => List.Perm.refl _
  | x :: r => (ins_perm x (srt r)).trans ((srt_perm r).cons x)
theorem ins_pw (x : Str) : ∀ {l : List Str}, l.Pairwise leS → (insS x l).Pairwise leS
  | [], _ => List.pairwise_singleton _ _
  | y :: r, h => by
    unfold insS
    split
    · rename_i c
      refine List.pairwise_cons.mpr ⟨fun z hz => ?_, h⟩
      rcases List.mem_cons.mp hz with e | e
      · rw [e]; exact c
      · exact leC_trans c ((List.pairwise_cons.mp h).1 z e)
    · rename_i c
      have hy : leS y x := (leC_total (tl x) (tl y)).resolve_left c
      refine List.pairwise_cons.mpr ⟨fun z hz => ?_, ins_pw x (List.pairwise_cons.mp h).2⟩
      rcases List.mem_cons.mp ((ins_perm x r).mem_iff.mp hz) with e | e
      · rw [e]; exact hy
      · exact (List.pairwise_cons.mp h).1 z e
theorem srt_pw : ∀ l : List Str, (srt l).Pairwise leS
  | [] => List.Pairwise.nil
  | x :: r => ins_pw x (srt_pw r)
theorem srt_of {ys ks : List Str} (p : ys.Perm ks) (s : sortedS ys = true) : ys = srt ks := pw_unique (p.trans (srt_perm ks).symm) (sorted_pw s) (srt_pw ks)
theorem srt_congr {ks ls : List Str} (p : ks.Perm ls) : srt ks = srt ls := pw_unique ((srt_perm ks).trans (p.trans (srt_perm ls).symm)) (srt_pw ks) (srt_pw ls)
/-- the goal of a word -/
def goalT (ts : List (Str × Str)) (k : Str) : Str := ((ts.find? fun t => decide (t.1 = k)).map (·.2)).getD ""
def ordT (ts : List (Str × Str)) : List (Str × Str) := (srt (ts.map (·.1))).map fun k => (k, goalT ts k)
theorem valV_kT (ts : List (Str × Str)) (k : Str) : valV (kT ts) (.inr k) = (ts.find? fun t => decide (t.1 = k)).map fun t => V.str t.2 := by
  induction ts with
  | nil => rfl
  | cons a r ih =>
    rw [List.find?_cons]
    by_cases h : a.1 = k
    · rw [show valV (kT (a :: r)) (.inr k) = some (V.str a.2) from valV_pos (p := (Sum.inr a.1, V.str a.2)) (congrArg _ h), decide_eq_true h]; rfl
    · rw [show valV (kT (a :: r)) (.inr k) = valV (kT r) (.inr k) from valV_neg (p := (Sum.inr a.1, V.str a.2)) (fun e => h (Sum.inr.inj e)), decide_eq_false h, ih]
theorem find_some {ts : List (Str × Str)} {k : Str} (h : k ∈ ts.map (·.1)) : ∃ t, (ts.find? fun t => decide (t.1 = k)) = some t ∧ t.1 = k ∧ t ∈ ts := by
  obtain ⟨t, ht, e⟩ := List.mem_map.mp h
  cases z : ts.find? fun t => decide (t.1 = k) with
  | none => exact absurd (decide_eq_true e) (List.find?_eq_none.mp z t ht)
  | some u =>
    have e1 := List.find?_some z
    exact ⟨u, rfl, of_decide_eq_true e1, List.mem_of_find?_eq_some z⟩
theorem valV_goal {ts : List (Str × Str)} {k : Str} (h : k ∈ ts.map (·.1)) : valV (kT ts) (.inr k) = some (.str (goalT ts k)) := by
  obtain ⟨t, e, _⟩ := find_some h
  rw [valV_kT, goalT, e]; rfl
theorem ordT_keys (ts : List (Str × Str)) : (ordT ts).map (·.1) = srt (ts.map (·.1)) := by
  rw [ordT, List.map_map]
  exact List.map_id'' (fun _ => rfl) _
/-- a dict comprehension over a walk -/
theorem dc_it {J : It} {n : Nat} {G : Hp → Prop} {Y : Nat → Hp → V → Hp → Prop} (w : Walk J n G Y) {g : TG} {tt : TT} {tk tv : TE} {vs : List Nat} {σ : L2.St} {H1 : Hp} {D : Addr} {Qd : Hp → Prop} (Pv : Nat → Hp → Prop) (h0 : Pv 0 (L2.upd H1 D (.dK []))) (hG : ∀ i H, i ≤ n → Pv i H → G H)
    (hs : ∀ i x H H', i < n → Pv i H → Y i H x H' → g x (wipe σ vs) H' fun σ2 H2 => wipe σ2 vs = wipe σ vs ∧ tt σ2 H2 fun b H3 =>
      if b = true then tk σ2 H3 fun y H4 => tv σ2 H4 fun z H5 => ∃ kvs k, y = kV k ∧ H5 D = some (.dK kvs) ∧ kvs.length < sizeLine ∧ Pv (i + 1) (L2.upd H5 D (.dK (putK kvs k z))) else Pv (i + 1) H3) (hd : ∀ H, Pv n H → Qd H) :
    ∃ W : Nat → Nat → Hp → Prop, (∃ m, W 0 m (L2.upd H1 D (.dK []))) ∧ ∀ i m H, W i m H →
      (J.stop i H ∧ Qd H) ∨ (J.go i H ∧ ∃ Nx : Hp → Prop, (∀ H', Nx H' → ∃ m', m' < m ∧ W (i + 1) m' H') ∧ ∀ x H', J.yld i H x H' → g x (wipe σ vs) H' fun σ2 H2 => wipe σ2 vs = wipe σ vs ∧ tt σ2 H2 fun b H3 =>
        if b = true then tk σ2 H3 fun y H4 => tv σ2 H4 fun z H5 => ∃ kvs k, y = kV k ∧ H5 D = some (.dK kvs) ∧ kvs.length < sizeLine ∧ Nx (L2.upd H5 D (.dK (putK kvs k z))) else Nx H3) := by
  refine ⟨fun i m H => m = n - i ∧ i ≤ n ∧ Pv i H, ⟨n, by simp, Nat.zero_le _, h0⟩, ?_⟩
  rintro i m H ⟨rfl, hi, p⟩
  have q := hG i H hi p
  by_cases hlt : i < n
  · refine .inr ⟨w.goes i H hlt q, Pv (i + 1), fun H' p' => ⟨n - (i + 1), by omega, rfl, hlt, p'⟩, fun x H' y => hs i x H H' hlt p (w.yields i H x H' hlt q y)⟩
  · have e : i = n := by omega
    subst e
    exact .inl ⟨w.stops H q, hd H p⟩
/-- a book's row -/
def rowOf (bk : Bk) (s : Str) : Str × List (Str × Str) := ((bk.find? fun r => decide (r.1 = s)).map (·.2)).getD ("", [])
def ordB (bk : Bk) : Bk := (srt (bk.map (·.1))).map fun s => (s, (rowOf bk s).1, ordT (rowOf bk s).2)
theorem Rows.look {H : Hp} {kvs : List (Key × V)} {bk : Bk} {s : Str} (h : Rows H kvs bk) (m : s ∈ bk.map (·.1)) : ∃ v, valV kvs (.inr s) = some v ∧ RowAt H v (rowOf bk s).1 (rowOf bk s).2 ∧ (s, rowOf bk s) ∈ bk := by
  unfold Rows at h
  induction h with
  | nil => cases m
  | @cons a r kvs bk h1 _ ih =>
    by_cases e : r.1 = s
    · refine ⟨a.2, valV_pos (by rw [h1.1, e]), ?_, ?_⟩
      · rw [rowOf, List.find?_cons, decide_eq_true e]; exact h1.2
      · rw [rowOf, List.find?_cons, decide_eq_true e, ← e]; exact List.mem_cons_self
    · have m' : s ∈ bk.map (·.1) := by
        rcases List.mem_cons.mp m with z | z
        · exact absurd z.symm e
        · exact z
      obtain ⟨v, h2, h3, h4⟩ := ih m'
      have er : rowOf (r :: bk) s = rowOf bk s := by rw [rowOf, List.find?_cons, decide_eq_false e]; rfl
      refine ⟨v, by rw [valV_neg (by rw [h1.1]; exact fun z => e (Sum.inr.inj z))]; exact h2, by rw [er]; exact h3, by rw [er]; exact List.mem_cons_of_mem _ h4⟩
abbrev sOrdT : Stmt := top 17
abbrev sOrdB : Stmt := top 18
def spOrdT : Sp := fun vs H Q _ => ∃ (a : Addr) (ts : List (Str × Str)), vs = [.ref a] ∧ TurnsAt H a ts ∧ (ts.map (·.1)).Nodup ∧ ts.length < 64 ∧ ∀ H' R, Same H H' → H R = none → TurnsAt H' R (ordT ts) → Q (.ref R) H'
/-- a book that may be put in order -/
structure BOk (bk : Bk) : Prop where
  nd : (bk.map (·.1)).Nodup
  len : bk.length < 64
  rs : ∀ r ∈ bk, (r.2.2.map (·.1)).Nodup ∧ r.2.2.length < 64
def spOrdB : Sp := fun vs H Q _ => ∃ (b : Addr) (bk : Bk), vs = [.ref b] ∧ BookAt H b bk ∧ BOk bk ∧ ∀ H' R, Same H H' → H R = none → BookAt H' R (ordB bk) → Q (.ref R) H'
section
variable {P : Program} {w : World} {K : PySem.W.Frag} {mg : Str → Option Value} {base : Heap}
theorem scOt : FnScope ["turns", "word"] ["turns"] (defScope sOrdT) := ⟨rfl, rfl, rfl, by decide +kernel, rfl, by decide +kernel, by decide +kernel⟩
theorem ok_ordT {f : Addr} {fd : FuncData} (F : Fun K "ordered_turns" "ordered_turns" sOrdT f fd) (T : Free3 mg) : FnOk P w K mg base CX0 1 f fd ["turns"] spOrdT := by
  refine F.ok scOt (fun vs H Q E h => ?_) (fun cdv A outer s H vs Q E hr h => ?_)
  · obtain ⟨a, ts, rfl, _⟩ := h; rfl
  · obtain ⟨a, ts, rfl, ha, nd, l64, k⟩ := h
    have hu := hu_of hr
    refine ⟨_, pss_one (ps_ret (pe_dc (own := [("word", 1)]) (g := gName 1) (tt := tYes) (tk := tVar 1) (tv := tDGet (tVar 0) (tVar 1)) rfl scOt.nd (pi_list (pe_callB (call_sortedD rfl) (by rfl) T.sorted (by decide +kernel) (pa_cons (pv 0) pa_nil)))
        (blkOk_by (N := ["turns", "word"]) (sc := defScope sOrdT) (by decide +kernel)) (fun _ _ _ _ _ => pg_name (i := 1) scOt.nd rfl (Or.inl rfl)) (fun _ _ _ _ _ => pts_nil) (fun _ _ _ _ _ => pv 1) (fun _ _ _ _ _ => pe_dget hu (pv 0) (pv 1) (fun _ _ => rfl)))), ?_⟩
    have ek : (kT ts).map (·.1) = (ts.map (·.1)).map Sum.inr := by rw [kT, List.map_map, List.map_map]; rfl
    refine ⟨_, rfl, a, kT ts, ts.map (·.1), rfl, .inl ha, ek, by rw [List.length_map]; exact l64, fun ys q pm so hq => ?_⟩
    have ey := srt_of pm so
    have lq : ys.length < 64 := by rw [pm.length_eq, List.length_map]; exact l64
    have am : ∀ y ∈ ys, y ∈ ts.map (·.1) := fun y hy => pm.mem_iff.mp hy
    have ndy : ys.Nodup := pm.nodup_iff.mpr nd
    refine ⟨q, rfl, ⟨_, SqL.of upd_same⟩, fun D hD => ?_⟩
    have nqD : q ≠ D := fun e => by rw [← e, upd_same] at hD; cases hD
    have hD0 := upd_none' hD
    refine dc_it (walk_list (K := K) (a := q) (xs := ys.map V.str)) (fun i H' => Same H H' ∧ SL H' q ys ∧ TurnsAt H' D ((ys.take i).map fun k => (k, goalT ts k)))
      ⟨fun b u e => by rw [upd_ne (ne_of_none e hD0), upd_ne (ne_of_none e hq)]; exact e, by rw [SL, upd_ne nqD, upd_same], by rw [TurnsAt, upd_same]; rfl⟩ (fun i H' _ z => z.2.1.sq) ?_ ?_
    · rintro i v H1 H2 hi ⟨sm, hl, hT⟩ ⟨rfl, hx⟩
      obtain ⟨z, hz, rfl⟩ := get_map hx
      have hzm := am z (List.mem_of_getElem? hz)
      refine ⟨rfl, ?_⟩
      dsimp only [tYes]
      rw [if_pos rfl]
      have hn : (Sum.inr z : Key) ∉ (kT ((ys.take i).map fun k => (k, goalT ts k))).map (·.1) := fun hm => by
        obtain ⟨p1, hp1, e1⟩ := List.mem_map.mp hm
        obtain ⟨p2, hp2, e2⟩ := List.mem_map.mp hp1
        obtain ⟨p3, hp3, e3⟩ := List.mem_map.mp hp2
        subst e3; subst e2
        have e1 : p3 = z := Sum.inr.inj e1
        rw [e1] at hp3
        obtain ⟨m, hm1, hm2⟩ := List.mem_take_iff_getElem.mp hp3
        have h1 : ys[m]? = some z := by rw [List.getElem?_eq_getElem (by omega), hm2]
        have := (List.getElem?_inj (by omega) ndy).mp (h1.trans hz.symm)
        omega
      refine ⟨_, rfl, _, rfl, _, rfl, a, _, rfl, .inl ⟨kT ts, .inr z, .inl (ha.same sm), rfl, (valV_goal hzm).symm⟩, _, .inr z, rfl, hT, ?_, ?_, ?_, ?_⟩
      · rw [kT, List.length_map, List.length_map, List.length_take, sizeLine_eq]; omega
      · intro b u e
        rw [upd_ne (ne_of_none e hD0)]; exact sm _ _ e
      · rw [SL, upd_ne nqD]; exact hl
      · rw [TurnsAt, upd_same, putK_new hn, take_succ_get hz, List.map_append, kT, kT, List.map_append]; rfl
    · rintro H1 ⟨sm, hl, hT⟩
      refine k H1 D sm hD0 ?_
      rw [List.length_map, List.take_length, ey] at hT
      exact hT
end
end D1
end L2
/-! ordered_book -/
namespace L2
namespace D1
open PySem PySem.Spec PyProof.Rows
section
variable {P : Program} {w : World} {K : PySem.W.Frag} {mg : Str → Option Value} {base : Heap}
abbrev COrdT (P : Program) (w : World) (K : PySem.W.Frag) (mg : Str → Option Value) (base : Heap) := Cal P w K mg base "ordered_turns" 1 ["turns"] spOrdT
theorem scOb : FnScope ["book", "state"] ["book"] (defScope sOrdB) := ⟨rfl, rfl, rfl, by decide +kernel, rfl, by decide +kernel, by decide +kernel⟩
theorem ok_ordB {f : Addr} {fd : FuncData} (F : Fun K "ordered_book" "ordered_book" sOrdB f fd) (T : Free3 mg) (CT : COrdT P w K mg base) : FnOk P w K mg base CX0 2 f fd ["book"] spOrdB := by
  refine F.ok scOb (fun vs H Q E h => ?_) (fun cdv A outer s H vs Q E hr h => ?_)
  · obtain ⟨a, bk, rfl, _⟩ := h; rfl
  · obtain ⟨b, bk, rfl, ⟨kvs0, hb, hRw⟩, ok, k⟩ := h
    have hu := hu_of hr
    refine ⟨_, pss_one (ps_ret (pe_dc (own := [("state", 1)]) (g := gName 1) (tt := tYes) (tk := tVar 1) (tv := tTup (tCons (tOp (rIxT K) (tDGet (tVar 0) (tVar 1)) (tC (.int 0))) (tCons (tCall spOrdT [] E0 (tCons (tOp (rIxT K) (tDGet (tVar 0) (tVar 1)) (tC (.int 1))) tNil)) tNil))) rfl scOb.nd (pi_list (pe_callB (call_sortedD rfl) (by rfl) T.sorted (by decide +kernel) (pa_cons (pv 0) pa_nil)))
        (blkOk_by (N := ["book", "state"]) (sc := defScope sOrdB) (by decide +kernel)) (fun _ _ _ _ _ => pg_name (i := 1) scOb.nd rfl (Or.inl rfl)) (fun _ _ _ _ _ => pts_nil) (fun _ _ _ _ _ => pv 1)
        (fun _ _ _ _ _ => pe_tup (pa_cons (pe_ix ix_tup (pe_dget hu (pv 0) (pv 1) (fun _ _ => rfl)) pe_int (fun _ _ => rfl)) (pa_cons (pe_cal CT (hr.mono (by decide)) rfl (pa_cons (pe_ix ix_tup (pe_dget hu (pv 0) (pv 1) (fun _ _ => rfl)) pe_int (fun _ _ => rfl)) pa_nil)) pa_nil))))), ?_⟩
    have ek : kvs0.map (·.1) = (bk.map (·.1)).map Sum.inr := by rw [hRw.keys, List.map_map]; rfl
    refine ⟨_, rfl, b, kvs0, bk.map (·.1), rfl, .inl hb, ek, by rw [List.length_map]; exact ok.len, fun ys q pm so hq => ?_⟩
    have ey := srt_of pm so
    have lq : ys.length < 64 := by rw [pm.length_eq, List.length_map]; exact ok.len
    have am : ∀ y ∈ ys, y ∈ bk.map (·.1) := fun y hy => pm.mem_iff.mp hy
    have ndy : ys.Nodup := pm.nodup_iff.mpr ok.nd
    refine ⟨q, rfl, ⟨_, SqL.of upd_same⟩, fun D hD => ?_⟩
    have nqD : q ≠ D := fun e => by rw [← e, upd_same] at hD; cases hD
    have hD0 := upd_none' hD
    refine dc_it (walk_list (K := K) (a := q) (xs := ys.map V.str)) (fun i H' => Same H H' ∧ SL H' q ys ∧ ∃ kvs, H' D = some (.dK kvs) ∧ Rows (cut [D] H') kvs ((ys.take i).map fun s => (s, (rowOf bk s).1, ordT (rowOf bk s).2)))
      ⟨fun b u e => by rw [upd_ne (ne_of_none e hD0), upd_ne (ne_of_none e hq)]; exact e, by rw [SL, upd_ne nqD, upd_same], [], upd_same, .nil⟩ (fun i H' _ z => z.2.1.sq) ?_ ?_
    · rintro i v H1 H2 hi ⟨sm, hl, kvs, hk, hR⟩ ⟨rfl, hx⟩
      obtain ⟨z, hz, rfl⟩ := get_map hx
      have hzm := am z (List.mem_of_getElem? hz)
      refine ⟨rfl, ?_⟩
      dsimp only [tYes]
      rw [if_pos rfl]
      have hn : z ∉ ((ys.take i).map fun s => (s, (rowOf bk s).1, ordT (rowOf bk s).2) : Bk).map (·.1) := fun hm => by
        obtain ⟨p1, hp1, e1⟩ := List.mem_map.mp hm
        obtain ⟨p3, hp3, e3⟩ := List.mem_map.mp hp1
        subst e3
        have e1 : p3 = z := e1
        rw [e1] at hp3
        obtain ⟨m, hm1, hm2⟩ := List.mem_take_iff_getElem.mp hp3
        have h1 : ys[m]? = some z := by rw [List.getElem?_eq_getElem (by omega), hm2]
        have := (List.getElem?_inj (by omega) ndy).mp (h1.trans hz.symm)
        omega
      obtain ⟨v, h2, ⟨t, a, rfl, ht, ha⟩, hm⟩ := (hRw.same sm).look hzm
      have rr := ok.rs _ hm
      have hbz : DGet H2 b (V.str z) (some (.ref t)) := .inl ⟨kvs0, .inr z, .inl (sm _ _ hb), rfl, h2.symm⟩
      refine ⟨_, rfl, _, rfl, _, rfl, b, _, rfl, hbz, t, _, _, _, rfl, rfl, SqT.of ht, atI_nat (j := 0) rfl, _, rfl, _, rfl, b, _, rfl, hbz, t, _, _, _, rfl, rfl, SqT.of ht, atI_nat (j := 1) rfl, a, _, rfl, ha, rr.1, rr.2, fun H3 R s3 hRn hT => ?_⟩
      refine ⟨by show 2 ≤ sizeLine; decide, fun T1 hT1 => ?_⟩
      have hk3 := Same.new (o := .tup [.str (rowOf bk z).1, .ref R]) hT1 _ _ (s3 _ _ hk)
      have nT1D : T1 ≠ D := fun e => by rw [e, s3 _ _ hk] at hT1; cases hT1
      have nRD : R ≠ D := fun e => by rw [e, hk] at hRn; cases hRn
      have nRT : R ≠ T1 := fun e => by rw [← e, hT] at hT1; cases hT1
      refine ⟨kvs, .inr z, rfl, hk3, ?_, ?_, ?_, _, upd_same, ?_⟩
      · rw [hR.len, List.length_map, List.length_take, sizeLine_eq]; omega
      · intro b u e
        rw [upd_ne (ne_of_none e hD0)]; exact Same.new hT1 _ _ (s3 _ _ (sm _ _ e))
      · rw [SL, upd_ne nqD]; exact Same.new hT1 _ _ (s3 _ _ hl)
      · rw [putK_new (hR.fresh hn), cut_upd (by simp), take_succ_get hz, List.map_append]
        refine ((hR.same (cut_same s3)).same (cut_new hT1)).app ⟨T1, R, rfl, ?_, ?_⟩
        · rw [cut_out (by simpa using nT1D)]; exact upd_same
        · rw [TurnsAt, cut_out (by simpa using nRD), upd_ne nRT]; exact hT
    · rintro H1 ⟨sm, hl, kvs, hk, hR⟩
      refine k H1 D sm hD0 ⟨kvs, hk, ?_⟩
      rw [List.length_map, List.take_length, ey] at hR
      exact hR.same cut_le
end
end D1
end L2
/-! is_book -/
namespace L2
namespace D1
open PySem PySem.Spec PyProof.Rows
theorem lp_it {J : It} {n : Nat} {G : Hp → Prop} {Y : Nat → Hp → V → Hp → Prop} (w : Walk J n G Y) {body : V → Hp → (Hp → Prop) → Prop} {H0 : Hp} {Qd : Hp → Prop} (Pv : Nat → Hp → Prop) (h0 : Pv 0 H0) (hG : ∀ i H, i ≤ n → Pv i H → G H)
    (hs : ∀ i x H H', i < n → Pv i H → Y i H x H' → body x H' (Pv (i + 1))) (hd : ∀ H, Pv n H → Qd H) :
    ∃ W : Nat → Nat → Hp → Prop, (∃ m, W 0 m H0) ∧ ∀ i m H, W i m H → (J.stop i H ∧ Qd H) ∨ (J.go i H ∧ ∃ Nx : Hp → Prop, (∀ H', Nx H' → ∃ m', m' < m ∧ W (i + 1) m' H') ∧ ∀ x H', J.yld i H x H' → body x H' Nx) := by
  refine ⟨fun i m H => m = n - i ∧ i ≤ n ∧ Pv i H, ⟨n, by simp, Nat.zero_le _, h0⟩, ?_⟩
  rintro i m H ⟨rfl, hi, p⟩
  have q := hG i H hi p
  by_cases hlt : i < n
  · refine .inr ⟨w.goes i H hlt q, Pv (i + 1), fun H' p' => ⟨n - (i + 1), by omega, rfl, hlt, p'⟩, fun x H' y => hs i x H H' hlt p (w.yields i H x H' hlt q y)⟩
  · have e : i = n := by omega
    subst e
    exact .inl ⟨w.stops H q, hd H p⟩
def tLk : Nat → TE → TE
  | 0, t => t
  | n + 1, t => tLockE (tLk n t)
theorem pe_lkN {X : Cx} {e : Expr} {t : TE} (h : PE X e t) : ∀ n, PE X e (tLk n t)
  | 0 => h
  | n + 1 => pe_lock (pe_lkN h n)
theorem pe_lkAny {X : Cx} {e : Expr} {t : TE} (h : PE X e t) : PE X e (fun σ H Q => ∃ n, tLk n t σ H Q) := ⟨fun pins s σ H Q I ⟨n, q⟩ => (pe_lkN h n).run pins s σ H Q I q⟩
def Lk (ds : List Addr) (H H2 : Hp) : Prop := (∀ c, c ∉ ds → H2 c = H c) ∧ ∀ d ∈ ds, ∃ od u, H d = some u ∧ H2 d = some (.frz od u)
theorem lk_all (t : TE) (σ : L2.St) (Post : V → Hp → Prop) : ∀ (ds : List Addr) (H : Hp) (Q : VK), ds.Nodup → (∀ d ∈ ds, ∃ u, H d = some u ∧ Mut (some u)) →
    (∀ H2 Q2, Lk ds H H2 → (∀ v H3, Same H2 H3 → Post v H3 → Q2 v H3) → t σ H2 Q2) →
    (∀ v H3, Post v H3 → ∀ H4, Same H H4 → (∀ c, c ∉ ds → H4 c = H3 c) → Q v H4) → tLk ds.length t σ H Q
  | [], H, Q, _, _, h, k => h H Q ⟨fun _ _ => rfl, by simp⟩ fun v H3 s p => k v H3 p H3 s fun _ _ => rfl
  | d :: ds, H, Q, nd, hm, h, k => by
    obtain ⟨u, hu, mu⟩ := hm d List.mem_cons_self
    have nd' := List.nodup_cons.mp nd
    refine ⟨d, u, hu, mu, fun od => ?_⟩
    refine lk_all t σ Post ds _ _ nd'.2 (fun d' hd' => ?_) (fun H2 Q2 lk k2 => h H2 Q2 ⟨fun c hc => ?_, fun d' hd' => ?_⟩ k2) fun v H3 p H4 s4 e4 => ⟨s4 _ _ upd_same, k v H3 p _ (Same.unlock hu s4) fun c hc => ?_⟩
    · rw [upd_ne fun e => nd'.1 (by rw [← e]; exact hd')]; exact hm d' (List.mem_cons_of_mem _ hd')
    · rw [lk.1 c fun z => hc (List.mem_cons_of_mem _ z), upd_ne fun e => hc (by rw [e]; exact List.mem_cons_self)]
    · rcases List.mem_cons.mp hd' with e | e
      · rw [e]; exact ⟨od, u, hu, by rw [lk.1 d nd'.1]; exact upd_same⟩
      · obtain ⟨o2, u2, h1, h2⟩ := lk.2 d' e
        rw [upd_ne fun z => nd'.1 (by rw [← z]; exact e)] at h1
        exact ⟨o2, u2, h1, h2⟩
    · rw [upd_ne fun e => hc (by rw [e]; exact List.mem_cons_self)]
      exact e4 c fun z => hc (List.mem_cons_of_mem _ z)
theorem dedup (as : List Addr) : ∃ ds : List Addr, ds.Nodup ∧ ∀ a, a ∈ ds ↔ a ∈ as := by
  induction as with
  | nil => exact ⟨[], List.nodup_nil, fun _ => Iff.rfl⟩
  | cons x r ih =>
    obtain ⟨ds, nd, h⟩ := ih
    by_cases e : x ∈ ds
    · refine ⟨ds, nd, fun a => ⟨fun z => List.mem_cons_of_mem _ ((h a).mp z), fun z => ?_⟩⟩
      rcases List.mem_cons.mp z with q | q
      · rw [q]; exact e
      · exact (h a).mpr q
    · refine ⟨x :: ds, List.nodup_cons.mpr ⟨e, nd⟩, fun a => ?_⟩
      rw [List.mem_cons, List.mem_cons, h a]
/-- a row with its dict of turns told -/
def RowA (H : Hp) (v : V) (a : Addr) (k : Str) (ts : List (Str × Str)) : Prop := ∃ t, v = .ref t ∧ H t = some (.tup [.str k, .ref a]) ∧ TurnsAt H a ts
theorem rows_addrs {H : Hp} {kvs : List (Key × V)} {bk : Bk} (h : Rows H kvs bk) : ∀ l : List Str, (∀ s ∈ l, s ∈ bk.map (·.1)) → ∃ as : List Addr, (∀ a ∈ as, ∃ ts, TurnsAt H a ts) ∧ ∀ s ∈ l, ∃ v a, valV kvs (.inr s) = some v ∧ a ∈ as ∧ RowA H v a (rowOf bk s).1 (rowOf bk s).2
  | [], _ => ⟨[], by simp, by simp⟩
  | s :: l, hl => by
    obtain ⟨as, h1, h2⟩ := rows_addrs h l fun x hx => hl x (List.mem_cons_of_mem _ hx)
    obtain ⟨v, e, ⟨t, a, ev, ht, ha⟩, _⟩ := h.look (hl s List.mem_cons_self)
    refine ⟨a :: as, fun b hb => ?_, fun x hx => ?_⟩
    · rcases List.mem_cons.mp hb with z | z
      · rw [z]; exact ⟨_, ha⟩
      · exact h1 b z
    · rcases List.mem_cons.mp hx with z | z
      · rw [z]; exact ⟨v, a, e, List.mem_cons_self, t, ev, ht, ha⟩
      · obtain ⟨v', a', h3, h4, h5⟩ := h2 x z
        exact ⟨v', a', h3, List.mem_cons_of_mem _ h4, h5⟩
/-- a book's dict is no dict of turns -/
theorem book_ne {H : Hp} {b a : Addr} {kvs : List (Key × V)} {bk : Bk} {ts : List (Str × Str)} (hb : H b = some (.dK kvs)) (h : Rows H kvs bk) (ne : bk ≠ []) (ha : TurnsAt H a ts) : a ≠ b := fun e => by
  rw [TurnsAt, e, hb] at ha
  have ek : kvs = kT ts := by injection ha with z; injection z
  cases h with
  | nil => exact ne rfl
  | @cons x r kv2 bk2 h1 _ =>
    cases ts with
    | nil => cases ek
    | cons y ys =>
      have e1 : x = (Sum.inr y.1, V.str y.2) := (List.cons.inj ek).1
      obtain ⟨_, t, a', e2, _⟩ := h1
      rw [e1] at e2
      cases e2
theorem Rows.lock {H : Hp} {b : Addr} {kvs : List (Key × V)} {bk : Bk} {o : HO} (hb : H b = some (.dK kvs)) (h : Rows H kvs bk) (ne : bk ≠ []) : Rows (L2.upd H b o) kvs bk := by
  have key : ∀ (kv2 : List (Key × V)) (bk2 : Bk), Rows H kv2 bk2 → Rows (L2.upd H b o) kv2 bk2 := fun kv2 bk2 h2 => by
    unfold Rows at h2 ⊢
    induction h2 with
    | nil => exact .nil
    | cons h1 _ ih =>
      obtain ⟨e, t, a, ev, ht, ha⟩ := h1
      refine .cons ⟨e, t, a, ev, ?_, ?_⟩ ih
      · rw [upd_ne fun z => by rw [z, hb] at ht; cases ht]; exact ht
      · rw [TurnsAt, upd_ne (book_ne hb h ne ha)]; exact ha
  exact key kvs bk h
abbrev sIsBook : Stmt := top 16
structure BWf (bk : Bk) : Prop where
  ne : bk ≠ []
  nd : (bk.map (·.1)).Nodup
  len : bk.length ≤ 60
  rs : ∀ r ∈ bk, Wd r.1 ∧ RForm r.2.1 r.2.2 ∧ ∀ t ∈ r.2.2, t.2 ∈ bk.map (·.1)
  len2 : ∀ r ∈ bk, r.2.2.length ≤ 60
def spIsBook : Sp := fun vs H Q _ => ∃ (b : Addr) (bk : Bk), vs = [.ref b] ∧ BookAt H b bk ∧ BWf bk ∧ ∀ H', Same H H' → Q (.bl true) H'
theorem rowOf_self {bk : Bk} (nd : (bk.map (·.1)).Nodup) {r : RowD} (h : r ∈ bk) : rowOf bk r.1 = r.2 := by
  induction bk with
  | nil => cases h
  | cons x bk ih =>
    have nd' := List.nodup_cons.mp nd
    by_cases e : x.1 = r.1
    · rcases List.mem_cons.mp h with z | z
      · rw [rowOf, List.find?_cons, decide_eq_true e, z]; rfl
      · exact absurd (List.mem_map.mpr ⟨r, z, e.symm⟩) nd'.1
    · have hr : r ∈ bk := by
        rcases List.mem_cons.mp h with z | z
        · exact absurd (by rw [z]) e
        · exact z
      have er : rowOf (x :: bk) r.1 = rowOf bk r.1 := by rw [rowOf, List.find?_cons, decide_eq_false e]; rfl
      rw [er]; exact ih nd'.2 hr
section
variable {P : Program} {w : World} {K : PySem.W.Frag} {mg : Str → Option Value} {base : Heap}
theorem scIb : FnScope ["value", "state", "goal"] ["value"] (defScope sIsBook) := ⟨rfl, rfl, rfl, by decide +kernel, rfl, by decide +kernel, by decide +kernel⟩
theorem ok_isbook {f : Addr} {fd : FuncData} (F : Fun K "is_book" "is_book" sIsBook f fd) (T : Free3 mg) (CN : CIsName P w K mg base) (CR : CIsRow P w K mg base) : FnOk P w K mg base CX0 3 f fd ["value"] spIsBook := by
  refine F.ok scIb (fun vs H Q E h => ?_) (fun cdv A outer s H vs Q E hr h => ?_)
  · obtain ⟨a, bk, rfl, _⟩ := h; rfl
  · obtain ⟨b, bk, rfl, ⟨kvs, hb, hRw⟩, wf, k⟩ := h
    have hu := hu_of hr
    refine ⟨_, pss_cons (ps_if (PW.pt (pw_or (pt_not (pt_val (pe_callB call_isi (by rfl) T.isi (by decide +kernel) (pa_cons (pv 0) (pa_cons (pe_bltn (v := .ty "dict") rfl T.dict (by decide +kernel) rfl) pa_nil))))) (pw_or1 (pt_cmpR op_eq (pe_callB call_lenD (by rfl) T.len PySem.boot_len (pa_cons (pv 0) pa_nil)) pe_int (nomark _))))) (pss_one (ps_ret pe_bl)) pss_nil)
      (pss_cons (ps_if (pt_not (pt_val (pe_callB (cr_all rfl) (by rfl) T.all (by decide +kernel) (pa_cons (pe_lock (pe_lc (own := [("state", 1)]) (g := gName 1) (tt := tYes) (te := tAndV (tCall spIsName [] E0 (tCons (tVar 1) tNil)) (tCall spIsRow [] E0 (tCons (tDGet (tVar 0) (tVar 1)) tNil))) rfl scIb.nd (pi_keys (pv 0))
          (blkOk_by (N := ["value", "state", "goal"]) (sc := defScope sIsBook) (by decide +kernel)) (fun _ _ _ _ _ => pg_name (i := 1) scIb.nd rfl (Or.inl rfl)) (fun _ _ _ _ _ => pts_nil)
          (fun _ _ _ _ _ => pe_and (pe_cal CN (hr.mono (by decide)) rfl (pa_cons (pv 1) pa_nil)) (pe_one (pe_cal CR (hr.mono (by decide)) rfl (pa_cons (pe_dget hu (pv 0) (pv 1) (fun _ _ => rfl)) pa_nil)))))) pa_nil)))) (pss_one (ps_ret pe_bl)) pss_nil)
      (pss_one (ps_ret (pe_callB (cr_all rfl) (by rfl) T.all (by decide +kernel) (pa_cons (pe_lkAny (pe_lc2 (own := [("state", 1), ("goal", 2)]) (vs1 := [2]) (g := gName 1) (tt := tYes) (g1 := gName 2) (tt1 := tYes) (wi1 := iVals (tOp (rIxT K) (tDGet (tVar 0) (tVar 1)) (tC (.int 1)))) (te := tDIn (tVar 2) (tVar 0)) rfl scIb.nd (pi_keys (pv 0))
          (blkOk_by (N := ["value", "state", "goal"]) (sc := defScope sIsBook) (by decide +kernel)) (by decide) (fun _ _ _ _ _ => pg_name (i := 1) scIb.nd rfl (Or.inl rfl)) (fun _ _ _ _ _ => pts_nil)
          (fun _ _ _ _ _ => pi_values (pe_ix ix_tup (pe_dget hu (pv 0) (pv 1) (fun _ _ => rfl)) pe_int (fun _ _ => rfl))) (fun _ _ _ _ _ => pg_name (i := 2) scIb.nd rfl (Or.inl rfl)) (fun _ _ _ _ _ => pts_nil)
          (fun _ _ _ _ _ => pe_cmp (pc_din hu (pv 2) (pv 0)) rfl))) pa_nil))))), ?_⟩
    have lk0 : kvs.length = bk.length := hRw.len
    have lpos : 0 < bk.length := List.length_pos_iff.mpr wf.ne
    have at_row : ∀ {i : Nat} {kk : Key} {v : V}, kvs[i]? = some (kk, v) → ∃ s, kk = .inr s ∧ s ∈ bk.map (·.1) := fun {i kk v} e => by
      have e1 : (kvs.map (·.1))[i]? = some kk := by rw [List.getElem?_map, e]; rfl
      rw [hRw.keys] at e1
      obtain ⟨r, hr, e2⟩ := get_map e1
      exact ⟨r.1, e2, List.mem_map_of_mem (List.mem_of_getElem? hr)⟩
    refine ⟨_, rfl, _, .ty "dict", .type "dict", .type "dict", true, rfl, .ty _, .base (.dK hb), kit_ty (by decide +kernel), _, rfl, ?_⟩
    refine iteF ⟨_, rfl, b, kvs, rfl, hb, rfl, _, rfl, ?_⟩
    have nz : decide (V.int (kvs.length : Int) = V.int 0) = false := decide_eq_false fun e => by
      have : (kvs.length : Int) = 0 := by injection e
      omega
    rw [nz]
    refine iteF ⟨b, _, hb, trivial, fun od => ?_⟩
    have hR1 := hRw.lock (o := .frz od (.dK kvs)) hb wf.ne
    refine ⟨_, rfl, b, od, rfl, .inl ⟨kvs, upd_same, fun D hD => ?_⟩⟩
    have nD : b ≠ D := fun e => by rw [← e, upd_same] at hD; cases hD
    have hD0 := upd_none' hD
    refine lc_it (walk_keys (d := b) (o := od) (kvs := kvs)) (fun i H' => Same (L2.upd H b (.frz od (.dK kvs))) H' ∧ H' D = some (.lst ((List.replicate i true).map V.bl))) ⟨Same.new hD, upd_same⟩ (fun i H' _ z => z.1 _ _ upd_same) ?_ ?_
    · rintro i x H1 H2 hi ⟨sm, hl⟩ ⟨rfl, kk, v0, hkv, rfl⟩
      obtain ⟨s', rfl, hs⟩ := at_row hkv
      obtain ⟨v, e2, hrow, hm⟩ := (hR1.same sm).look hs
      have wr := wf.rs _ hm
      refine ⟨rfl, ?_⟩
      dsimp only [tYes]
      rw [if_pos rfl]
      refine ⟨_, rfl, s', rfl, wr.1, fun H3 s3 => ⟨true, rfl, iteT ⟨_, rfl, _, rfl, b, v, rfl, .inl ⟨kvs, .inr s', .inr ⟨od, s3 _ _ (sm _ _ upd_same)⟩, rfl, e2.symm⟩, v, _, _, rfl, hrow.same s3, wr.2.1, fun H4 s4 => ?_⟩⟩⟩
      refine ⟨_, s4 _ _ (s3 _ _ hl), by rw [List.length_map, List.length_replicate, sizeLine_eq]; have := wf.len; omega, ?_, ?_⟩
      · intro c u e
        rw [upd_ne (ne_of_none e hD)]; exact s4 _ _ (s3 _ _ (sm _ _ e))
      · rw [upd_same, repl_snoc]
    rintro H1 ⟨sm, hl⟩
    refine ⟨sm _ _ upd_same, D, _, rfl, SqL.of (by rw [upd_ne nD.symm]; exact hl), ?_⟩
    rw [all_true]
    refine ⟨_, rfl, ?_⟩
    have s5 : Same H (L2.upd H1 b (.dK kvs)) := Same.unlock hb sm
    have hb5 := s5 _ _ hb
    have hR5 := hRw.same s5
    generalize L2.upd H1 b (.dK kvs) = H5 at s5 hb5 hR5
    clear sm hl hD hD0 hR1
    refine iteF ?_
    obtain ⟨as, ha1, ha2⟩ := rows_addrs hR5 (bk.map (·.1)) fun s hs => hs
    obtain ⟨ds, nds, hds⟩ := dedup as
    have nb : b ∉ ds := fun z => by
      obtain ⟨ts, hts⟩ := ha1 b ((hds b).mp z)
      exact book_ne hb5 hR5 wf.ne hts rfl
    refine ⟨(b :: ds).length, lk_all _ _ (fun v H3 => ∃ D n, v = .ref D ∧ D ∉ b :: ds ∧ H3 D = some (.lst ((List.replicate n true).map V.bl))) (b :: ds) H5 _ (List.nodup_cons.mpr ⟨nb, nds⟩) (fun d hd => ?_) ?_ ?_⟩
    · rcases List.mem_cons.mp hd with e | e
      · rw [e]; exact ⟨_, hb5, trivial⟩
      · obtain ⟨ts, hts⟩ := ha1 d ((hds d).mp e)
        exact ⟨_, hts, trivial⟩
    · intro H2 Q2 lk k2
      obtain ⟨od, u, h1, hb2⟩ := lk.2 b List.mem_cons_self
      rw [hb5] at h1
      cases h1
      refine ⟨_, rfl, b, od, rfl, .inl ⟨kvs, hb2, fun D hD => ?_⟩⟩
      have nDd : D ∉ b :: ds := fun z => by
        obtain ⟨_, _, _, h3⟩ := lk.2 D z
        rw [h3] at hD; cases hD
      refine lp_it (walk_keys (d := b) (o := od) (kvs := kvs)) (fun i H' => Same H2 H' ∧ ∃ n, n ≤ 60 * i ∧ H' D = some (.lst ((List.replicate n true).map V.bl))) ⟨Same.new hD, 0, Nat.le_refl _, upd_same⟩ (fun i H' _ z => z.1 _ _ hb2) ?_ ?_
      · rintro i x H6 H7 hi ⟨sm, n, hn, hl⟩ ⟨rfl, kk, v0, hkv, rfl⟩
        obtain ⟨s', rfl, hs⟩ := at_row hkv
        obtain ⟨v, a, e2, haa, t, rfl, ht, hta⟩ := ha2 s' hs
        obtain ⟨_, _, _, hm⟩ := hR5.look hs
        have wr := wf.rs _ hm
        have l60 : (rowOf bk s').2.length ≤ 60 := wf.len2 _ hm
        have ht2 : H2 t = some (.tup [.str (rowOf bk s').1, .ref a]) := by
          rw [lk.1 t fun z => by
            rcases List.mem_cons.mp z with e | e
            · rw [e, hb5] at ht; cases ht
            · obtain ⟨ts, hts⟩ := ha1 t ((hds t).mp e)
              rw [hts] at ht; cases ht]
          exact ht
        obtain ⟨oa, ua, h3, ha3⟩ := lk.2 a (List.mem_cons_of_mem _ ((hds a).mpr haa))
        rw [hta] at h3
        cases h3
        refine ⟨rfl, ?_⟩
        dsimp only [tYes]
        rw [if_pos rfl]
        refine ⟨_, rfl, _, rfl, b, _, rfl, .inl ⟨kvs, .inr s', .inr ⟨od, sm _ _ hb2⟩, rfl, e2.symm⟩, t, _, _, _, rfl, rfl, SqT.of (sm _ _ ht2), atI_nat (j := 1) rfl, a, oa, kT (rowOf bk s').2, rfl, sm _ _ ha3, ?_⟩
        refine lp_it (walk_values (d := a) (o := oa) (kvs := kT (rowOf bk s').2)) (fun j H' => Same H2 H' ∧ ∃ n, n ≤ 60 * i + j ∧ H' D = some (.lst ((List.replicate n true).map V.bl))) ⟨sm, n, hn, hl⟩ (fun j H' _ z => z.1 _ _ ha3) ?_ ?_
        · rintro j x H8 H9 hj ⟨sm8, n8, hn8, hl8⟩ ⟨rfl, k9, hk9⟩
          rw [kT, List.getElem?_map] at hk9
          obtain ⟨tt, htt, e9⟩ := Option.map_eq_some_iff.mp hk9
          cases e9
          have hg := wr.2.2 tt (List.mem_of_getElem? htt)
          obtain ⟨vg, eg, _⟩ := hR5.look hg
          have lj : j < 60 := by rw [kT, List.length_map] at hj; omega
          have li : i < 60 := by have := wf.len; omega
          refine ⟨rfl, ?_⟩
          rw [if_pos rfl]
          refine ⟨_, rfl, _, rfl, b, _, rfl, .inl ⟨kvs, .inr tt.2, .inr ⟨od, sm8 _ _ hb2⟩, rfl, rfl⟩, _, hl8, by rw [List.length_map, List.length_replicate, sizeLine_eq]; omega, ?_, n8 + 1, by omega, ?_⟩
          · intro c u e
            rw [upd_ne (ne_of_none e hD)]; exact sm8 _ _ e
          · rw [upd_same, eg, ← repl_snoc]; rfl
        · rintro H8 ⟨sm8, n8, hn8, hl8⟩
          refine ⟨sm8, n8, ?_, hl8⟩
          rw [kT, List.length_map] at hn8
          have : (rowOf bk s').2.length ≤ 60 := l60
          omega
      · rintro H6 ⟨sm, n, hn, hl⟩
        exact k2 _ _ sm ⟨D, n, rfl, nDd, hl⟩
    · rintro v H3 ⟨D, n, rfl, nDd, hl⟩ H4 s4 e4
      refine ⟨D, _, rfl, SqL.of (by rw [e4 D nDd]; exact hl), ?_⟩
      rw [all_true]
      exact k H4 (Same.trans s5 s4)
end
end D1
end L2
/-! the class Desk: __init__, book, start; need_desk, graph_of -/
namespace L2
namespace D1
open PySem PySem.Spec PyProof.Rows
abbrev sDInit : Stmt := inClass (top 19) 0
abbrev sDEq : Stmt := inClass (top 19) 1
abbrev sDBook : Stmt := inClass (top 19) 2
abbrev sDStart : Stmt := inClass (top 19) 3
abbrev sNeed : Stmt := top 20
abbrev sGraph : Stmt := top 21
theorem kbs : ¬ (("_book" : Str) = "_start") := by decide +kernel
def dflds (b : Addr) (st : Str) : List (Str × V) := putF "_start" (.str st) (putF "_book" (.ref b) [])
theorem dflds_book (b : Addr) (st : Str) : (dflds b st).lookup ("_book" : Str) = some (.ref b) := by
  unfold dflds
  rw [lookup_putF, if_neg kbs, lookup_putF, if_pos rfl]
theorem dflds_start (b : Addr) (st : Str) : (dflds b st).lookup ("_start" : Str) = some (.str st) := by
  unfold dflds
  rw [lookup_putF, if_pos rfl]
theorem dflds_no (b : Addr) (st : Str) {m : Str} (h1 : ¬ m = "_start") (h2 : ¬ m = "_book") : (dflds b st).lookup m = none := by
  unfold dflds
  rw [lookup_putF, if_neg h1, lookup_putF, if_neg h2]
  all_goals rfl
/-- a desk -/
def DeskAt (C : Addr) (H : Hp) (q : Addr) (bk : Bk) (st : Str) : Prop := ∃ dx b, H q = some (.ins C dx (dflds b st)) ∧ BookAt H b (ordB bk)
theorem DeskAt.same {C : Addr} {H H' : Hp} {q : Addr} {bk : Bk} {st : Str} (h : DeskAt C H q bk st) (s : Same H H') : DeskAt C H' q bk st := by
  obtain ⟨dx, b, e, r⟩ := h; exact ⟨dx, b, s _ _ e, r.same s⟩
/-- a book and a start that make a desk -/
structure DOk (bk : Bk) (st : Str) : Prop extends BWf bk where
  tk : ∀ r ∈ bk, (r.2.2.map (·.1)).Nodup
  st : st ∈ bk.map (·.1)
theorem DOk.bok {bk : Bk} {st : Str} (h : DOk bk st) : BOk bk := ⟨h.nd, by have := h.len; omega, fun r hr => ⟨h.tk r hr, by have := h.len2 r hr; omega⟩⟩
theorem WF.dok {bk : Bk} {st : Str} {ws : List Str} (h : WF bk st ws) (w : WsOk ws) : DOk bk st := by
  have hw : ∀ x ∈ bk.map (·.1), Wd x := fun x hx => by
    obtain ⟨r, hr, rfl⟩ := List.mem_map.mp hx
    exact (h.rs r hr).1
  have wl := w.hi
  refine { ne := ?_, nd := h.nd, len := ?_, rs := fun r hr => ?_, len2 := fun r hr => ?_, tk := fun r hr => ?_, st := h.st }
  · intro e
    have := h.st
    rw [e] at this; cases this
  · have := h.len; omega
  · obtain ⟨h1, h2⟩ := h.rs r hr
    rcases h2 with ⟨e1, e2⟩ | ⟨e1, e2, e3⟩
    · exact ⟨h1, .inl ⟨e1, e2⟩, by rw [e2]; simp⟩
    · exact ⟨h1, .inr ⟨e1, e2, by have := e3.len; omega, fun t ht => ⟨w.wd _ (e3.ks t ht), hw _ (e3.gs t ht)⟩⟩, fun t ht => e3.gs t ht⟩
  · obtain ⟨h1, h2⟩ := h.rs r hr
    rcases h2 with ⟨e1, e2⟩ | ⟨e1, e2, e3⟩
    · rw [e2]; exact Nat.zero_le _
    · have := e3.len; omega
  · obtain ⟨h1, h2⟩ := h.rs r hr
    rcases h2 with ⟨e1, e2⟩ | ⟨e1, e2, e3⟩
    · rw [e2]; exact List.nodup_nil
    · exact e3.nd
/-- what is asked of the class -/
structure DTxt (K : PySem.W.Frag) (mg : Str → Option Value) (C : Addr) : Prop where
  cl : Cls K C
  nB : NoAttr K C "_book"
  nS : NoAttr K C "_start"
  mgC : mg "Desk" = some (.ref C)
def spDInit (C : Addr) : Sp := fun vs H Q _ => ∃ (q dx b : Addr) (bk : Bk) (st : Str), vs = [.ref q, .ref b, .str st] ∧ H q = some (.ins C dx []) ∧ BookAt H b bk ∧ DOk bk st ∧
  ∀ H', But q H H' → DeskAt C H' q bk st → Q .non H'
def spDBook (C : Addr) : Sp := fun vs H Q _ => ∃ (q : Addr) (bk : Bk) (st : Str), vs = [.ref q] ∧ DeskAt C H q bk st ∧ DOk bk st ∧ ∀ H' R, Same H H' → H R = none → BookAt H' R (ordB bk) → Q (.ref R) H'
def spDStart (C : Addr) : Sp := fun vs H Q _ => ∃ (q : Addr) (bk : Bk) (st : Str), vs = [.ref q] ∧ DeskAt C H q bk st ∧ Q (.str st) H
theorem ordB_names (bk : Bk) : (ordB bk).map (·.1) = srt (bk.map (·.1)) := by
  rw [ordB, List.map_map]
  exact List.map_id'' (fun _ => rfl) _
theorem mem_ordB {bk : Bk} (nd : (bk.map (·.1)).Nodup) {r : RowD} : r ∈ ordB bk → ∃ r0 ∈ bk, r.1 = r0.1 ∧ r.2.1 = r0.2.1 ∧ r.2.2 = ordT r0.2.2 := fun h => by
  obtain ⟨s, hs, rfl⟩ := List.mem_map.mp h
  obtain ⟨r0, hr0, e⟩ := List.mem_map.mp ((srt_perm _).mem_iff.mp hs)
  refine ⟨r0, hr0, e.symm, ?_, ?_⟩
  · show (rowOf bk s).1 = _
    rw [← e, rowOf_self nd hr0]
  · show ordT (rowOf bk s).2 = _
    rw [← e, rowOf_self nd hr0]
theorem ordT_nd {ts : List (Str × Str)} (h : (ts.map (·.1)).Nodup) : ((ordT ts).map (·.1)).Nodup := by
  rw [ordT_keys]; exact (srt_perm _).nodup_iff.mpr h
theorem ordT_len (ts : List (Str × Str)) : (ordT ts).length = ts.length := by
  rw [← List.length_map (·.1), ordT_keys, (srt_perm _).length_eq, List.length_map]
theorem ordB_len (bk : Bk) : (ordB bk).length = bk.length := by
  rw [← List.length_map (·.1), ordB_names, (srt_perm _).length_eq, List.length_map]
theorem DOk.obok {bk : Bk} {st : Str} (h : DOk bk st) : BOk (ordB bk) := by
  refine ⟨by rw [ordB_names]; exact (srt_perm _).nodup_iff.mpr h.nd, by rw [ordB_len]; have := h.len; omega, fun r hr => ?_⟩
  obtain ⟨r0, h0, _, _, e⟩ := mem_ordB h.nd hr
  rw [e]
  exact ⟨ordT_nd (h.tk r0 h0), by rw [ordT_len]; have := h.len2 r0 h0; omega⟩
theorem srt_srt (l : List Str) : srt (srt l) = srt l := srt_congr (srt_perm l)
theorem goalT_ordT {ts : List (Str × Str)} {k : Str} (h : k ∈ ts.map (·.1)) : goalT (ordT ts) k = goalT ts k := by
  have hk : k ∈ (ordT ts).map (·.1) := by rw [ordT_keys]; exact (srt_perm _).mem_iff.mpr h
  obtain ⟨t, e, e1, ht⟩ := find_some hk
  obtain ⟨k2, _, rfl⟩ := List.mem_map.mp ht
  have : k2 = k := e1
  subst this
  rw [goalT, e]; rfl
theorem ordT_ordT (ts : List (Str × Str)) : ordT (ordT ts) = ordT ts := by
  show (srt ((ordT ts).map (·.1))).map (fun k => (k, goalT (ordT ts) k)) = _
  rw [ordT_keys, srt_srt]
  refine List.map_congr_left fun k hk => ?_
  rw [goalT_ordT ((srt_perm _).mem_iff.mp hk)]
theorem ordB_ordB {bk : Bk} (nd : (bk.map (·.1)).Nodup) : ordB (ordB bk) = ordB bk := by
  have nd2 : ((ordB bk).map (·.1)).Nodup := by rw [ordB_names]; exact (srt_perm _).nodup_iff.mpr nd
  show (srt ((ordB bk).map (·.1))).map (fun s => (s, (rowOf (ordB bk) s).1, ordT (rowOf (ordB bk) s).2)) = _
  rw [ordB_names, srt_srt]
  refine List.map_congr_left fun s hs => ?_
  have hm : (s, (rowOf bk s).1, ordT (rowOf bk s).2) ∈ ordB bk := List.mem_map.mpr ⟨s, hs, rfl⟩
  have := rowOf_self nd2 hm
  rw [show rowOf (ordB bk) s = ((rowOf bk s).1, ordT (rowOf bk s).2) from this]
  show (s, (rowOf bk s).1, ordT (ordT (rowOf bk s).2)) = _
  rw [ordT_ordT]
theorem updd2 {H : Hp} {a : Addr} {o o' : HO} : L2.upd (L2.upd H a o) a o' = L2.upd H a o' := by
  funext b
  by_cases h : b = a
  · rw [h, upd_same, upd_same]
  · rw [upd_ne h, upd_ne h, upd_ne h]
theorem Rows.updI {H : Hp} {q C dx : Addr} {fs : List (Str × V)} {kvs : List (Key × V)} {bk : Bk} {o : HO} (h : Rows H kvs bk) (hq : H q = some (.ins C dx fs)) : Rows (L2.upd H q o) kvs bk := by
  unfold Rows at h ⊢
  induction h with
  | nil => exact .nil
  | cons h1 _ ih =>
    obtain ⟨e, t, a, ev, ht, ha⟩ := h1
    refine .cons ⟨e, t, a, ev, ?_, ?_⟩ ih
    · rw [upd_ne fun z => by rw [z, hq] at ht; cases ht]; exact ht
    · rw [TurnsAt, upd_ne fun z => by rw [TurnsAt, z, hq] at ha; cases ha]; exact ha
section
variable {P : Program} {w : World} {K : PySem.W.Frag} {mg : Str → Option Value} {base : Heap}
abbrev CIsBook (P : Program) (w : World) (K : PySem.W.Frag) (mg : Str → Option Value) (base : Heap) := Cal P w K mg base "is_book" 3 ["value"] spIsBook
abbrev CIsState (P : Program) (w : World) (K : PySem.W.Frag) (mg : Str → Option Value) (base : Heap) := Cal P w K mg base "is_state_of" 1 ["book", "value"] spIsState
abbrev COrdB (P : Program) (w : World) (K : PySem.W.Frag) (mg : Str → Option Value) (base : Heap) := Cal P w K mg base "ordered_book" 2 ["book"] spOrdB
theorem scDi : FnScope ["self", "book", "start"] ["self", "book", "start"] (defScope sDInit) := ⟨rfl, rfl, rfl, by decide +kernel, rfl, by decide +kernel, by decide +kernel⟩
theorem ok_dinit {f C : Addr} {fd : FuncData} (F : Fun K "__init__" "Desk.__init__" sDInit f fd) (D : DTxt K mg C) (CB : CIsBook P w K mg base) (CS : CIsState P w K mg base) (CO : COrdB P w K mg base) : FnOk P w K mg base CX0 4 f fd ["self", "book", "start"] (spDInit C) := by
  refine F.ok scDi (fun vs H Q E h => ?_) (fun cdv A outer s H vs Q E hr h => ?_)
  · obtain ⟨q, dx, b, bk, st, rfl, _⟩ := h; rfl
  · obtain ⟨q, dx, b, bk, st, rfl, hq, hb, ok, k⟩ := h
    refine ⟨_, pss_cons (ps_if (pt_not (pt_val (pe_cal CB (hr.mono (by decide)) rfl (pa_cons (pv 1) pa_nil)))) (pss_one ps_never) pss_nil)
      (pss_cons (ps_if (pt_not (pt_val (pe_cal CS (hr.mono (by decide)) rfl (pa_cons (pv 1) (pa_cons (pv 2) pa_nil))))) (pss_one ps_never) pss_nil)
      (pss_cons (ps_fld (pv 0) (pe_cal CO (hr.mono (by decide)) rfl (pa_cons (pv 1) pa_nil)) rfl)
      (pss_one (ps_fld (pv 0) (pv 2) rfl)))), ?_⟩
    refine ⟨_, rfl, b, bk, rfl, hb, ok.toBWf, fun H1 s1 => ⟨_, rfl, iteF ?_⟩⟩
    obtain ⟨kvs, hk1, hR1⟩ := hb.same s1
    obtain ⟨v, ev, _⟩ := hR1.look ok.st
    refine ⟨_, rfl, _, rfl, b, kvs, st, rfl, .inl hk1, by rw [ev]; rfl, ⟨_, rfl, iteF ?_⟩⟩
    refine ⟨_, rfl, b, bk, rfl, hb.same s1, ok.bok, fun H2 R s2 hR hO => ?_⟩
    have s12 := Same.trans s1 s2
    have hq2 := s12 _ _ hq
    have nqR : q ≠ R := ne_of_none (s1 _ _ hq) hR
    refine ⟨_, rfl, q, C, dx, [], rfl, hq2, D.cl, D.nB, (by show 0 < 1000; decide), _, rfl, _, rfl, q, C, dx, _, rfl, upd_same, D.cl, D.nS, (by show 1 < 1000; decide), ?_⟩
    rw [updd2]
    refine k _ ?_ ⟨dx, R, upd_same, ?_⟩
    · intro c u nc e
      rw [upd_ne nc]; exact s12 _ _ e
    · obtain ⟨kv, e1, e2⟩ := hO
      refine ⟨kv, by rw [upd_ne nqR.symm]; exact e1, ?_⟩
      exact e2.updI hq2
theorem scDb : FnScope ["self"] ["self"] (defScope sDBook) := ⟨rfl, rfl, rfl, by decide +kernel, rfl, by decide +kernel, by decide +kernel⟩
theorem ok_dbook {f C : Addr} {fd : FuncData} (F : Fun K "book" "Desk.book" sDBook f fd) (D : DTxt K mg C) (CO : COrdB P w K mg base) : FnOk P w K mg base CX0 3 f fd ["self"] (spDBook C) := by
  refine F.ok scDb (fun vs H Q E h => ?_) (fun cdv A outer s H vs Q E hr h => ?_)
  · obtain ⟨q, bk, st, rfl, _⟩ := h; rfl
  · obtain ⟨q, bk, st, rfl, ⟨dx, b, hq, hb⟩, ok, k⟩ := h
    refine ⟨_, pss_one (ps_ret (pe_cal CO (hr.mono (by decide)) rfl (pa_cons (pe_fld (pv 0) rfl) pa_nil))), ?_⟩
    refine ⟨_, rfl, q, C, dx, _, _, rfl, hq, D.cl, D.nB, dflds_book _ _, b, ordB bk, rfl, hb, ok.obok, fun H' R s' hR hO => ?_⟩
    rw [ordB_ordB ok.nd] at hO
    exact k H' R s' hR hO
theorem scDs : FnScope ["self"] ["self"] (defScope sDStart) := ⟨rfl, rfl, rfl, by decide +kernel, rfl, by decide +kernel, by decide +kernel⟩
theorem ok_dstart {f C : Addr} {fd : FuncData} (F : Fun K "start" "Desk.start" sDStart f fd) (D : DTxt K mg C) : FnOk P w K mg base CX0 1 f fd ["self"] (spDStart C) := by
  refine F.ok scDs (fun vs H Q E h => ?_) (fun cdv A outer s H vs Q E hr h => ?_)
  · obtain ⟨q, bk, st, rfl, _⟩ := h; rfl
  · obtain ⟨q, bk, st, rfl, ⟨dx, b, hq, hb⟩, k⟩ := h
    refine ⟨_, pss_one (ps_ret (pe_fld (pv 0) rfl)), ?_⟩
    exact ⟨_, rfl, q, C, dx, _, _, rfl, hq, D.cl, D.nS, dflds_start _ _, k⟩
end
end D1
end L2
/-! need_desk, graph_of, node_behind, the talks' small defs -/
namespace L2
namespace D1
open PySem PySem.Spec PyProof.Rows
abbrev sIsTalk : Stmt := top 23
abbrev sNeedT : Stmt := top 24
abbrev sDone : Stmt := top 25
abbrev sSB : Stmt := top 26
abbrev sNode : Stmt := top 14
/-- a method that keeps a promise -/
structure CalM (P : Program) (w : World) (K : PySem.W.Frag) (mg : Str → Option Value) (base : Heap) (C : Addr) (m : Str) (k : Nat) (ps : List Str) (sp : Sp) : Prop where
  ex : ∃ f fd, Meth K C m f ∧ FnOk P w K mg base CX0 k f fd ps sp ∧ Binds K fd ps []
def spNeed (C : Addr) : Sp := fun vs H Q _ => ∃ (q dx : Addr) (fs : List (Str × V)), vs = [.ref q] ∧ H q = some (.ins C dx fs) ∧ Q .non H
/-- a graph's rows -/
def GRows (H : Hp) : List (Key × V) → Bk → Prop := Paired fun kv r => kv.1 = Sum.inr r.1 ∧ ∃ a, kv.2 = .ref a ∧ TurnsAt H a r.2.2
theorem GRows.same {H H' : Hp} {kvs : List (Key × V)} {bk : Bk} (h : GRows H kvs bk) (s : Same H H') : GRows H' kvs bk := by
  unfold GRows at h ⊢
  induction h with
  | nil => exact .nil
  | cons a b ih => obtain ⟨e, c, e2, h3⟩ := a; exact .cons ⟨e, c, e2, h3.same s⟩ ih
theorem GRows.app {H : Hp} {kvs : List (Key × V)} {bk : Bk} {s k : Str} {a : Addr} {ts : List (Str × Str)} (h : GRows H kvs bk) (r : TurnsAt H a ts) : GRows H (kvs ++ [(.inr s, .ref a)]) (bk ++ [(s, k, ts)]) := by
  unfold GRows at h ⊢
  induction h with
  | nil => exact .cons ⟨rfl, a, rfl, r⟩ .nil
  | cons a b ih => exact .cons a ih
theorem GRows.keys {H : Hp} {kvs : List (Key × V)} {bk : Bk} (h : GRows H kvs bk) : kvs.map (·.1) = bk.map fun r => Sum.inr r.1 := by
  unfold GRows at h
  induction h with
  | nil => rfl
  | cons a b ih => rw [List.map_cons, List.map_cons, ih, a.1]
theorem GRows.look {H : Hp} {kvs : List (Key × V)} {bk : Bk} {s : Str} (h : GRows H kvs bk) (m : s ∈ bk.map (·.1)) : ∃ a, valV kvs (.inr s) = some (.ref a) ∧ TurnsAt H a (rowOf bk s).2 := by
  unfold GRows at h
  induction h with
  | nil => cases m
  | @cons x r kvs bk h1 _ ih =>
    obtain ⟨e1, a, e2, h3⟩ := h1
    by_cases e : r.1 = s
    · refine ⟨a, (valV_pos (by rw [e1, e])).trans (congrArg some e2), ?_⟩
      rw [rowOf, List.find?_cons, decide_eq_true e]; exact h3
    · have m' : s ∈ bk.map (·.1) := by
        rcases List.mem_cons.mp m with z | z
        · exact absurd z.symm e
        · exact z
      obtain ⟨a', h4, h5⟩ := ih m'
      have er : rowOf (r :: bk) s = rowOf bk s := by rw [rowOf, List.find?_cons, decide_eq_false e]; rfl
      exact ⟨a', by rw [valV_neg (by rw [e1]; exact fun z => e (Sum.inr.inj z))]; exact h4, by rw [er]; exact h5⟩
def GraphAt (H : Hp) (g : Addr) (bk : Bk) : Prop := ∃ kvs, H g = some (.dK kvs) ∧ GRows H kvs bk
theorem GraphAt.same {H H' : Hp} {g : Addr} {bk : Bk} (h : GraphAt H g bk) (s : Same H H') : GraphAt H' g bk := by
  obtain ⟨kvs, e, r⟩ := h; exact ⟨kvs, s _ _ e, r.same s⟩
def spGraph (C : Addr) : Sp := fun vs H Q _ => ∃ (q : Addr) (bk : Bk) (st : Str), vs = [.ref q] ∧ DeskAt C H q bk st ∧ DOk bk st ∧ ∀ H' R, Same H H' → GraphAt H' R (ordB bk) → Q (.ref R) H'
/-- where a word leads -/
def nextT (ts : List (Str × Str)) (x : Str) : Option Str := (ts.find? fun t => decide (t.1 = x)).map (·.2)
def walkB (bk : Bk) : Str → List Str → Option Str
  | s, [] => some s
  | s, x :: r => match nextT (rowOf bk s).2 x with
    | none => none
    | some g => walkB bk g r
def optV : Option Str → V
  | none => .non
  | some s => .str s
theorem nextT_none {ts : List (Str × Str)} {x : Str} : nextT ts x = none ↔ x ∉ ts.map (·.1) := by
  constructor
  · intro h m
    obtain ⟨t, e, _⟩ := find_some m
    rw [nextT, e] at h; cases h
  · intro h
    cases e : nextT ts x with
    | none => rfl
    | some g =>
      obtain ⟨t, e1, _⟩ := Option.map_eq_some_iff.mp e
      have e2 := List.find?_some e1
      exact absurd (List.mem_map.mpr ⟨t, List.mem_of_find?_eq_some e1, of_decide_eq_true e2⟩) h
theorem nextT_ord (ts : List (Str × Str)) (x : Str) : nextT (ordT ts) x = nextT ts x := by
  by_cases h : x ∈ ts.map (·.1)
  · have h' : x ∈ (ordT ts).map (·.1) := by rw [ordT_keys]; exact (srt_perm _).mem_iff.mpr h
    have g := goalT_ordT h
    obtain ⟨t, e, _⟩ := find_some h
    obtain ⟨t', e', _⟩ := find_some h'
    rw [goalT, goalT, e, e'] at g
    rw [nextT, nextT, e, e']
    exact congrArg some g
  · have h' : x ∉ (ordT ts).map (·.1) := by rw [ordT_keys]; exact fun z => h ((srt_perm _).mem_iff.mp z)
    rw [nextT_none.mpr h, nextT_none.mpr h']
theorem nextT_mem {ts : List (Str × Str)} {x g : Str} (h : nextT ts x = some g) : ∃ t ∈ ts, t.1 = x ∧ t.2 = g := by
  obtain ⟨t, e1, e2⟩ := Option.map_eq_some_iff.mp h
  have e3 := List.find?_some e1
  exact ⟨t, List.mem_of_find?_eq_some e1, of_decide_eq_true e3, e2⟩
theorem valV_next (ts : List (Str × Str)) (x : Str) : valV (kT ts) (.inr x) = (nextT ts x).map V.str := by
  rw [valV_kT, nextT, Option.map_map]; rfl
theorem rowOf_ord {bk : Bk} (nd : (bk.map (·.1)).Nodup) {s : Str} (h : s ∈ bk.map (·.1)) : rowOf (ordB bk) s = ((rowOf bk s).1, ordT (rowOf bk s).2) := by
  have nd2 : ((ordB bk).map (·.1)).Nodup := by rw [ordB_names]; exact (srt_perm _).nodup_iff.mpr nd
  have hm : (s, (rowOf bk s).1, ordT (rowOf bk s).2) ∈ ordB bk := List.mem_map.mpr ⟨s, (srt_perm _).mem_iff.mpr h, rfl⟩
  exact rowOf_self nd2 hm
theorem row_mem {bk : Bk} {s : Str} (h : s ∈ bk.map (·.1)) : (s, rowOf bk s) ∈ bk := by
  obtain ⟨r, hr, e⟩ := List.mem_map.mp h
  cases z : bk.find? fun r => decide (r.1 = s) with
  | none => exact absurd (decide_eq_true e) (List.find?_eq_none.mp z r hr)
  | some u =>
    have e1 : u.1 = s := of_decide_eq_true (by have := List.find?_some z; exact this)
    have : rowOf bk s = u.2 := by rw [rowOf, z]; rfl
    rw [this, ← e1]
    exact List.mem_of_find?_eq_some z
def spNode : Sp := fun vs H Q _ => ∃ (g L : Addr) (bk : Bk) (st : Str) (way : List Str), vs = [.ref g, .str st, .ref L] ∧ GraphAt H g (ordB bk) ∧ DOk bk st ∧ SL H L way ∧ Q (optV (walkB bk st way)) H
def spIsTalk : Sp := spIsNames
def spNeedT : Sp := fun vs H Q _ => ∃ (L : Addr) (ss : List Str), vs = [.ref L] ∧ SL H L ss ∧ ss.length ≤ 1000 ∧ (∀ x ∈ ss, Wd x) ∧ ∀ H', Same H H' → Q .non H'
def spSB (C : Addr) : Sp := fun vs H Q _ => ∃ (q L : Addr) (bk : Bk) (st : Str) (way : List Str), vs = [.ref q, .ref L] ∧ DeskAt C H q bk st ∧ DOk bk st ∧ SL H L way ∧ way.length ≤ 1000 ∧ (∀ x ∈ way, Wd x) ∧ ∀ H', Same H H' → Q (optV (walkB bk st way)) H'
section
variable {P : Program} {w : World} {K : PySem.W.Frag} {mg : Str → Option Value} {base : Heap}
theorem scNd : FnScope ["desk"] ["desk"] (defScope sNeed) := ⟨rfl, rfl, rfl, by decide +kernel, rfl, by decide +kernel, by decide +kernel⟩
theorem ok_need {f C : Addr} {fd : FuncData} (F : Fun K "need_desk" "need_desk" sNeed f fd) (T : Free3 mg) (D : DTxt K mg C) (c : C8.InsC K C) : FnOk P w K mg base CX0 1 f fd ["desk"] (spNeed C) := by
  refine F.ok scNd (fun vs H Q E h => ?_) (fun cdv A outer s H vs Q E hr h => ?_)
  · obtain ⟨q, dx, fs, rfl, _⟩ := h; rfl
  · obtain ⟨q, dx, fs, rfl, hq, k⟩ := h
    refine ⟨_, pss_one (ps_if (pt_not (pt_val (pe_callB (C8.call_isC c) (by rfl) T.isi (by decide +kernel) (pa_cons (pv 0) (pa_cons (pe_glob (v := .ref C) rfl D.mgC rfl) pa_nil))))) (pss_one ps_never) pss_nil), ?_⟩
    exact ⟨_, rfl, q, dx, fs, rfl, hq, _, rfl, iteF k⟩
abbrev CNode (P : Program) (w : World) (K : PySem.W.Frag) (mg : Str → Option Value) (base : Heap) := Cal P w K mg base "node_behind" 1 ["graph", "start", "way"] spNode
theorem scNo : FnScope ["graph", "start", "way", "node", "word"] ["graph", "start", "way"] (defScope sNode) := ⟨rfl, rfl, rfl, by decide +kernel, rfl, by decide +kernel, by decide +kernel⟩
theorem ok_node {f : Addr} {fd : FuncData} (F : Fun K "node_behind" "node_behind" sNode f fd) : FnOk P w K mg base CX0 1 f fd ["graph", "start", "way"] spNode := by
  refine F.ok scNo (fun vs H Q E h => ?_) (fun cdv A outer s H vs Q E hr h => ?_)
  · obtain ⟨g, L, bk, st, way, rfl, _⟩ := h; rfl
  · obtain ⟨g, L, bk, st, way, rfl, ⟨kvs, hg, hG⟩, ok, hL, k⟩ := h
    have hu := hu_of hr
    refine ⟨_, pss_cons (ps_set (i := 3) scNo.nd rfl (Or.inl rfl) (pv 1))
      (pss_cons (ps_for PassesOwn.never rfl (pi_list (pv 2)) (pg_name (i := 4) scNo.nd rfl (Or.inl rfl))
        (pss_cons (ps_if (pt_cmp (pc_dnotin hu (pv 4) (pe_dget hu (pv 0) (pv 3) (fun _ _ => rfl))) rfl) (pss_one (ps_ret pe_non)) pss_nil)
        (pss_one (ps_set (i := 3) scNo.nd rfl (Or.inl rfl) (pe_dget hu (pe_dget hu (pv 0) (pv 3) (fun _ _ => rfl)) (pv 4) (fun _ _ => rfl))))))
      (pss_one (ps_ret (pv 3)))), ?_⟩
    refine ⟨_, rfl, _, rfl, L, rfl, ⟨_, hL.sq⟩, ?_⟩
    refine for_list (K := K) (a := L) (xs := way.map V.str) (fun i σ H' => ∃ (v : Option V) (node : Str), σ = [some (.ref g), some (.str st), some (.ref L), some (.str node), v] ∧ H' = H ∧ node ∈ bk.map (·.1) ∧ walkB bk node (way.drop i) = walkB bk st way) ⟨none, st, rfl, rfl, ok.st, rfl⟩ (fun i σ H' _ ⟨_, _, _, e, _⟩ => by rw [e]; exact hL.sq) ?_ ?_
    · rintro i x σ H' hx ⟨v, node, rfl, rfl, hn, ew⟩
      obtain ⟨z, hz, rfl⟩ := get_map hx
      have hi : i < way.length := (List.getElem?_eq_some_iff.mp hz).1
      have hd : way.drop i = z :: way.drop (i + 1) := by
        rw [List.drop_eq_getElem_cons hi]
        congr 1
        rw [List.getElem?_eq_getElem hi] at hz
        exact Option.some.inj hz
      have hn2 : node ∈ (ordB bk).map (·.1) := by rw [ordB_names]; exact (srt_perm _).mem_iff.mpr hn
      obtain ⟨a, e1, ha⟩ := hG.look hn2
      rw [rowOf_ord ok.nd hn] at ha
      have ha : TurnsAt H' a (ordT (rowOf bk node).2) := ha
      have d1 : DGet H' g (V.str node) (some (.ref a)) := .inl ⟨kvs, .inr node, .inl hg, rfl, e1.symm⟩
      have d2 : DGet H' a (V.str z) ((nextT (rowOf bk node).2 z).map V.str) := .inl ⟨_, .inr z, .inl ha, rfl, by rw [valV_next, nextT_ord]⟩
      rw [hd] at ew
      refine ⟨_, rfl, _, rfl, _, rfl, g, _, rfl, d1, a, _, rfl, d2, _, rfl, ?_⟩
      cases en : nextT (rowOf bk node).2 z with
      | none =>
        rw [walkB, en] at ew
        refine iteT ?_
        show Q .non H'
        have k' := k
        rw [← ew] at k'
        exact k'
      | some gg =>
        rw [walkB, en] at ew
        rw [en] at d2
        refine iteF ⟨_, rfl, _, rfl, g, _, rfl, d1, _, rfl, a, _, rfl, d2, ?_⟩
        obtain ⟨t, ht, _, e3⟩ := nextT_mem en
        refine ⟨_, gg, rfl, rfl, ?_, ew⟩
        rw [← e3]
        exact (ok.rs _ (row_mem hn)).2.2 t ht
    · rintro σ H' ⟨v, node, rfl, rfl, hn, ew⟩
      rw [List.length_map, List.drop_length] at ew
      refine ⟨_, rfl, ?_⟩
      rw [← ew] at k
      exact k
end
end D1
end L2
/-! graph_of, is_talk, need_talk, done_states, state_behind, is_whole -/
namespace L2
namespace D1
open PySem PySem.Spec PyProof.Rows
theorem Rows.at {H : Hp} {kvs : List (Key × V)} {bk : Bk} (h : Rows H kvs bk) : ∀ {i : Nat} {k : Key} {v : V}, kvs[i]? = some (k, v) → ∃ r, bk[i]? = some r ∧ k = Sum.inr r.1 ∧ RowAt H v r.2.1 r.2.2 := by
  unfold Rows at h
  induction h with
  | nil => intro i k v e; simp at e
  | @cons x r kvs bk h1 _ ih =>
    intro i k v e
    cases i with
    | zero => cases e; exact ⟨r, rfl, h1.1, h1.2⟩
    | succ i => exact ih e
abbrev sWhole : Stmt := top 30
def isDone (r : RowD) : Bool := decide (r.2.1 = "done")
def spDone (C : Addr) : Sp := fun vs H Q _ => ∃ (q : Addr) (bk : Bk) (st : Str), vs = [.ref q] ∧ DeskAt C H q bk st ∧ DOk bk st ∧ ∀ H' R, Same H H' → SL H' R (((ordB bk).filter isDone).map (·.1)) → Q (.ref R) H'
/-- whether a talk leads to an end -/
def wholeB (bk : Bk) (st : Str) (way : List Str) : Bool := match walkB bk st way with
  | none => false
  | some s => decide ((rowOf bk s).1 = "done")
def spWhole (C : Addr) : Sp := fun vs H Q _ => ∃ (q L : Addr) (bk : Bk) (st : Str) (way : List Str), vs = [.ref q, .ref L] ∧ DeskAt C H q bk st ∧ DOk bk st ∧ SL H L way ∧ way.length ≤ 1000 ∧ (∀ x ∈ way, Wd x) ∧ ∀ H', Same H H' → Q (.bl (wholeB bk st way)) H'
theorem DOk.ond {bk : Bk} {st : Str} (h : DOk bk st) : ((ordB bk).map (·.1)).Nodup := by rw [ordB_names]; exact (srt_perm _).nodup_iff.mpr h.nd
theorem ordB_ne {bk : Bk} (h : bk ≠ []) : ordB bk ≠ [] := fun e => by
  have := ordB_len bk
  rw [e] at this
  exact h (List.length_eq_zero_iff.mp this.symm)
theorem walk_mem {bk : Bk} {st0 : Str} (ok : DOk bk st0) : ∀ {way : List Str} {st s : Str}, st ∈ bk.map (·.1) → walkB bk st way = some s → s ∈ bk.map (·.1)
  | [], st, s, h, e => by cases e; exact h
  | x :: r, st, s, h, e => by
    rw [walkB] at e
    cases en : nextT (rowOf bk st).2 x with
    | none => rw [en] at e; cases e
    | some g =>
      rw [en] at e
      obtain ⟨t, ht, _, e3⟩ := nextT_mem en
      exact walk_mem ok (by rw [← e3]; exact (ok.rs _ (row_mem h)).2.2 t ht) e
section
variable {P : Program} {w : World} {K : PySem.W.Frag} {mg : Str → Option Value} {base : Heap} {C : Addr}
abbrev CMBook (P : Program) (w : World) (K : PySem.W.Frag) (mg : Str → Option Value) (base : Heap) (C : Addr) := CalM P w K mg base C "book" 3 ["self"] (spDBook C)
abbrev CMStart (P : Program) (w : World) (K : PySem.W.Frag) (mg : Str → Option Value) (base : Heap) (C : Addr) := CalM P w K mg base C "start" 1 ["self"] (spDStart C)
abbrev CNeed (P : Program) (w : World) (K : PySem.W.Frag) (mg : Str → Option Value) (base : Heap) (C : Addr) := Cal P w K mg base "need_desk" 1 ["desk"] (spNeed C)
abbrev CGraph (P : Program) (w : World) (K : PySem.W.Frag) (mg : Str → Option Value) (base : Heap) (C : Addr) := Cal P w K mg base "graph_of" 4 ["desk"] (spGraph C)
abbrev CIsTalk (P : Program) (w : World) (K : PySem.W.Frag) (mg : Str → Option Value) (base : Heap) := Cal P w K mg base "is_talk" 3 ["value"] spIsTalk
abbrev CNeedT (P : Program) (w : World) (K : PySem.W.Frag) (mg : Str → Option Value) (base : Heap) := Cal P w K mg base "need_talk" 4 ["talk"] spNeedT
abbrev CIsNames (P : Program) (w : World) (K : PySem.W.Frag) (mg : Str → Option Value) (base : Heap) := Cal P w K mg base "is_names" 2 ["value"] spIsNames
theorem scGr : FnScope ["desk", "book", "state"] ["desk"] (defScope sGraph) := ⟨rfl, rfl, rfl, by decide +kernel, rfl, by decide +kernel, by decide +kernel⟩
theorem ok_graph {f : Addr} {fd : FuncData} (F : Fun K "graph_of" "graph_of" sGraph f fd) (D : DTxt K mg C) (MB : CMBook P w K mg base C) : FnOk P w K mg base CX0 4 f fd ["desk"] (spGraph C) := by
  obtain ⟨fB, fdB, mB, FB, bB⟩ := MB.ex
  refine F.ok scGr (fun vs H Q E h => ?_) (fun cdv A outer s H vs Q E hr h => ?_)
  · obtain ⟨q, bk, st, rfl, _⟩ := h; rfl
  · obtain ⟨q, bk, st, rfl, hq, ok, k⟩ := h
    have hu := hu_of hr
    refine ⟨_, pss_cons (ps_set (i := 1) scGr.nd rfl (Or.inr rfl) (pe_meth0 (pv 0) D.cl mB FB (hr.mono (by decide)) bB .nil pass0))
      (pss_one (ps_ret (pe_lock (pe_dc (own := [("state", 2)]) (g := gName 2) (tt := tYes) (tk := tVar 2) (tv := tOp (rIxT K) (tDGet (tVar 1) (tVar 2)) (tC (.int 1))) rfl scGr.nd (pi_keys (pv 1))
        (blkOk_by (N := ["desk", "book", "state"]) (sc := defScope sGraph) (by decide +kernel)) (fun _ _ _ _ _ => pg_name (i := 2) scGr.nd rfl (Or.inl rfl)) (fun _ _ _ _ _ => pts_nil) (fun _ _ _ _ _ => pv 2)
        (fun _ _ _ _ _ => pe_ix ix_tup (pe_dget hu (pv 1) (pv 2) (fun _ _ => rfl)) pe_int (fun _ _ => rfl)))))), ?_⟩
    obtain ⟨dx, b0, e0, hb0⟩ := id hq
    refine ⟨_, rfl, q, dx, _, rfl, e0, dflds_no _ _ (by decide +kernel) (by decide +kernel), q, bk, st, rfl, hq, ok, fun H1 B s1 hB ⟨kvs, hk, hR⟩ => ?_⟩
    refine ⟨B, _, hk, trivial, fun od => ?_⟩
    refine ⟨_, rfl, B, od, rfl, .inl ⟨kvs, upd_same, fun D hD => ?_⟩⟩
    have nD : B ≠ D := fun e => by rw [← e, upd_same] at hD; cases hD
    have hD0 := upd_none' hD
    have hRL := hR.lock (o := .frz od (.dK kvs)) hk (ordB_ne ok.ne)
    refine dc_it (walk_keys (d := B) (o := od) (kvs := kvs)) (fun i H' => Same (L2.upd H1 B (.frz od (.dK kvs))) H' ∧ ∃ kv2, H' D = some (.dK kv2) ∧ GRows H1 kv2 ((ordB bk).take i)) ⟨Same.new hD, [], upd_same, .nil⟩ (fun i H' _ z => z.1 _ _ upd_same) ?_ ?_
    · rintro i x H2 H3 hi ⟨sm, kv2, hk2, hG⟩ ⟨rfl, kk, v0, hkv, rfl⟩
      obtain ⟨r, hr', rfl, _⟩ := hR.at hkv
      have hrm : r ∈ ordB bk := List.mem_of_getElem? hr'
      have hs : r.1 ∈ (ordB bk).map (·.1) := List.mem_map_of_mem hrm
      obtain ⟨v, ev, ⟨t, a, rfl, ht, ha⟩, _⟩ := hR.look hs
      obtain ⟨v', ev', hrow', _⟩ := hRL.look hs
      rw [ev] at ev'
      cases ev'
      obtain ⟨t', a', et, ht', ha'⟩ := hrow'
      cases et
      have ht2 := sm _ _ ht'
      rw [rowOf_self ok.ond hrm] at ht ha ht2 ha' ht'
      have ea : a' = a := by
        have nt : t ≠ B := fun e => by rw [e, hk] at ht; cases ht
        rw [upd_ne nt, ht] at ht'
        have := HO.tup.inj (Option.some.inj ht')
        injection this with _ h2
        injection h2 with h3
        injection h3 with h4
        exact h4.symm
      subst ea
      refine ⟨rfl, ?_⟩
      dsimp only [tYes]
      rw [if_pos rfl]
      have hn : (Sum.inr r.1 : Key) ∉ kv2.map (·.1) := fun hm => by
        rw [hG.keys] at hm
        obtain ⟨r2, hr2, e2⟩ := List.mem_map.mp hm
        have e2 : r2.1 = r.1 := Sum.inr.inj e2
        obtain ⟨m, hm1, hm2⟩ := List.mem_take_iff_getElem.mp hr2
        have h1 : ((ordB bk).map (·.1))[m]? = some r.1 := by rw [List.getElem?_map, List.getElem?_eq_getElem (by omega), hm2, ← e2]; rfl
        have h2 : ((ordB bk).map (·.1))[i]? = some r.1 := by rw [List.getElem?_map, hr']; rfl
        have hil : i < (ordB bk).length := (List.getElem?_eq_some_iff.mp hr').1
        have := (List.getElem?_inj (by rw [List.length_map]; omega) ok.ond).mp (h1.trans h2.symm)
        omega
      have l2 : kv2.length ≤ 60 := by
        have := congrArg List.length hG.keys
        rw [List.length_map, List.length_map, List.length_take, ordB_len] at this
        have := ok.len; omega
      refine ⟨_, rfl, _, rfl, _, rfl, B, _, rfl, .inl ⟨kvs, .inr r.1, .inr ⟨od, sm _ _ upd_same⟩, rfl, ev.symm⟩, t, _, _, _, rfl, rfl, SqT.of ht2, atI_nat (j := 1) rfl, kv2, .inr r.1, rfl, hk2, by rw [sizeLine_eq]; omega, ?_, _, upd_same, ?_⟩
      · intro c u e
        rw [upd_ne (ne_of_none e hD)]; exact sm _ _ e
      · rw [putK_new hn, take_succ_get hr']
        exact hG.app ha
    · rintro H2 ⟨sm, kv2, hk2, hG⟩
      have hl : kvs.length = (ordB bk).length := hR.len
      rw [hl, List.take_length] at hG
      have su := Same.unlock hk sm
      exact ⟨sm _ _ upd_same, k _ D (Same.trans s1 su) ⟨kv2, by rw [upd_ne nD.symm]; exact hk2, hG.same su⟩⟩
theorem scIt : FnScope ["value"] ["value"] (defScope sIsTalk) := ⟨rfl, rfl, rfl, by decide +kernel, rfl, by decide +kernel, by decide +kernel⟩
theorem ok_istalk {f : Addr} {fd : FuncData} (F : Fun K "is_talk" "is_talk" sIsTalk f fd) (CN : CIsNames P w K mg base) : FnOk P w K mg base CX0 3 f fd ["value"] spIsTalk := by
  refine F.ok scIt (fun vs H Q E h => ?_) (fun cdv A outer s H vs Q E hr h => ?_)
  · obtain ⟨L, ss, rfl, _⟩ := h; rfl
  · obtain ⟨L, ss, rfl, k⟩ := h
    exact ⟨_, pss_one (ps_ret (pe_cal CN (hr.mono (by decide)) rfl (pa_cons (pv 0) pa_nil))), _, rfl, L, ss, rfl, k⟩
theorem scNt : FnScope ["talk"] ["talk"] (defScope sNeedT) := ⟨rfl, rfl, rfl, by decide +kernel, rfl, by decide +kernel, by decide +kernel⟩
theorem ok_needt {f : Addr} {fd : FuncData} (F : Fun K "need_talk" "need_talk" sNeedT f fd) (CT : CIsTalk P w K mg base) : FnOk P w K mg base CX0 4 f fd ["talk"] spNeedT := by
  refine F.ok scNt (fun vs H Q E h => ?_) (fun cdv A outer s H vs Q E hr h => ?_)
  · obtain ⟨L, ss, rfl, _⟩ := h; rfl
  · obtain ⟨L, ss, rfl, hL, ll, aw, k⟩ := h
    refine ⟨_, pss_one (ps_if (pt_not (pt_val (pe_cal CT (hr.mono (by decide)) rfl (pa_cons (pv 0) pa_nil)))) (pss_one ps_never) pss_nil), ?_⟩
    exact ⟨_, rfl, L, ss, rfl, hL, ll, aw, fun H1 s1 => ⟨_, rfl, iteF (k H1 s1)⟩⟩
theorem scSb : FnScope ["desk", "talk"] ["desk", "talk"] (defScope sSB) := ⟨rfl, rfl, rfl, by decide +kernel, rfl, by decide +kernel, by decide +kernel⟩
theorem ok_sb {f : Addr} {fd : FuncData} (F : Fun K "state_behind" "state_behind" sSB f fd) (D : DTxt K mg C) (MS : CMStart P w K mg base C) (CN : CNeed P w K mg base C) (CT : CNeedT P w K mg base) (CG : CGraph P w K mg base C) (CO : CNode P w K mg base) : FnOk P w K mg base CX0 5 f fd ["desk", "talk"] (spSB C) := by
  obtain ⟨fS, fdS, mS, FS, bS⟩ := MS.ex
  refine F.ok scSb (fun vs H Q E h => ?_) (fun cdv A outer s H vs Q E hr h => ?_)
  · obtain ⟨q, L, bk, st, way, rfl, _⟩ := h; rfl
  · obtain ⟨q, L, bk, st, way, rfl, hq, ok, hL, ll, aw, k⟩ := h
    refine ⟨_, pss_cons (ps_expr (pe_cal CN (hr.mono (by decide)) rfl (pa_cons (pv 0) pa_nil)))
      (pss_cons (ps_expr (pe_cal CT (hr.mono (by decide)) rfl (pa_cons (pv 1) pa_nil)))
      (pss_one (ps_ret (pe_cal CO (hr.mono (by decide)) rfl (pa_cons (pe_cal CG (hr.mono (by decide)) rfl (pa_cons (pv 0) pa_nil)) (pa_cons (pe_meth0 (pv 0) D.cl mS FS (hr.mono (by decide)) bS .nil pass0) (pa_cons (pv 1) pa_nil))))))), ?_⟩
    obtain ⟨dx, b0, e0, hb0⟩ := id hq
    refine ⟨_, rfl, q, dx, _, rfl, e0, _, rfl, L, way, rfl, hL, ll, aw, fun H1 s1 => ?_⟩
    refine ⟨_, rfl, q, bk, st, rfl, hq.same s1, ok, fun H2 G s2 hG => ?_⟩
    have s12 := Same.trans s1 s2
    refine ⟨_, rfl, q, dx, _, rfl, s12 _ _ e0, dflds_no _ _ (by decide +kernel) (by decide +kernel), q, bk, st, rfl, hq.same s12, _, rfl, G, L, bk, st, way, rfl, hG, ok, hL.same s12, k H2 s12⟩
end
end D1
end L2
/-! done_states, is_whole; state_had, turns_behind, spoken of talks that a desk has -/
namespace L2
namespace D1
open PySem PySem.Spec PyProof.Rows
abbrev sHad : Stmt := top 27
abbrev sTB : Stmt := top 28
abbrev sSpoken : Stmt := top 29
def spHad (C : Addr) : Sp := fun vs H Q _ => ∃ (q L : Addr) (bk : Bk) (st s : Str) (way : List Str), vs = [.ref q, .ref L] ∧ DeskAt C H q bk st ∧ DOk bk st ∧ SL H L way ∧ way.length ≤ 1000 ∧ (∀ x ∈ way, Wd x) ∧ walkB bk st way = some s ∧ ∀ H', Same H H' → Q (.str s) H'
def keysO (ts : List (Str × Str)) : List Str := srt (ts.map (·.1))
def spTB (C : Addr) : Sp := fun vs H Q _ => ∃ (q L : Addr) (bk : Bk) (st s : Str) (way : List Str), vs = [.ref q, .ref L] ∧ DeskAt C H q bk st ∧ DOk bk st ∧ SL H L way ∧ way.length ≤ 1000 ∧ (∀ x ∈ way, Wd x) ∧ walkB bk st way = some s ∧
  ∀ (H' : Hp) (R M : Addr), Same H H' → H R = none → H M = none → H' R = some (.tup [.str (rowOf bk s).1, .ref M]) → SL H' M (keysO (rowOf bk s).2) → Q (.ref R) H'
/-- who says each word of a talk -/
def spokenB (bk : Bk) : Str → List Str → List (Str × Str)
  | _, [] => []
  | s, x :: r => ((rowOf bk s).1, x) :: spokenB bk (goalT (rowOf bk s).2 x) r
def PairsAt (H : Hp) (R : Addr) (ps : List (Str × Str)) : Prop := ∃ ts : List Addr, H R = some (.lst (ts.map V.ref)) ∧ Paired (fun t (p : Str × Str) => H t = some (.tup [.str p.1, .str p.2])) ts ps
def spSpoken (C : Addr) : Sp := fun vs H Q _ => ∃ (q L : Addr) (bk : Bk) (st s : Str) (way : List Str), vs = [.ref q, .ref L] ∧ DeskAt C H q bk st ∧ DOk bk st ∧ SL H L way ∧ way.length ≤ 1000 ∧ (∀ x ∈ way, Wd x) ∧ walkB bk st way = some s ∧
  ∀ (H' : Hp) (R : Addr), Same H H' → H R = none → PairsAt H' R (spokenB bk st way) → Q (.ref R) H'
theorem next_goal {ts : List (Str × Str)} {x g : Str} (h : nextT ts x = some g) : goalT ts x = g := by
  obtain ⟨t, e1, e2⟩ := Option.map_eq_some_iff.mp h
  rw [goalT, e1]; exact e2
theorem prs_same {H H' : Hp} {ts : List Addr} {ps : List (Str × Str)} (h : Paired (fun t (p : Str × Str) => H t = some (.tup [.str p.1, .str p.2])) ts ps) (s : Same H H') : Paired (fun t (p : Str × Str) => H' t = some (.tup [.str p.1, .str p.2])) ts ps := by
  induction h with
  | nil => exact .nil
  | cons a b ih => exact .cons (s _ _ a) ih
theorem prs_app {H : Hp} {ts : List Addr} {ps : List (Str × Str)} {t : Addr} {p : Str × Str} (h : Paired (fun t (p : Str × Str) => H t = some (.tup [.str p.1, .str p.2])) ts ps) (e : H t = some (.tup [.str p.1, .str p.2])) : Paired (fun t (p : Str × Str) => H t = some (.tup [.str p.1, .str p.2])) (ts ++ [t]) (ps ++ [p]) := by
  induction h with
  | nil => exact .cons e .nil
  | cons a b ih => exact .cons a ih
theorem prs_len {H : Hp} {ts : List Addr} {ps : List (Str × Str)} (h : Paired (fun t (p : Str × Str) => H t = some (.tup [.str p.1, .str p.2])) ts ps) : ts.length = ps.length := by
  induction h with
  | nil => rfl
  | cons a b ih => rw [List.length_cons, List.length_cons, ih]
section
variable {P : Program} {w : World} {K : PySem.W.Frag} {mg : Str → Option Value} {base : Heap} {C : Addr}
abbrev CSB (P : Program) (w : World) (K : PySem.W.Frag) (mg : Str → Option Value) (base : Heap) (C : Addr) := Cal P w K mg base "state_behind" 5 ["desk", "talk"] (spSB C)
abbrev CDone (P : Program) (w : World) (K : PySem.W.Frag) (mg : Str → Option Value) (base : Heap) (C : Addr) := Cal P w K mg base "done_states" 4 ["desk"] (spDone C)
abbrev CHad (P : Program) (w : World) (K : PySem.W.Frag) (mg : Str → Option Value) (base : Heap) (C : Addr) := Cal P w K mg base "state_had" 6 ["desk", "talk"] (spHad C)
theorem scDn : FnScope ["desk", "book", "state"] ["desk"] (defScope sDone) := ⟨rfl, rfl, rfl, by decide +kernel, rfl, by decide +kernel, by decide +kernel⟩
theorem ok_done {f : Addr} {fd : FuncData} (F : Fun K "done_states" "done_states" sDone f fd) (D : DTxt K mg C) (MB : CMBook P w K mg base C) : FnOk P w K mg base CX0 4 f fd ["desk"] (spDone C) := by
  obtain ⟨fB, fdB, mB, FB, bB⟩ := MB.ex
  refine F.ok scDn (fun vs H Q E h => ?_) (fun cdv A outer s H vs Q E hr h => ?_)
  · obtain ⟨q, bk, st, rfl, _⟩ := h; rfl
  · obtain ⟨q, bk, st, rfl, hq, ok, k⟩ := h
    have hu := hu_of hr
    refine ⟨_, pss_cons (ps_set (i := 1) scDn.nd rfl (Or.inr rfl) (pe_meth0 (pv 0) D.cl mB FB (hr.mono (by decide)) bB .nil pass0))
      (pss_one (ps_ret (pe_lock (pe_lc (own := [("state", 2)]) (g := gName 2) (tt := tTest (tOp rEq (tOp (rIxT K) (tDGet (tVar 1) (tVar 2)) (tC (.int 0))) (tC (.str "done")))) (te := tVar 2) rfl scDn.nd (pi_keys (pv 1))
        (blkOk_by (N := ["desk", "book", "state"]) (sc := defScope sDone) (by decide +kernel)) (fun _ _ _ _ _ => pg_name (i := 2) scDn.nd rfl (Or.inl rfl)) (fun _ _ _ _ _ => pts_one (pt_cmpR op_eq (pe_ix ix_tup (pe_dget hu (pv 1) (pv 2) (fun _ _ => rfl)) pe_int (fun _ _ => rfl)) pe_str (nomark _)))
        (fun _ _ _ _ _ => pv 2))))), ?_⟩
    obtain ⟨dx, b0, e0, hb0⟩ := id hq
    refine ⟨_, rfl, q, dx, _, rfl, e0, dflds_no _ _ (by decide +kernel) (by decide +kernel), q, bk, st, rfl, hq, ok, fun H1 B s1 hB ⟨kvs, hk, hR⟩ => ?_⟩
    refine ⟨B, _, hk, trivial, fun od => ?_⟩
    refine ⟨_, rfl, B, od, rfl, .inl ⟨kvs, upd_same, fun D hD => ?_⟩⟩
    have nD : B ≠ D := fun e => by rw [← e, upd_same] at hD; cases hD
    have hRL := hR.lock (o := .frz od (.dK kvs)) hk (ordB_ne ok.ne)
    refine lc_it (walk_keys (d := B) (o := od) (kvs := kvs)) (fun i H' => Same (L2.upd H1 B (.frz od (.dK kvs))) H' ∧ SL H' D ((((ordB bk).take i).filter isDone).map (·.1))) ⟨Same.new hD, by rw [SL, upd_same]; rfl⟩ (fun i H' _ z => z.1 _ _ upd_same) ?_ ?_
    · rintro i x H2 H3 hi ⟨sm, hl⟩ ⟨rfl, kk, v0, hkv, rfl⟩
      obtain ⟨r, hr', rfl, _⟩ := hR.at hkv
      have hrm : r ∈ ordB bk := List.mem_of_getElem? hr'
      have hs : r.1 ∈ (ordB bk).map (·.1) := List.mem_map_of_mem hrm
      obtain ⟨v', ev', ⟨t, a, rfl, ht, ha⟩, _⟩ := (hRL.same sm).look hs
      rw [rowOf_self ok.ond hrm] at ht
      have hil : i < (ordB bk).length := (List.getElem?_eq_some_iff.mp hr').1
      have lo := ordB_len bk
      have lb := ok.len
      refine ⟨rfl, _, rfl, _, rfl, B, _, rfl, .inl ⟨kvs, .inr r.1, .inr ⟨od, sm _ _ upd_same⟩, rfl, ev'.symm⟩, t, _, _, _, rfl, rfl, SqT.of ht, atI_nat (j := 0) rfl, rfl, _, rfl, ?_⟩
      by_cases c : r.2.1 = "done"
      · have e1 : decide (V.str r.2.1 = V.str "done") = true := decide_eq_true (by rw [c])
        have e2 : isDone r = true := decide_eq_true c
        rw [e1]
        refine iteT ⟨_, rfl, _, hl, ?_, ?_, ?_⟩
        · rw [List.length_map, List.length_map, sizeLine_eq]
          refine Nat.lt_of_le_of_lt (List.length_filter_le _ _) ?_
          rw [List.length_take]; omega
        · intro c u e
          rw [upd_ne (ne_of_none e hD)]; exact sm _ _ e
        · rw [SL, upd_same, filt_yes hr' e2, List.map_append, List.map_append]; rfl
      · have e1 : decide (V.str r.2.1 = V.str "done") = false := decide_eq_false fun e => c (by injection e)
        have e2 : isDone r = false := decide_eq_false c
        rw [e1]
        refine iteF ⟨sm, ?_⟩
        rw [filt_no hr' e2]; exact hl
    · rintro H2 ⟨sm, hl⟩
      have hlen : kvs.length = (ordB bk).length := hR.len
      rw [hlen, List.take_length] at hl
      have su := Same.unlock hk sm
      exact ⟨sm _ _ upd_same, k _ D (Same.trans s1 su) (by rw [SL, upd_ne nD.symm]; exact hl)⟩
theorem scWh : FnScope ["desk", "talk"] ["desk", "talk"] (defScope sWhole) := ⟨rfl, rfl, rfl, by decide +kernel, rfl, by decide +kernel, by decide +kernel⟩
theorem inV_opt (o : Option Str) (ss : List Str) : inV (optV o) (ss.map V.str) = match o with | none => false | some s => decide (s ∈ ss) := by
  cases o with
  | some s => exact inV_str s ss
  | none =>
    show (ss.map V.str).any (fun y => eqV y .non) = false
    induction ss with
    | nil => rfl
    | cons a r ih => rw [List.map_cons, List.any_cons, ih]; rfl
theorem done_mem {bk : Bk} {st s : Str} (ok : DOk bk st) (h : s ∈ bk.map (·.1)) : (s ∈ ((ordB bk).filter isDone).map (·.1)) ↔ (rowOf bk s).1 = "done" := by
  constructor
  · intro m
    obtain ⟨r, hr, e⟩ := List.mem_map.mp m
    obtain ⟨h1, h2⟩ := List.mem_filter.mp hr
    have e1 := rowOf_self ok.ond h1
    rw [e, rowOf_ord ok.nd h] at e1
    have e2 : r.2.1 = "done" := of_decide_eq_true h2
    rw [← e1] at e2
    exact e2
  · intro e
    have hm : (s, (rowOf bk s).1, ordT (rowOf bk s).2) ∈ ordB bk := List.mem_map.mpr ⟨s, (srt_perm _).mem_iff.mpr h, rfl⟩
    exact List.mem_map.mpr ⟨_, List.mem_filter.mpr ⟨hm, decide_eq_true e⟩, rfl⟩
theorem ok_whole {f : Addr} {fd : FuncData} (F : Fun K "is_whole" "is_whole" sWhole f fd) (CS : CSB P w K mg base C) (CD : CDone P w K mg base C) : FnOk P w K mg base CX0 6 f fd ["desk", "talk"] (spWhole C) := by
  refine F.ok scWh (fun vs H Q E h => ?_) (fun cdv A outer s H vs Q E hr h => ?_)
  · obtain ⟨q, L, bk, st, way, rfl, _⟩ := h; rfl
  · obtain ⟨q, L, bk, st, way, rfl, hq, ok, hL, ll, aw, k⟩ := h
    refine ⟨_, pss_one (ps_ret (pe_cmpR op_in_seq (pe_cal CS (hr.mono (by decide)) rfl (pa_cons (pv 0) (pa_cons (pv 1) pa_nil))) (pe_cal CD (hr.mono (by decide)) rfl (pa_cons (pv 0) pa_nil)) rfl)), ?_⟩
    refine ⟨_, rfl, _, rfl, q, L, bk, st, way, rfl, hq, ok, hL, ll, aw, fun H1 s1 => ?_⟩
    refine ⟨_, rfl, q, bk, st, rfl, hq.same s1, ok, fun H2 R s2 hR => ?_⟩
    refine ⟨R, _, rfl, .inl hR.sq, ?_, flat_strs _, ?_⟩
    · cases walkB bk st way <;> rfl
    rw [if_neg (by decide), inV_opt]
    have e : (match walkB bk st way with | none => false | some s => decide (s ∈ ((ordB bk).filter isDone).map (·.1))) = wholeB bk st way := by
      unfold wholeB
      cases e : walkB bk st way with
      | none => rfl
      | some s =>
        have := done_mem ok (walk_mem ok ok.st e)
        by_cases c : (rowOf bk s).1 = "done"
        · show decide _ = decide _
          rw [decide_eq_true c, decide_eq_true (this.mpr c)]
        · show decide _ = decide _
          rw [decide_eq_false c, decide_eq_false fun z => c (this.mp z)]
    rw [e]
    exact k H2 (Same.trans s1 s2)
theorem scHd : FnScope ["desk", "talk", "state"] ["desk", "talk"] (defScope sHad) := ⟨rfl, rfl, rfl, by decide +kernel, rfl, by decide +kernel, by decide +kernel⟩
theorem ok_had {f : Addr} {fd : FuncData} (F : Fun K "state_had" "state_had" sHad f fd) (CS : CSB P w K mg base C) : FnOk P w K mg base CX0 6 f fd ["desk", "talk"] (spHad C) := by
  refine F.ok scHd (fun vs H Q E h => ?_) (fun cdv A outer s H vs Q E hr h => ?_)
  · obtain ⟨q, L, bk, st, s, way, rfl, _⟩ := h; rfl
  · obtain ⟨q, L, bk, st, s0, way, rfl, hq, ok, hL, ll, aw, ew, k⟩ := h
    refine ⟨_, pss_cons (ps_set (i := 2) scHd.nd rfl (Or.inl rfl) (pe_cal CS (hr.mono (by decide)) rfl (pa_cons (pv 0) (pa_cons (pv 1) pa_nil))))
      (pss_cons (ps_if (pt_cmp (pc_isN (pv 2)) rfl) (pss_one ps_never) pss_nil)
      (pss_one (ps_ret (pv 2)))), ?_⟩
    refine ⟨_, rfl, _, rfl, q, L, bk, st, way, rfl, hq, ok, hL, ll, aw, fun H1 s1 => ?_⟩
    rw [ew]
    refine ⟨_, rfl, _, rfl, ?_⟩
    have e : decide (V.str s0 = V.non) = false := decide_eq_false fun z => by cases z
    refine (if_neg (by rw [show decide (optV (some s0) = V.non) = false from e]; decide)).mpr ⟨_, rfl, k H1 s1⟩
theorem scTb : FnScope ["desk", "talk", "state", "kind", "turns"] ["desk", "talk"] (defScope sTB) := ⟨rfl, rfl, rfl, by decide +kernel, rfl, by decide +kernel, by decide +kernel⟩
theorem ok_tb {f : Addr} {fd : FuncData} (F : Fun K "turns_behind" "turns_behind" sTB f fd) (T : Free3 mg) (D : DTxt K mg C) (MB : CMBook P w K mg base C) (CH : CHad P w K mg base C) : FnOk P w K mg base CX0 7 f fd ["desk", "talk"] (spTB C) := by
  obtain ⟨fB, fdB, mB, FB, bB⟩ := MB.ex
  refine F.ok scTb (fun vs H Q E h => ?_) (fun cdv A outer s H vs Q E hr h => ?_)
  · obtain ⟨q, L, bk, st, s, way, rfl, _⟩ := h; rfl
  · obtain ⟨q, L, bk, st, s0, way, rfl, hq, ok, hL, ll, aw, ew, k⟩ := h
    have hu := hu_of hr
    refine ⟨_, pss_cons (ps_set (i := 2) scTb.nd rfl (Or.inl rfl) (pe_cal CH (hr.mono (by decide)) rfl (pa_cons (pv 0) (pa_cons (pv 1) pa_nil))))
      (pss_cons (ps_asg (pe_dget hu (pe_meth0 (pv 0) D.cl mB FB (hr.mono (by decide)) bB .nil pass0) (pv 2) (fun _ _ => rfl)) (pg_tup rfl (pgs_cons (pg_name (i := 3) scTb.nd rfl (Or.inl rfl)) (pgs_cons (pg_name (i := 4) scTb.nd rfl (Or.inl rfl)) pgs_nil))))
      (pss_one (ps_ret (pe_tup (pa_cons (pv 3) (pa_cons (pe_callTy (call_listD rfl) (by rfl) T.list (by decide +kernel) (pa_cons (pv 4) pa_nil)) pa_nil)))))), ?_⟩
    refine ⟨_, rfl, _, rfl, q, L, bk, st, s0, way, rfl, hq, ok, hL, ll, aw, ew, fun H1 s1 => ?_⟩
    obtain ⟨dx, b0, e0, hb0⟩ := hq.same s1
    have hs := walk_mem ok ok.st ew
    refine ⟨_, rfl, q, dx, _, rfl, e0, dflds_no _ _ (by decide +kernel) (by decide +kernel), q, bk, st, rfl, hq.same s1, ok, fun H2 B s2 hB ⟨kvs, hk, hR⟩ => ?_⟩
    obtain ⟨v, ev, ⟨t, a, rfl, ht, ha⟩, _⟩ := hR.look (show s0 ∈ (ordB bk).map (·.1) by rw [ordB_names]; exact (srt_perm _).mem_iff.mpr hs)
    rw [rowOf_ord ok.nd hs] at ht ha
    have ha : TurnsAt H2 a (ordT (rowOf bk s0).2) := ha
    have ht : H2 t = some (.tup [.str (rowOf bk s0).1, .ref a]) := ht
    refine ⟨_, rfl, B, _, rfl, .inl ⟨kvs, .inr s0, .inl hk, rfl, ev.symm⟩, t, _, rfl, SqT.of ht, rfl, _, _, rfl, _, _, rfl, rfl, ?_⟩
    refine ⟨_, rfl, _, rfl, a, _, rfl, .inl ha, fun M hM => ?_⟩
    refine ⟨by show 2 ≤ sizeLine; decide, fun R hR2 => ?_⟩
    have s12 := Same.trans s1 s2
    have nMR : M ≠ R := fun e => by rw [← e, upd_same] at hR2; cases hR2
    have ek : (kT (ordT (rowOf bk s0).2)).map (fun kv => kV kv.1) = (keysO (rowOf bk s0).2).map V.str := by
      rw [keysO, ← ordT_keys, kT, List.map_map, List.map_map]; rfl
    have h0 : ∀ {c : Addr}, H2 c = none → H c = none := fun {c} z => s12.free z
    refine k _ R M (fun c u e => ?_) (h0 (upd_none' hR2)) (h0 hM) upd_same ?_
    · rw [upd_ne (ne_of_none (s12 _ _ e) (upd_none' hR2)), upd_ne (ne_of_none (s12 _ _ e) hM)]; exact s12 _ _ e
    · rw [SL, upd_ne nMR, upd_same, ek]
theorem scSp : FnScope ["desk", "talk", "book", "state", "told", "word", "kind", "turns"] ["desk", "talk"] (defScope sSpoken) := ⟨rfl, rfl, rfl, by decide +kernel, rfl, by decide +kernel, by decide +kernel⟩
theorem ok_spoken {f : Addr} {fd : FuncData} (F : Fun K "spoken" "spoken" sSpoken f fd) (D : DTxt K mg C) (MB : CMBook P w K mg base C) (MS : CMStart P w K mg base C) (CH : CHad P w K mg base C) : FnOk P w K mg base CX0 7 f fd ["desk", "talk"] (spSpoken C) := by
  obtain ⟨fB, fdB, mB, FB, bB⟩ := MB.ex
  obtain ⟨fS, fdS, mS, FS, bS⟩ := MS.ex
  refine F.ok scSp (fun vs H Q E h => ?_) (fun cdv A outer s H vs Q E hr h => ?_)
  · obtain ⟨q, L, bk, st, s, way, rfl, _⟩ := h; rfl
  · obtain ⟨q, L, bk, st, s0, way, rfl, hq, ok, hL, ll, aw, ew, k⟩ := h
    have hu := hu_of hr
    refine ⟨_, pss_cons (ps_expr (pe_cal CH (hr.mono (by decide)) rfl (pa_cons (pv 0) (pa_cons (pv 1) pa_nil))))
      (pss_cons (ps_set (i := 2) scSp.nd rfl (Or.inl rfl) (pe_meth0 (pv 0) D.cl mB FB (hr.mono (by decide)) bB .nil pass0))
      (pss_cons (ps_set (i := 3) scSp.nd rfl (Or.inl rfl) (pe_meth0 (pv 0) D.cl mS FS (hr.mono (by decide)) bS .nil pass0))
      (pss_cons (ps_set (i := 4) scSp.nd rfl (Or.inl rfl) (pe_lst pa_nil))
      (pss_cons (ps_for PassesOwn.never rfl (pi_list (pv 1)) (pg_name (i := 5) scSp.nd rfl (Or.inl rfl))
        (pss_cons (ps_asg (pe_dget hu (pv 2) (pv 3) (fun _ _ => rfl)) (pg_tup rfl (pgs_cons (pg_name (i := 6) scSp.nd rfl (Or.inl rfl)) (pgs_cons (pg_name (i := 7) scSp.nd rfl (Or.inl rfl)) pgs_nil))))
        (pss_cons (ps_expr (pe_bm PySem.F.plainAttrs_list PySem.F.slot_list_append PySem.F.type_list_append mt_append (pv 4) (pa_cons (pe_tup (pa_cons (pv 6) (pa_cons (pv 5) pa_nil))) pa_nil)))
        (pss_one (ps_set (i := 3) scSp.nd rfl (Or.inl rfl) (pe_dget hu (pv 7) (pv 5) (fun _ _ => rfl)))))))
      (pss_one (ps_ret (pv 4))))))), ?_⟩
    refine ⟨_, rfl, _, rfl, q, L, bk, st, s0, way, rfl, hq, ok, hL, ll, aw, ew, fun H1 s1 => ?_⟩
    obtain ⟨dx, b0, e0, hb0⟩ := hq.same s1
    refine ⟨_, rfl, q, dx, _, rfl, e0, dflds_no _ _ (by decide +kernel) (by decide +kernel), q, bk, st, rfl, hq.same s1, ok, fun H2 B s2 hB ⟨kvs, hk, hR⟩ => ?_⟩
    refine ⟨_, rfl, q, dx, _, rfl, s2 _ _ e0, dflds_no _ _ (by decide +kernel) (by decide +kernel), q, bk, st, rfl, (hq.same s1).same s2, ?_⟩
    refine ⟨by decide, fun M hM => ?_⟩
    have s12 := Same.trans s1 s2
    have hM0 : H M = none := s12.free hM
    have hL2 := hL.same s12
    have nLM : L ≠ M := ne_of_none hL2 hM
    refine ⟨_, rfl, L, rfl, ⟨_, (hL2.new hM).sq⟩, ?_⟩
    refine for_list (K := K) (a := L) (xs := way.map V.str) (fun i σ H' => ∃ (v5 v6 v7 : Option V) (node : Str) (ts : List Addr) (ps : List (Str × Str)), σ = [some (.ref q), some (.ref L), some (.ref B), some (.str node), some (.ref M), v5, v6, v7] ∧ Same H2 H' ∧ H' M = some (.lst (ts.map V.ref)) ∧ Paired (fun t (p : Str × Str) => (cut [M] H') t = some (.tup [.str p.1, .str p.2])) ts ps ∧ ps.length = i ∧ node ∈ bk.map (·.1) ∧ walkB bk node (way.drop i) = some s0 ∧ ps ++ spokenB bk node (way.drop i) = spokenB bk st way)
      ⟨none, none, none, st, [], [], rfl, Same.new hM, upd_same, .nil, rfl, ok.st, ew, rfl⟩ (fun i σ H' _ ⟨_, _, _, _, _, _, _, z, _⟩ => (hL2.same z).sq) ?_ ?_
    · rintro i x σ H' hx ⟨v5, v6, v7, node, ts, ps, rfl, sm, hM', hp, lp, hn, ew', es⟩
      obtain ⟨z, hz, rfl⟩ := get_map hx
      have hi : i < way.length := (List.getElem?_eq_some_iff.mp hz).1
      have hd : way.drop i = z :: way.drop (i + 1) := by
        rw [List.drop_eq_getElem_cons hi]
        congr 1
        rw [List.getElem?_eq_getElem hi] at hz
        exact Option.some.inj hz
      obtain ⟨v, ev, ⟨t, a, rfl, ht, ha⟩, _⟩ := (hR.same sm).look (show node ∈ (ordB bk).map (·.1) by rw [ordB_names]; exact (srt_perm _).mem_iff.mpr hn)
      rw [rowOf_ord ok.nd hn] at ht ha
      have ha : TurnsAt H' a (ordT (rowOf bk node).2) := ha
      have ht : H' t = some (.tup [.str (rowOf bk node).1, .ref a]) := ht
      rw [hd, walkB] at ew'
      cases en : nextT (rowOf bk node).2 z with
      | none => rw [en] at ew'; cases ew'
      | some g =>
        rw [en] at ew'
        obtain ⟨t0, ht0, _, e3⟩ := nextT_mem en
        have lts := prs_len hp
        refine ⟨_, rfl, _, rfl, B, _, rfl, .inl ⟨kvs, .inr node, .inl (sm _ _ hk), rfl, ev.symm⟩, t, _, rfl, SqT.of ht, rfl, _, _, rfl, _, _, rfl, rfl, ?_⟩
        refine ⟨_, rfl, .inl ⟨rfl, _, SqL.of hM'⟩, _, rfl, _, rfl, by show 2 ≤ sizeLine; decide, fun T1 hT1 => ?_⟩
        have nTM : T1 ≠ M := fun e => by rw [e, hM'] at hT1; cases hT1
        have naM : a ≠ M := fun e => by rw [TurnsAt, e, hM'] at ha; cases ha
        refine ⟨M, _, _, rfl, rfl, Same.new hT1 _ _ hM', by rw [List.length_map, lts, lp, sizeLine_eq]; omega, ?_⟩
        have ha2 : TurnsAt (L2.upd (L2.upd H' T1 (.tup [.str (rowOf bk node).1, .str z])) M (.lst (ts.map V.ref ++ [.ref T1]))) a (ordT (rowOf bk node).2) := by
          rw [TurnsAt, upd_ne naM]; exact Same.new hT1 _ _ ha
        refine ⟨_, rfl, _, rfl, a, _, rfl, .inl ⟨_, .inr z, .inl ha2, rfl, by rw [valV_next, nextT_ord, en]; rfl⟩, ?_⟩
        refine ⟨_, _, _, g, ts ++ [T1], ps ++ [((rowOf bk node).1, z)], rfl, fun c u e => ?_, by rw [upd_same, List.map_append]; rfl, ?_, by rw [List.length_append, lp]; rfl, ?_, ew', ?_⟩
        · rw [upd_ne (ne_of_none e hM)]; exact Same.new hT1 _ _ (sm _ _ e)
        · rw [cut_upd (by simp)]
          exact prs_app (prs_same hp (cut_new hT1)) (by rw [cut_out (by simpa using nTM)]; exact upd_same)
        · rw [← e3]; exact (ok.rs _ (row_mem hn)).2.2 t0 ht0
        · rw [← es, hd, List.append_assoc]
          show ps ++ ([((rowOf bk node).1, z)] ++ _) = ps ++ (((rowOf bk node).1, z) :: spokenB bk (goalT (rowOf bk node).2 z) _)
          rw [next_goal en]; rfl
    · rintro σ H' ⟨v5, v6, v7, node, ts, ps, rfl, sm, hM', hp, lp, hn, ew', es⟩
      rw [List.length_map, List.drop_length] at es
      have e1 : ps = spokenB bk st way := by rw [← es]; exact (List.append_nil _).symm
      refine ⟨_, rfl, k H' M (Same.trans s12 sm) hM0 ⟨ts, hM', ?_⟩⟩
      rw [← e1]
      exact prs_same hp cut_le
end
end D1
end L2
/-! exact -/
namespace L2
namespace D1
open PySem PySem.Spec PyProof.Rows
inductive Leaf : V → Prop
  | non : Leaf .non
  | bl (b : Bool) : Leaf (.bl b)
  | str (x : Str) : Leaf (.str x)
/-- alike data, at most n deep -/
def EqX : Nat → Hp → V → V → Prop
  | 0, _, x, y => Leaf x ∧ y = x
  | n + 1, H, x, y => EqX n H x y ∨ (∃ a b xs ys, x = .ref a ∧ y = .ref b ∧ H a = some (.lst xs) ∧ H b = some (.lst ys) ∧ xs.length ≤ 10000 ∧ Paired (EqX n H) xs ys) ∨
      (∃ a b xs ys, x = .ref a ∧ y = .ref b ∧ H a = some (.tup xs) ∧ H b = some (.tup ys) ∧ xs.length ≤ 10000 ∧ Paired (EqX n H) xs ys) ∨
      (1 ≤ n ∧ ∃ (a b : Addr) (ks ls : List (Key × V)) (ss : List Str), x = .ref a ∧ y = .ref b ∧ H a = some (.dK ks) ∧ H b = some (.dK ls) ∧ ks.map (·.1) = ss.map Sum.inr ∧ ls.map (·.1) = ss.map Sum.inr ∧ ss.Nodup ∧ ss.length ≤ 10000 ∧ Paired (fun p q => EqX n (cut [a] H) p.2 q.2) ks ls)
theorem paired_imp {α β : Type} {R R' : α → β → Prop} (h : ∀ a b, R a b → R' a b) : ∀ {xs : List α} {ys : List β}, Paired R xs ys → Paired R' xs ys
  | _, _, .nil => .nil
  | _, _, .cons a b => .cons (h _ _ a) (paired_imp h b)
theorem paired_at {α β : Type} {R : α → β → Prop} : ∀ {xs : List α} {ys : List β} {i : Nat} {x : α} {y : β}, Paired R xs ys → xs[i]? = some x → ys[i]? = some y → R x y
  | _, _, i, x, y, .nil, h, _ => by simp at h
  | _, _, 0, x, y, .cons a _, h1, h2 => by cases h1; cases h2; exact a
  | _, _, i + 1, x, y, .cons _ b, h1, h2 => paired_at (i := i) b h1 h2
theorem paired_len {α β : Type} {R : α → β → Prop} : ∀ {xs : List α} {ys : List β}, Paired R xs ys → xs.length = ys.length
  | _, _, .nil => rfl
  | _, _, .cons _ b => by rw [List.length_cons, List.length_cons, paired_len b]
theorem EqX.same : ∀ (n : Nat) {H H' : Hp} {x y : V}, Same H H' → EqX n H x y → EqX n H' x y
  | 0, _, _, _, _, _, h => h
  | n + 1, H, H', x, y, s, h => by
    rcases h with h | ⟨a, b, xs, ys, h1, h2, h3, h4, h5, h6⟩ | ⟨a, b, xs, ys, h1, h2, h3, h4, h5, h6⟩ | ⟨h0, a, b, ks, ls, ss, h1, h2, h3, h4, h5, h6, h7, h8, h9⟩
    · exact .inl (EqX.same n s h)
    · exact .inr (.inl ⟨a, b, xs, ys, h1, h2, s _ _ h3, s _ _ h4, h5, paired_imp (fun _ _ => EqX.same n s) h6⟩)
    · exact .inr (.inr (.inl ⟨a, b, xs, ys, h1, h2, s _ _ h3, s _ _ h4, h5, paired_imp (fun _ _ => EqX.same n s) h6⟩))
    · exact .inr (.inr (.inr ⟨h0, a, b, ks, ls, ss, h1, h2, s _ _ h3, s _ _ h4, h5, h6, h7, h8, paired_imp (fun _ _ => EqX.same n (cut_same s)) h9⟩))
theorem EqX.up {H : Hp} {m n : Nat} {x y : V} (h : EqX m H x y) (l : m ≤ n) : EqX n H x y := by
  induction l with
  | refl => exact h
  | step _ ih => exact .inl ih
theorem eqx_str {H : Hp} {n : Nat} (x : Str) : EqX n H (.str x) (.str x) := EqX.up (m := 0) ⟨.str x, rfl⟩ (Nat.zero_le _)
theorem eqx_strs {H : Hp} {n : Nat} : ∀ ss : List Str, Paired (EqX n H) (ss.map V.str) (ss.map V.str)
  | [] => .nil
  | x :: r => .cons (eqx_str x) (eqx_strs r)
abbrev sExact : Stmt := top 38
def spExact (n : Nat) : Sp := fun vs H Q _ => ∃ x y, vs = [x, y] ∧ EqX n H x y ∧ ∀ H', Same H H' → Q (.bl true) H'
def spDeep (n : Nat) : Sp := fun vs H Q _ => ∃ x y, vs = [x, y] ∧ ((∃ a b xs ys, x = .ref a ∧ y = .ref b ∧ H a = some (.lst xs) ∧ H b = some (.lst ys) ∧ xs.length ≤ 10000 ∧ Paired (EqX n H) xs ys) ∨
      (∃ a b xs ys, x = .ref a ∧ y = .ref b ∧ H a = some (.tup xs) ∧ H b = some (.tup ys) ∧ xs.length ≤ 10000 ∧ Paired (EqX n H) xs ys) ∨
      (1 ≤ n ∧ ∃ (a b : Addr) (ks ls : List (Key × V)) (ss : List Str), x = .ref a ∧ y = .ref b ∧ H a = some (.dK ks) ∧ H b = some (.dK ls) ∧ ks.map (·.1) = ss.map Sum.inr ∧ ls.map (·.1) = ss.map Sum.inr ∧ ss.Nodup ∧ ss.length ≤ 10000 ∧ Paired (fun p q => EqX n (cut [a] H) p.2 q.2) ks ls)) ∧ ∀ H', Same H H' → Q (.bl true) H'
theorem fnok_or {P : Program} {w : World} {K : PySem.W.Frag} {mg : Str → Option Value} {base : Heap} {k : Nat} {f : Addr} {fd : FuncData} {ps : List Str} {sp sp1 sp2 : Sp} (h1 : FnOk P w K mg base CX0 k f fd ps sp1) (h2 : FnOk P w K mg base CX0 k f fd ps sp2)
    (h : ∀ vs H Q E, sp vs H Q E → sp1 vs H Q E ∨ sp2 vs H Q E) : FnOk P w K mg base CX0 k f fd ps sp :=
  ⟨fun vs H Q E q => (h vs H Q E q).elim (h1.len vs H Q E) (h2.len vs H Q E), fun A outer s H args us vs Q E hr he hb hv hs => (h _ _ _ _ hs).elim (fun q => h1.run A outer s H args us vs Q E hr he hb hv q) fun q => h2.run A outer s H args us vs Q E hr he hb hv q⟩
theorem val_at {kvs : List (Key × V)} (nd : (kvs.map (·.1)).Nodup) : ∀ {i : Nat} {k : Key} {v : V}, kvs[i]? = some (k, v) → valV kvs k = some v := by
  induction kvs with
  | nil => intro i k v e; simp at e
  | cons p r ih =>
    intro i k v e
    have nd' := List.nodup_cons.mp nd
    cases i with
    | zero => cases e; exact valV_pos (p := (k, v)) rfl
    | succ i =>
      rw [valV_neg fun z => nd'.1 (List.mem_map.mpr ⟨(k, v), List.mem_of_getElem? e, z.symm⟩)]
      exact ih nd'.2 e
theorem inr_nd' {l : List Str} (h : l.Nodup) : (l.map (Sum.inr : Str → Key)).Nodup := by
  induction l with
  | nil => exact List.nodup_nil
  | cons a r ih =>
    have h' := List.nodup_cons.mp h
    refine List.nodup_cons.mpr ⟨fun z => ?_, ih h'.2⟩
    obtain ⟨b, hb, e⟩ := List.mem_map.mp z
    exact h'.1 (by rw [← Sum.inr.inj e]; exact hb)
theorem walk_zipT {K : PySem.W.Frag} {a b : Addr} {xs ys : List V} {n : Nat} (hn : n = min xs.length ys.length) : Walk (RZ.ItzT K a b) n (fun H => SqT K H a xs ∧ SqT K H b ys) (YPair (fun i => xs[i]?) (fun i => ys[i]?)) := by
  subst hn
  refine ⟨fun i H hi q => ?_, fun H q => ⟨xs, ys, q.1, q.2, by omega⟩, fun i H v H' hi q y => ?_⟩
  · have h1 : i < xs.length := by omega
    have h2 : i < ys.length := by omega
    exact ⟨xs, ys, xs[i], ys[i], q.1, q.2, by simp [h1], by simp [h2]⟩
  · obtain ⟨T, x, z, h1, h2, h3, h4, h5⟩ := y
    exact ⟨T, x, z, h1, h2, h3, h4 xs q.1, h5 ys q.2⟩
theorem kitTwo {K : PySem.W.Frag} {t : String} {b1 b2 : Bool} (h1 : kitB t "list" = some b1) (h2 : kitB t "tuple" = some b2) : PySem.W.kitAny K (.type t) [.type "list", .type "tuple"] = some (b1 || b2) := by
  refine kitAny_cons (kit_ty h1) (fun e => ?_) (fun e => by rw [e]; rfl)
  rw [e]
  exact kitAny_cons (kit_ty h2) (fun e2 => by rw [e2]; exact kitAny_nil) (fun e2 => by rw [e2]; rfl)
theorem leaf_ty {x : V} (lx : Leaf x) : ∃ (t : String) (b : Bool), (∀ (K : PySem.W.Frag) (H : Hp), TyX K H x (.type t)) ∧ kitB t "list" = some false ∧ kitB t "tuple" = some false ∧ kitB t "dict" = some false ∧ kitB t "bool" = some b := by
  cases lx with
  | non => exact ⟨"NoneType", _, fun _ _ => .base .non, by decide +kernel, by decide +kernel, by decide +kernel, (by decide +kernel : kitB "NoneType" "bool" = some false)⟩
  | bl v => exact ⟨"bool", _, fun _ _ => .base (.bl v), by decide +kernel, by decide +kernel, by decide +kernel, (by decide +kernel : kitB "bool" "bool" = some true)⟩
  | str v => exact ⟨"str", _, fun _ _ => .base (.str v), by decide +kernel, by decide +kernel, by decide +kernel, (by decide +kernel : kitB "str" "bool" = some false)⟩
section
variable {P : Program} {w : World} {K : PySem.W.Frag} {mg : Str → Option Value} {base : Heap}
theorem scEx : FnScope ["_law_mine", "_law_theirs", "_law_alike", "_law_a", "_law_b", "_law_key"] ["_law_mine", "_law_theirs"] (defScope sExact) := ⟨rfl, rfl, rfl, by decide +kernel, rfl, by decide +kernel, by decide +kernel⟩
theorem ok_exact {f : Addr} {fd : FuncData} (F : Fun K "_law_exact" "_law_exact" sExact f fd) (T : Free3 mg) (gE : mg "_law_exact" = some (.ref f)) (bE : Binds K fd ["_law_mine", "_law_theirs"] []) : ∀ n : Nat, FnOk P w K mg base CX0 (n + 1) f fd ["_law_mine", "_law_theirs"] (spExact n) := by
  intro n
  induction n with
  | zero =>
    refine F.ok scEx (fun vs H Q E h => ?_) (fun cdv A outer s H vs Q E hr h => ?_)
    · obtain ⟨x, y, rfl, _⟩ := h; rfl
    · obtain ⟨x, y, rfl, ⟨lx, e⟩, k⟩ := h
      have e := e.symm
      subst e
      have hu := hu_of hr
      refine ⟨_, pss_cons (ps_if (pt_val (pe_callB call_isiT (by rfl) T.isi (by decide +kernel) (pa_cons (pv 0) (pa_cons (pe_tup (pa_cons (pe_bltn (v := .ty "list") rfl T.list (by decide +kernel) rfl) (pa_cons (pe_bltn (v := .ty "tuple") rfl T.tuple (by decide +kernel) rfl) pa_nil))) pa_nil)))) pss_never pss_nil)
        (pss_cons (ps_if (pt_val (pe_callB call_isi (by rfl) T.isi (by decide +kernel) (pa_cons (pv 0) (pa_cons (pe_bltn (v := .ty "dict") rfl T.dict (by decide +kernel) rfl) pa_nil)))) pss_never pss_nil)
        (pss_one (ps_ret (pe_and (pe_cmpR op_eq (pe_callB call_isi (by rfl) T.isi (by decide +kernel) (pa_cons (pv 0) (pa_cons (pe_bltn (v := .ty "bool") rfl T.bool (by decide +kernel) rfl) pa_nil))) (pe_callB call_isi (by rfl) T.isi (by decide +kernel) (pa_cons (pv 1) (pa_cons (pe_bltn (v := .ty "bool") rfl T.bool (by decide +kernel) rfl) pa_nil))) (nomark _)) (pe_one (pe_cmpR op_eq (pv 0) (pv 1) (nomark _))))))), ?_⟩
      obtain ⟨t, b, ty, e1, e2, e3, e4⟩ := leaf_ty lx
      refine ⟨_, rfl, by show 2 ≤ sizeLine; decide, fun T1 hT1 => ?_⟩
      refine ⟨x, T1, [.ty "list", .ty "tuple"], .type t, [.type "list", .type "tuple"], false, rfl, upd_same, .cons (.ty _) (.cons (.ty _) .nil), ty _ _, kitTwo e1 e2, _, rfl, iteF ?_⟩
      refine ⟨_, rfl, _, .ty "dict", .type t, .type "dict", false, rfl, .ty _, ty _ _, kit_ty e3, _, rfl, iteF ?_⟩
      refine ⟨_, rfl, _, .ty "bool", .type t, .type "bool", b, rfl, .ty _, ty _ _, kit_ty e4, _, rfl, _, .ty "bool", .type t, .type "bool", b, rfl, .ty _, ty _ _, kit_ty e4, rfl, _, rfl, ?_⟩
      rw [decide_eq_true rfl]
      refine iteT ⟨_, rfl, _, rfl, by cases lx <;> rfl, ?_⟩
      rw [decide_eq_true rfl]
      exact k _ (Same.new hT1)
  | succ n ih =>
    have CE : Cal P w K mg base "_law_exact" (n + 1) ["_law_mine", "_law_theirs"] (spExact n) := Cal.of gE F.kp ih bE
    have deep : FnOk P w K mg base CX0 (n + 2) f fd ["_law_mine", "_law_theirs"] (spDeep n) := by
     refine F.ok scEx (fun vs H Q E h => ?_) (fun cdv A outer s H vs Q E hr h => ?_)
     · obtain ⟨x, y, rfl, _⟩ := h; rfl
     · obtain ⟨x, y, rfl, hx, k⟩ := h
       have hu := hu_of hr
       refine ⟨_, pss_cons (ps_if (pt_val (pe_callB call_isiT (by rfl) T.isi (by decide +kernel) (pa_cons (pv 0) (pa_cons (pe_tup (pa_cons (pe_bltn (v := .ty "list") rfl T.list (by decide +kernel) rfl) (pa_cons (pe_bltn (v := .ty "tuple") rfl T.tuple (by decide +kernel) rfl) pa_nil))) pa_nil)))) (pss_cons (ps_set (i := 2) scEx.nd rfl (Or.inl rfl) (pe_and (pe_cmpR op_eq (pe_callB call_isi (by rfl) T.isi (by decide +kernel) (pa_cons (pv 1) (pa_cons (pe_bltn (v := .ty "list") rfl T.list (by decide +kernel) rfl) pa_nil))) (pe_callB call_isi (by rfl) T.isi (by decide +kernel) (pa_cons (pv 0) (pa_cons (pe_bltn (v := .ty "list") rfl T.list (by decide +kernel) rfl) pa_nil))) (nomark _)) (pe_one (pe_cmpR op_eq (pe_callB call_isi (by rfl) T.isi (by decide +kernel) (pa_cons (pv 1) (pa_cons (pe_bltn (v := .ty "tuple") rfl T.tuple (by decide +kernel) rfl) pa_nil))) (pe_callB call_isi (by rfl) T.isi (by decide +kernel) (pa_cons (pv 0) (pa_cons (pe_bltn (v := .ty "tuple") rfl T.tuple (by decide +kernel) rfl) pa_nil))) (nomark _)))))
           (pss_one (ps_ret (pe_and (pv 2) (pe_and (pe_cmpR op_eq (pe_callB call_len_seq (by rfl) T.len PySem.boot_len (pa_cons (pv 0) pa_nil)) (pe_callB call_len_seq (by rfl) T.len PySem.boot_len (pa_cons (pv 1) pa_nil)) (nomark _)) (pe_one (pe_callB (cr_all rfl) (by rfl) T.all (by decide +kernel) (pa_cons (pe_lc (own := [("_law_a", 3), ("_law_b", 4)]) (g := gTup K 2 (gCons (gName 3) (gCons (gName 4) gNil))) (tt := tYes) (te := tCall (spExact n) [] E0 (tCons (tVar 3) (tCons (tVar 4) tNil))) rfl scEx.nd (RZ.pi_zipA (by rfl) T.zip (pa_cons (pv 0) (pa_cons (pv 1) pa_nil)))
             (blkOk_by (N := ["_law_mine", "_law_theirs", "_law_alike", "_law_a", "_law_b", "_law_key"]) (sc := defScope sExact) (by decide +kernel)) (fun _ _ _ _ _ => pg_tup rfl (pgs_cons (pg_name (i := 3) scEx.nd rfl (Or.inl rfl)) (pgs_cons (pg_name (i := 4) scEx.nd rfl (Or.inl rfl)) pgs_nil))) (fun _ _ _ _ _ => pts_nil)
             (fun _ _ _ _ _ => pe_cal CE (hr.mono (by omega)) rfl (pa_cons (pv 3) (pa_cons (pv 4) pa_nil)))) pa_nil)))))))) pss_nil)
         (pss_cons (ps_if (pt_val (pe_callB call_isi (by rfl) T.isi (by decide +kernel) (pa_cons (pv 0) (pa_cons (pe_bltn (v := .ty "dict") rfl T.dict (by decide +kernel) rfl) pa_nil)))) (pss_cons (ps_set (i := 2) scEx.nd rfl (Or.inl rfl) (pe_and (pe_callB call_isi (by rfl) T.isi (by decide +kernel) (pa_cons (pv 1) (pa_cons (pe_bltn (v := .ty "dict") rfl T.dict (by decide +kernel) rfl) pa_nil))) (pe_one (pe_cal CE (hr.mono (by omega)) rfl (pa_cons (pe_callTy (call_listD rfl) (by rfl) T.list (by decide +kernel) (pa_cons (pv 0) pa_nil)) (pa_cons (pe_callTy (call_listD rfl) (by rfl) T.list (by decide +kernel) (pa_cons (pv 1) pa_nil)) pa_nil))))))
           (pss_one (ps_ret (pe_and (pv 2) (pe_one (pe_callB (cr_all rfl) (by rfl) T.all (by decide +kernel) (pa_cons (pe_lock (pe_lc (own := [("_law_key", 5)]) (g := gName 5) (tt := tYes) (te := tCall (spExact n) [] E0 (tCons (tDGet (tVar 0) (tVar 5)) (tCons (tDGet (tVar 1) (tVar 5)) tNil))) rfl scEx.nd (pi_keys (pv 0))
             (blkOk_by (N := ["_law_mine", "_law_theirs", "_law_alike", "_law_a", "_law_b", "_law_key"]) (sc := defScope sExact) (by decide +kernel)) (fun _ _ _ _ _ => pg_name (i := 5) scEx.nd rfl (Or.inl rfl)) (fun _ _ _ _ _ => pts_nil)
             (fun _ _ _ _ _ => pe_cal CE (hr.mono (by omega)) rfl (pa_cons (pe_dget hu (pv 0) (pv 5) (fun _ _ => rfl)) (pa_cons (pe_dget hu (pv 1) (pv 5) (fun _ _ => rfl)) pa_nil))))) pa_nil))))))) pss_nil)
         pss_never), ?_⟩
       rcases hx with ⟨a, b, xs, ys, rfl, rfl, ha, hb, l0, hp⟩ | ⟨a, b, xs, ys, rfl, rfl, ha, hb, l0, hp⟩ | ⟨h1n, a, b, ks, ls, ss, rfl, rfl, ha, hb, e1, e2, nd, l0, hp⟩
       · refine ⟨_, rfl, by show 2 ≤ sizeLine; decide, fun T1 hT1 => ?_⟩
         have ha1 := Same.new (o := .tup [.ty "list", .ty "tuple"]) hT1 _ _ ha
         have hb1 := Same.new (o := .tup [.ty "list", .ty "tuple"]) hT1 _ _ hb
         have hp1 := paired_imp (fun _ _ => EqX.same n (Same.new (o := .tup [.ty "list", .ty "tuple"]) hT1)) hp
         have s1 := Same.new (o := .tup [.ty "list", .ty "tuple"]) hT1
         refine ⟨.ref a, T1, [.ty "list", .ty "tuple"], .type "list", [.type "list", .type "tuple"], true, rfl, upd_same, .cons (.ty _) (.cons (.ty _) .nil), .base (.lst (by assumption)), kitTwo (b1 := true) (b2 := false) (by decide +kernel) (by decide +kernel), _, rfl, iteT ?_⟩
         generalize L2.upd H T1 (.tup [.ty "list", .ty "tuple"]) = H1 at ha1 hb1 hp1 s1
         refine ⟨_, rfl, _, .ty "list", .type "list", .type "list", true, rfl, .ty _, .base (.lst (by assumption)), kit_ty (by decide +kernel), _, rfl, _, .ty "list", .type "list", .type "list", true, rfl, .ty _, .base (.lst (by assumption)), kit_ty (by decide +kernel), rfl, _, rfl, ?_⟩
         refine iteT ⟨_, rfl, _, .ty "tuple", .type "list", .type "tuple", false, rfl, .ty _, .base (.lst (by assumption)), kit_ty (by decide +kernel), _, rfl, _, .ty "tuple", .type "list", .type "tuple", false, rfl, .ty _, .base (.lst (by assumption)), kit_ty (by decide +kernel), rfl, ?_⟩
         refine ⟨_, rfl, _, rfl, iteT ⟨_, rfl, a, xs, rfl, .inl (SqL.of ha1), _, rfl, b, ys, rfl, .inl (SqL.of hb1), rfl, _, rfl, ?_⟩⟩
         have le := paired_len hp
         rw [le, decide_eq_true rfl]
         refine iteT ⟨_, rfl, _, rfl, a, b, xs, ys, rfl, .inl ⟨SqL.of ha1, SqL.of hb1, fun D hD => ?_⟩⟩
         refine lc_it (walk_zip (K := K) (a := a) (b := b) (xs := xs) (ys := ys) (n := xs.length) (by omega)) (fun i H' => Same H1 H' ∧ H' D = some (.lst ((List.replicate i true).map V.bl))) ⟨Same.new hD, upd_same⟩ (fun i H' _ z => ⟨SqL.of (z.1 _ _ ha1), SqL.of (z.1 _ _ hb1)⟩) ?_ ?_
         · rintro i v H2 H3 hi ⟨sm, hl⟩ ⟨T2, x, y, rfl, hT2, rfl, ex, ey⟩
           have exy := paired_at hp1 ex ey
           have nDT : D ≠ T2 := ne_of_none hl hT2
           refine ⟨T2, _, rfl, SqT.of upd_same, rfl, _, _, rfl, _, _, rfl, rfl, rfl, ?_⟩
           dsimp only [tYes]
           rw [if_pos rfl]
           refine ⟨_, rfl, _, rfl, x, y, rfl, EqX.same n (fun c u e => Same.new hT2 _ _ (sm _ _ e)) exy, fun H4 s4 => ?_⟩
           refine ⟨_, s4 _ _ (by rw [upd_ne nDT]; exact hl), by rw [List.length_map, List.length_replicate, sizeLine_eq]; omega, fun c u e => ?_, by rw [upd_same, repl_snoc]⟩
           rw [upd_ne (ne_of_none e hD)]; exact s4 _ _ (Same.new hT2 _ _ (sm _ _ e))
         · rintro H2 ⟨sm, hl⟩
           refine ⟨D, _, rfl, SqL.of hl, ?_⟩
           rw [all_true]
           exact k H2 (Same.trans s1 sm)
       · refine ⟨_, rfl, by show 2 ≤ sizeLine; decide, fun T1 hT1 => ?_⟩
         have ha1 := Same.new (o := .tup [.ty "list", .ty "tuple"]) hT1 _ _ ha
         have hb1 := Same.new (o := .tup [.ty "list", .ty "tuple"]) hT1 _ _ hb
         have hp1 := paired_imp (fun _ _ => EqX.same n (Same.new (o := .tup [.ty "list", .ty "tuple"]) hT1)) hp
         have s1 := Same.new (o := .tup [.ty "list", .ty "tuple"]) hT1
         refine ⟨.ref a, T1, [.ty "list", .ty "tuple"], .type "tuple", [.type "list", .type "tuple"], true, rfl, upd_same, .cons (.ty _) (.cons (.ty _) .nil), .base (.tup (by assumption)), kitTwo (b1 := false) (b2 := true) (by decide +kernel) (by decide +kernel), _, rfl, iteT ?_⟩
         generalize L2.upd H T1 (.tup [.ty "list", .ty "tuple"]) = H1 at ha1 hb1 hp1 s1
         refine ⟨_, rfl, _, .ty "list", .type "tuple", .type "list", false, rfl, .ty _, .base (.tup (by assumption)), kit_ty (by decide +kernel), _, rfl, _, .ty "list", .type "tuple", .type "list", false, rfl, .ty _, .base (.tup (by assumption)), kit_ty (by decide +kernel), rfl, _, rfl, ?_⟩
         refine iteT ⟨_, rfl, _, .ty "tuple", .type "tuple", .type "tuple", true, rfl, .ty _, .base (.tup (by assumption)), kit_ty (by decide +kernel), _, rfl, _, .ty "tuple", .type "tuple", .type "tuple", true, rfl, .ty _, .base (.tup (by assumption)), kit_ty (by decide +kernel), rfl, ?_⟩
         refine ⟨_, rfl, _, rfl, iteT ⟨_, rfl, a, xs, rfl, .inr (SqT.of ha1), _, rfl, b, ys, rfl, .inr (SqT.of hb1), rfl, _, rfl, ?_⟩⟩
         have le := paired_len hp
         rw [le, decide_eq_true rfl]
         refine iteT ⟨_, rfl, _, rfl, a, b, xs, ys, rfl, .inr ⟨SqT.of ha1, SqT.of hb1, fun D hD => ?_⟩⟩
         refine lc_it (walk_zipT (K := K) (a := a) (b := b) (xs := xs) (ys := ys) (n := xs.length) (by omega)) (fun i H' => Same H1 H' ∧ H' D = some (.lst ((List.replicate i true).map V.bl))) ⟨Same.new hD, upd_same⟩ (fun i H' _ z => ⟨SqT.of (z.1 _ _ ha1), SqT.of (z.1 _ _ hb1)⟩) ?_ ?_
         · rintro i v H2 H3 hi ⟨sm, hl⟩ ⟨T2, x, y, rfl, hT2, rfl, ex, ey⟩
           have exy := paired_at hp1 ex ey
           have nDT : D ≠ T2 := ne_of_none hl hT2
           refine ⟨T2, _, rfl, SqT.of upd_same, rfl, _, _, rfl, _, _, rfl, rfl, rfl, ?_⟩
           dsimp only [tYes]
           rw [if_pos rfl]
           refine ⟨_, rfl, _, rfl, x, y, rfl, EqX.same n (fun c u e => Same.new hT2 _ _ (sm _ _ e)) exy, fun H4 s4 => ?_⟩
           refine ⟨_, s4 _ _ (by rw [upd_ne nDT]; exact hl), by rw [List.length_map, List.length_replicate, sizeLine_eq]; omega, fun c u e => ?_, by rw [upd_same, repl_snoc]⟩
           rw [upd_ne (ne_of_none e hD)]; exact s4 _ _ (Same.new hT2 _ _ (sm _ _ e))
         · rintro H2 ⟨sm, hl⟩
           refine ⟨D, _, rfl, SqL.of hl, ?_⟩
           rw [all_true]
           exact k H2 (Same.trans s1 sm)
       · refine ⟨_, rfl, by show 2 ≤ sizeLine; decide, fun T1 hT1 => ?_⟩
         have s1 := Same.new (o := .tup [.ty "list", .ty "tuple"]) hT1
         have ha1 := s1 _ _ ha
         have hb1 := s1 _ _ hb
         have hp1 := paired_imp (fun _ _ => EqX.same n (cut_same s1)) hp
         refine ⟨.ref a, T1, [.ty "list", .ty "tuple"], .type "dict", [.type "list", .type "tuple"], false, rfl, upd_same, .cons (.ty _) (.cons (.ty _) .nil), .base (.dK ha1), kitTwo (b1 := false) (b2 := false) (by decide +kernel) (by decide +kernel), _, rfl, iteF ?_⟩
         generalize L2.upd H T1 (.tup [.ty "list", .ty "tuple"]) = H1 at ha1 hb1 hp1 s1
         refine ⟨_, rfl, _, .ty "dict", .type "dict", .type "dict", true, rfl, .ty _, .base (.dK ha1), kit_ty (by decide +kernel), _, rfl, iteT ?_⟩
         refine ⟨_, rfl, _, .ty "dict", .type "dict", .type "dict", true, rfl, .ty _, .base (.dK hb1), kit_ty (by decide +kernel), _, rfl, iteT ?_⟩
         have eks : ks.map (fun kv => kV kv.1) = ss.map V.str := by
           have : ks.map (fun kv => kV kv.1) = (ks.map (·.1)).map kV := by rw [List.map_map]; rfl
           rw [this, e1, List.map_map]; rfl
         have els : ls.map (fun kv => kV kv.1) = ss.map V.str := by
           have : ls.map (fun kv => kV kv.1) = (ls.map (·.1)).map kV := by rw [List.map_map]; rfl
           rw [this, e2, List.map_map]; rfl
         refine ⟨_, rfl, a, ks, rfl, .inl ha1, fun M1 hM1 => ⟨_, rfl, b, ls, rfl, .inl (Same.new hM1 _ _ hb1), fun M2 hM2 => ?_⟩⟩
         rw [eks, els] at *
         have nM : M1 ≠ M2 := fun e => by rw [← e, upd_same] at hM2; cases hM2
         refine ⟨_, _, rfl, ?_, fun H2 s2 => ?_⟩
         · refine EqX.up (m := 1) (.inr (.inl ⟨M1, M2, ss.map V.str, ss.map V.str, rfl, rfl, by rw [upd_ne nM, upd_same], by rw [upd_same], by rw [List.length_map]; exact l0, ?_⟩)) h1n
           exact paired_imp (fun _ _ z => z) (eqx_strs (n := 0) ss)
         have s12 : Same H1 H2 := fun c u e => s2 _ _ (Same.new hM2 _ _ (Same.new hM1 _ _ e))
         have ha2 := s12 _ _ ha1
         have hb2 := s12 _ _ hb1
         have hp2 := paired_imp (fun _ _ => EqX.same n (cut_same s12)) hp1
         refine ⟨_, rfl, _, rfl, iteT ⟨a, _, ha2, trivial, fun od => ?_⟩⟩
         refine ⟨_, rfl, a, od, rfl, .inl ⟨ks, upd_same, fun D hD => ?_⟩⟩
         have nD : a ≠ D := fun e => by rw [← e, upd_same] at hD; cases hD
         have sL : Same (cut [a] H2) (L2.upd H2 a (.frz od (.dK ks))) := fun c u e => by
           obtain ⟨nc, e⟩ := cut_some e
           rw [upd_ne (by simpa using nc)]; exact e
         have le := paired_len hp
         have lks : ks.length = ss.length := by rw [← List.length_map (·.1), e1, List.length_map]
         refine lc_it (walk_keys (d := a) (o := od) (kvs := ks)) (fun i H' => Same (L2.upd H2 a (.frz od (.dK ks))) H' ∧ H' D = some (.lst ((List.replicate i true).map V.bl))) ⟨Same.new hD, upd_same⟩ (fun i H' _ z => z.1 _ _ upd_same) ?_ ?_
         · rintro i v H3 H4 hi ⟨sm, hl⟩ ⟨rfl, kk, v0, hkv, rfl⟩
           have hli : i < ls.length := by omega
           have hlv := List.getElem?_eq_getElem hli
           have exy := paired_at hp2 hkv hlv
           have ek : (ks.map (·.1))[i]? = some kk := by rw [List.getElem?_map, hkv]; rfl
           have el : (ls.map (·.1))[i]? = some (ls[i].1) := by rw [List.getElem?_map, hlv]; rfl
           rw [e1] at ek
           rw [e2, ek] at el
           have el : kk = ls[i].1 := Option.some.inj el
           have v1 : valV ks kk = some v0 := val_at (by rw [e1]; exact inr_nd' nd) hkv
           have v2 : valV ls kk = some ls[i].2 := val_at (by rw [e2]; exact inr_nd' nd) (by rw [hlv, el])
           have rb : Rd H4 b (.dK ls) := by
             by_cases c : b = a
             · subst c
               rw [ha2] at hb2
               have : ks = ls := by injection hb2 with z; injection z
               rw [← this]
               exact .inr ⟨od, sm _ _ upd_same⟩
             · exact .inl (sm _ _ (by rw [upd_ne c]; exact hb2))
           refine ⟨rfl, ?_⟩
           dsimp only [tYes]
           rw [if_pos rfl]
           refine ⟨_, rfl, _, rfl, a, v0, rfl, .inl ⟨ks, kk, .inr ⟨od, sm _ _ upd_same⟩, rfl, v1.symm⟩, _, rfl, _, rfl, b, _, rfl, .inl ⟨ls, kk, rb, rfl, v2.symm⟩, _, _, rfl, EqX.same n (fun c u e => sm _ _ (sL _ _ e)) exy, fun H5 s5 => ?_⟩
           refine ⟨_, s5 _ _ hl, by rw [List.length_map, List.length_replicate, sizeLine_eq]; omega, fun c u e => ?_, by rw [upd_same, repl_snoc]⟩
           rw [upd_ne (ne_of_none e hD)]; exact s5 _ _ (sm _ _ e)
         · rintro H3 ⟨sm, hl⟩
           refine ⟨sm _ _ upd_same, D, _, rfl, SqL.of (by rw [upd_ne nD.symm]; exact hl), ?_⟩
           rw [all_true]
           exact k _ (Same.trans (Same.trans s1 s12) (Same.unlock ha2 sm))
    exact fnok_or (ih.mono (by omega)) deep fun vs H Q E ⟨x, y, e, h, k⟩ => by
      rcases h with h | h
      · exact .inl ⟨x, y, e, h, k⟩
      · exact .inr ⟨x, y, e, h, k⟩
end
end D1
end L2
/-! == of alike dicts; == of desks; a desk of a world -/
namespace L2
namespace D1
open PySem PySem.Spec PyProof.Rows
theorem tree_up {prog : Program} {w : World} {s : Shared} {n : Nat} {v y : Value} {b : Bool} (t : PySem.W.EqTree prog w s n v y b) : PySem.W.EqTree prog w s (n + 1) v y b := by
  induction t with
  | leaf h => exact .leaf fun A hu => h A (by omega)
  | same => exact .same
  | lists h1 h2 h3 h4 _ ih => exact .lists h1 h2 h3 h4 ih
  | listsLen h1 h2 h3 h4 => exact .listsLen h1 h2 h3 h4
  | tuples h1 h2 h3 _ ih => exact .tuples h1 h2 h3 ih
  | dicts h1 h2 h3 h4 h5 _ ih => exact .dicts h1 h2 h3 h4 h5 ih
/-- the values of two dicts with the same keys, by their keys -/
theorem kv_tree {X : Cx} {s : Shared} {n : Nat} {R : V → V → Prop} {ks ls : List (Key × V)} {va vb : List (Key × Value)} (ra : KV ks va) (rb : KV ls vb) (nd : (ls.map (·.1)).Nodup) (e : ks.map (·.1) = ls.map (·.1))
    (h : Paired (fun p q => R p.2 q.2) ks ls) (f : ∀ x y u v, R x y → RelV x u → RelV y v → PySem.W.EqTree X.prog X.w s n u v true) : ∀ k v y, (k, v) ∈ va → valueAt vb k = some y → PySem.W.EqTree X.prog X.w s n v y true := by
  intro k v y hm hv
  obtain ⟨i, hi, e1⟩ := List.getElem_of_mem hm
  have hva : va[i]? = some (k, v) := by rw [List.getElem?_eq_getElem hi, e1]
  have lk : ks.length = va.length := paired_len ra
  have ll : ks.length = ls.length := paired_len h
  have h1 := List.getElem?_eq_getElem (l := ks) (i := i) (by omega)
  have h2 := List.getElem?_eq_getElem (l := ls) (i := i) (by omega)
  have a1 := paired_at (show Paired _ ks va from ra) h1 hva
  have a2 := paired_at h h1 h2
  have ek : (ks.map (·.1))[i]? = some ks[i].1 := by rw [List.getElem?_map, h1]; rfl
  rw [e, List.getElem?_map, h2] at ek
  have ek : ls[i].1 = ks[i].1 := Option.some.inj ek
  have ek2 : ls[i].1 = k := by rw [ek]; exact a1.1
  have v2 : valV ls k = some ls[i].2 := val_at nd (by rw [h2, ← ek2])
  have r := rb.val k
  rw [v2] at r
  obtain ⟨w', ew, rw'⟩ := RelO.some_of r
  rw [hv] at ew
  cases ew
  exact f _ _ _ _ a2 a1.2 rw'
theorem all_some {ls : List (Key × V)} {va vb : List (Key × Value)} (rb : KV ls vb) (h : ∀ p ∈ va, p.1 ∈ ls.map (·.1)) : (va.all fun p => (valueAt vb p.1).isSome && true) = true := by
  refine List.all_eq_true.mpr fun p hp => ?_
  rw [Bool.and_true, ← RelO.isSome_eq (rb.val p.1), ← valV_any]
  obtain ⟨q, hq, e⟩ := List.mem_map.mp (h p hp)
  exact List.any_eq_true.mpr ⟨q, hq, decide_eq_true e⟩
theorem eqx_tree {X : Cx} {pins : List (Addr × Obj)} {σ : L2.St} {s : Shared} : ∀ (n : Nat) {H : Hp} {x y : V} {u v : Value}, Inv X pins σ H s → EqX n H x y → RelV x u → RelV y v → PySem.W.EqTree X.prog X.w s n u v true
  | 0, H, x, y, u, v, I, h, ru, rv => by
    obtain ⟨lx, e⟩ := h
    subst e
    exact .leaf fun A _ => eqAt_same ru rv (by cases lx <;> rfl)
  | n + 1, H, x, y, u, v, I, h, ru, rv => by
    rcases h with h | ⟨a, b, xs, ys, rfl, rfl, h3, h4, h5, h6⟩ | ⟨a, b, xs, ys, rfl, rfl, h3, h4, h5, h6⟩ | ⟨h0, a, b, ks, ls, ss, rfl, rfl, h3, h4, h5, h6, h7, h8, h9⟩
    · exact tree_up (eqx_tree n I h ru rv)
    · cases ru; cases rv
      by_cases hab : a = b
      · subst hab; exact .same
      obtain ⟨its, r, pl, _⟩ := I.list (SqL.of h3)
      obtain ⟨its2, r2, pl2, _⟩ := I.list (SqL.of h4)
      have l1 := r.length
      have l2 := r2.length
      have l3 := paired_len h6
      have t := PySem.W.EqTree.lists (prog := X.prog) (w := X.w) (n := n) (e := fun _ => true) hab pl.isList pl2.isList (by simp only [List.size_toArray]; omega) fun j h1 h2 => by
        simp only [List.size_toArray] at h1 h2
        have e1 : xs[j]? = some xs[j] := List.getElem?_eq_getElem (by omega)
        have e2 : ys[j]? = some ys[j] := List.getElem?_eq_getElem (by omega)
        obtain ⟨u1, q1, p1⟩ := r.get e1
        obtain ⟨u2, q2, p2⟩ := r2.get e2
        have q1 : its.toArray[j] = u1 := by
          have : its[j]? = some its[j] := List.getElem?_eq_getElem h1
          rw [this] at q1; simpa using Option.some.inj q1
        have q2 : its2.toArray[j] = u2 := by
          have : its2[j]? = some its2[j] := List.getElem?_eq_getElem h2
          rw [this] at q2; simpa using Option.some.inj q2
        rw [q1, q2]
        exact eqx_tree n I (paired_at h6 e1 e2) p1 p2
      have e : (List.range its.toArray.size).all (fun _ => true) = true := by simp
      rwa [e] at t
    · cases ru; cases rv
      by_cases hab : a = b
      · subst hab; exact .same
      obtain ⟨its, r, pl, _⟩ := I.tuple (SqT.of h3)
      obtain ⟨its2, r2, pl2, _⟩ := I.tuple (SqT.of h4)
      have l1 := r.length
      have l2 := r2.length
      have l3 := paired_len h6
      have t := PySem.W.EqTree.tuples (prog := X.prog) (w := X.w) (n := n) (e := fun _ => true) hab pl pl2 fun j h1 h2 => by
        simp only [List.size_toArray] at h1 h2
        have e1 : xs[j]? = some xs[j] := List.getElem?_eq_getElem (by omega)
        have e2 : ys[j]? = some ys[j] := List.getElem?_eq_getElem (by omega)
        obtain ⟨u1, q1, p1⟩ := r.get e1
        obtain ⟨u2, q2, p2⟩ := r2.get e2
        have q1 : its.toArray[j] = u1 := by
          have : its[j]? = some its[j] := List.getElem?_eq_getElem h1
          rw [this] at q1; simpa using Option.some.inj q1
        have q2 : its2.toArray[j] = u2 := by
          have : its2[j]? = some its2[j] := List.getElem?_eq_getElem h2
          rw [this] at q2; simpa using Option.some.inj q2
        rw [q1, q2]
        exact eqx_tree n I (paired_at h6 e1 e2) p1 p2
      have e : ((List.range (min its.toArray.size its2.toArray.size)).all (fun _ => true) && its.toArray.size == its2.toArray.size) = true := by
        simp only [List.size_toArray]
        simp; omega
      rwa [e] at t
    · cases ru; cases rv
      by_cases hab : a = b
      · subst hab; exact .same
      obtain ⟨_, ya, va, ra, da⟩ := (show ObjOk X.prog X.w H s.heap a (.dK ks) from I.hok a _ h3)
      obtain ⟨_, yb, vb, rb, db⟩ := (show ObjOk X.prog X.w H s.heap b (.dK ls) from I.hok b _ h4)
      have ndl : (ls.map (·.1)).Nodup := by rw [h6]; exact inr_nd' h7
      have ekl : ks.map (·.1) = ls.map (·.1) := h5.trans h6.symm
      have t := PySem.W.EqTree.dicts (knd := mixKind X.prog X.w) (n := n) (e := fun _ => true) hab ya yb da db (kv_tree ra rb ndl ekl h9 fun x y u v z r1 r2 => eqx_tree n I (EqX.same n cut_le z) r1 r2)
      have l1 : va.length = vb.length := by rw [← paired_len ra, ← paired_len rb]; exact paired_len h9
      have e : (va.length == vb.length && va.all fun p => (valueAt vb p.1).isSome && true) = true := by
        rw [all_some rb, l1]
        · simp
        · intro p hp
          rw [← ekl, KV.keys ra]
          exact List.mem_map_of_mem hp
      rwa [e] at t
/-- == of two alike dicts -/
theorem op_eqDX {X : Cx} (n : Nat) (hu : X.A.units + (n + 1) < cLine) : OpR X (compareOp .Eq) (fun x y H Q => ∃ (a b : Addr) (ks ls : List (Key × V)) (ss : List Str), x = .ref a ∧ y = .ref b ∧ H a = some (.dK ks) ∧ H b = some (.dK ls) ∧ ks.map (·.1) = ss.map Sum.inr ∧ ls.map (·.1) = ss.map Sum.inr ∧ ss.Nodup ∧ Paired (fun p q => EqX n H p.2 q.2) ks ls ∧ Q (.bl true) H) := by
  intro pins s σ H x y v u Q I rx ry h
  obtain ⟨a, b, ks, ls, ss, rfl, rfl, h3, h4, h5, h6, h7, h9, q⟩ := h
  obtain rfl : v = Value.ref a := rx
  obtain rfl : u = Value.ref b := ry
  obtain ⟨_, ya, va, ra, da⟩ := (show ObjOk X.prog X.w H s.heap a (.dK ks) from I.hok a _ h3)
  obtain ⟨_, yb, vb, rb, db⟩ := (show ObjOk X.prog X.w H s.heap b (.dK ls) from I.hok b _ h4)
  have ndl : (ls.map (·.1)).Nodup := by rw [h6]; exact inr_nd' h7
  have ekl : ks.map (·.1) = ls.map (·.1) := h5.trans h6.symm
  have l1 : va.length = vb.length := by rw [← paired_len ra, ← paired_len rb]; exact paired_len h9
  have e : (va.length == vb.length && va.all fun p => (valueAt vb p.1).isSome && true) = true := by
    rw [all_some rb, l1]
    · simp
    · intro p hp
      rw [← ekl, KV.keys ra]
      exact List.mem_map_of_mem hp
  exact PySem.W.eq_dictsT (knd := mixKind X.prog X.w) (n := n) (e := fun _ => true) ya yb da db (kv_tree ra rb ndl ekl h9 fun x y u v z r1 r2 => eqx_tree n I z r1 r2) hu (fin_bl I q e.symm)
abbrev CExact (P : Program) (w : World) (K : PySem.W.Frag) (mg : Str → Option Value) (base : Heap) (n : Nat) := Cal P w K mg base "_law_exact" (n + 1) ["_law_mine", "_law_theirs"] (spExact n)
theorem eqx_rows {H : Hp} : ∀ {ks ls : List (Key × V)} {bk : Bk}, Rows H ks bk → Rows H ls bk → (∀ r ∈ bk, (r.2.2.map (·.1)).Nodup ∧ r.2.2.length ≤ 10000) → Paired (fun p q => EqX 3 H p.2 q.2) ks ls
  | _, _, _, .nil, .nil, _ => .nil
  | _, _, _, .cons (b := r) h1 t1, .cons h2 t2, hb => by
    refine .cons ?_ (eqx_rows t1 t2 fun r hr => hb r (List.mem_cons_of_mem _ hr))
    obtain ⟨_, t, a, e1, g1, g2⟩ := h1
    obtain ⟨_, t', a', e1', g1', g2'⟩ := h2
    rw [e1, e1']
    obtain ⟨nd, ll⟩ := hb r List.mem_cons_self
    refine .inr (.inr (.inl ⟨t, t', _, _, rfl, rfl, g1, g1', by show 2 ≤ 10000; decide, .cons (eqx_str _) (.cons ?_ .nil)⟩))
    have ek : (kT r.2.2).map (·.1) = (r.2.2.map (·.1)).map Sum.inr := by rw [kT, List.map_map, List.map_map]; rfl
    refine .inr (.inr (.inr ⟨Nat.le_refl _, a, a', kT r.2.2, kT r.2.2, r.2.2.map (·.1), rfl, rfl, g2, g2', ek, ek, nd, by rw [List.length_map]; exact ll, ?_⟩))
    have : ∀ l : List (Str × Str), Paired (fun (p q : Key × V) => EqX 1 (cut [a] H) p.2 q.2) (kT l) (kT l) := fun l => by
      induction l with
      | nil => exact .nil
      | cons p l ih => exact .cons (eqx_str p.2) ih
    exact this _
theorem rows_cut {H : Hp} {a : Addr} {ks : List (Key × V)} {bk : Bk} (h1 : H a = some (.dK ks)) (r1 : Rows H ks bk) (ne : bk ≠ []) : ∀ {kv2 : List (Key × V)} {bk2 : Bk}, Rows H kv2 bk2 → Rows (cut [a] H) kv2 bk2 := fun {kv2 bk2} h2 => by
  unfold Rows at h2 ⊢
  induction h2 with
  | nil => exact .nil
  | cons g _ ih =>
    obtain ⟨e, t, a', ev, ht, ha⟩ := g
    have n1 : t ≠ a := fun z => by rw [z, h1] at ht; cases ht
    have n2 : a' ≠ a := book_ne h1 r1 ne ha
    exact .cons ⟨e, t, a', ev, by rw [cut_out (by simpa using n1)]; exact ht, by rw [TurnsAt, cut_out (by simpa using n2)]; exact ha⟩ ih
/-- two books that read alike -/
theorem eqx_book {H : Hp} {a b : Addr} {bk : Bk} (ha : BookAt H a bk) (hb : BookAt H b bk) (ok : BOk bk) (ne : bk ≠ []) : EqX 4 H (.ref a) (.ref b) := by
  obtain ⟨ks, h1, r1⟩ := ha
  obtain ⟨ls, h2, r2⟩ := hb
  have e1 : ks.map (·.1) = (bk.map (·.1)).map Sum.inr := by rw [r1.keys, List.map_map]; rfl
  have e2 : ls.map (·.1) = (bk.map (·.1)).map Sum.inr := by rw [r2.keys, List.map_map]; rfl
  have hrs : ∀ r ∈ bk, (r.2.2.map (·.1)).Nodup ∧ r.2.2.length ≤ 10000 := fun r hr => ⟨(ok.rs r hr).1, by have := (ok.rs r hr).2; omega⟩
  refine .inr (.inr (.inr ⟨by decide, a, b, ks, ls, bk.map (·.1), rfl, rfl, h1, h2, e1, e2, ok.nd, by rw [List.length_map]; have := ok.len; omega, ?_⟩))
  exact eqx_rows (rows_cut h1 r1 ne r1) (rows_cut h1 r1 ne r2) hrs
section
variable {P : Program} {w : World} {K : PySem.W.Frag} {mg : Str → Option Value} {base : Heap} {C : Addr}
/-- two desks that read alike -/
def REq (C : Addr) : Addr → Addr → Hp → Prop := fun q r H => ∃ bk st, DeskAt C H q bk st ∧ DeskAt C H r bk st ∧ DOk bk st
theorem scDe : FnScope ["self", "other"] ["self", "other"] (defScope sDEq) := ⟨rfl, rfl, rfl, by decide +kernel, rfl, by decide +kernel, by decide +kernel⟩
theorem ok_deq {f : Addr} {fd : FuncData} (F : Fun K "__eq__" "Desk.__eq__" sDEq f fd) (T : Free3 mg) (D : DTxt K mg C) (c : C8.InsC K C) : FnOk P w K mg base CX0 1 f fd ["self", "other"] (spEq (REq C)) := by
  refine F.ok scDe (fun vs H Q E h => ?_) (fun cdv A outer s H vs Q E hr h => ?_)
  · obtain ⟨a, b, rfl, _⟩ := h; rfl
  · obtain ⟨q, r, rfl, ⟨bk, st, ⟨dx, b, hq, hb⟩, ⟨dy, b', hr2, hb'⟩, ok⟩, k⟩ := h
    refine ⟨_, pss_one (ps_ret (pe_and (pe_callB (C8.call_isC c) (by rfl) T.isi (by decide +kernel) (pa_cons (pv 1) (pa_cons (pe_glob (v := .ref C) rfl D.mgC rfl) pa_nil))) (pe_and (pe_cmpR (op_eqDX 3 (Nat.lt_of_le_of_lt (Nat.add_le_add_left (by decide : 4 ≤ 64) _) hr.units)) (pe_fld (pv 0) rfl) (pe_fld (pv 1) rfl) (nomark _)) (pe_one (pe_cmpR op_eq (pe_fld (pv 0) rfl) (pe_fld (pv 1) rfl) (nomark _)))))), ?_⟩
    have ob := ok.obok
    have e := eqx_book hb hb' ob (ordB_ne ok.ne)
    obtain ⟨ks, h1, r1⟩ := hb
    obtain ⟨ls, h2, r2⟩ := hb'
    have e1 : ks.map (·.1) = ((ordB bk).map (·.1)).map Sum.inr := by rw [r1.keys, List.map_map]; rfl
    have e2 : ls.map (·.1) = ((ordB bk).map (·.1)).map Sum.inr := by rw [r2.keys, List.map_map]; rfl
    have hrs : ∀ r ∈ ordB bk, (r.2.2.map (·.1)).Nodup ∧ r.2.2.length ≤ 10000 := fun r hr => ⟨(ob.rs r hr).1, by have := (ob.rs r hr).2; omega⟩
    refine ⟨_, rfl, r, dy, _, rfl, hr2, true, rfl, iteT ?_⟩
    refine ⟨_, rfl, q, C, dx, _, _, rfl, hq, D.cl, D.nB, dflds_book _ _, _, rfl, r, C, dy, _, _, rfl, hr2, D.cl, D.nB, dflds_book _ _, ?_⟩
    refine ⟨b, b', ks, ls, _, rfl, rfl, h1, h2, e1, e2, ob.nd, eqx_rows r1 r2 hrs, true, rfl, iteT ?_⟩
    refine ⟨_, rfl, q, C, dx, _, _, rfl, hq, D.cl, D.nS, dflds_start _ _, _, rfl, r, C, dy, _, _, rfl, hr2, D.cl, D.nS, dflds_start _ _, rfl, ?_⟩
    rw [decide_eq_true rfl]
    exact k H fun _ _ e => e
theorem pair_app {α β : Type} {R : α → β → Prop} {xs : List α} {ys : List β} {x : α} {y : β} (h : Paired R xs ys) (e : R x y) : Paired R (xs ++ [x]) (ys ++ [y]) := by
  induction h with
  | nil => exact .cons e .nil
  | cons a _ ih => exact .cons a ih
theorem unl_at {H : Hp} {b p : Addr} {u o : HO} {od : Obj} {xs : List V} (h : H b = some (.frz od u)) (e : H p = some (.tup xs)) : (L2.upd H b o) p = some (.tup xs) := by
  rw [upd_ne fun z => by rw [z, h] at e; cases e]; exact e
theorem merge_id2 {kvs : List (Key × V)} (nd : (kvs.map (·.1)).Nodup) : mergeK [] kvs = kvs := by
  have h : ∀ (more acc : List (Key × V)), (∀ p ∈ more, p.1 ∉ acc.map (·.1)) → (more.map (·.1)).Nodup → mergeK acc more = acc ++ more := by
    intro more
    induction more with
    | nil => intro acc _ _; exact (List.append_nil _).symm
    | cons p r ih =>
      intro acc h nd
      have nd' := List.nodup_cons.mp nd
      show mergeK (putK acc p.1 p.2) r = _
      rw [D1.putK_new (h p List.mem_cons_self), ih _ ?_ nd'.2, List.append_assoc]
      · rfl
      · intro q hq z
        rw [List.map_append] at z
        rcases List.mem_append.mp z with z | z
        · exact h q (List.mem_cons_of_mem _ hq) z
        · have : q.1 = p.1 := List.mem_singleton.mp z
          exact nd'.1 (by show p.1 ∈ _; rw [← this]; exact List.mem_map_of_mem hq)
  rw [h kvs [] (by simp) nd]; rfl
theorem rows_unl {H : Hp} {b : Addr} {u o : HO} {od : Obj} {kvs : List (Key × V)} {bk : Bk} (hb : H b = some (.frz od u)) (h : Rows H kvs bk) : Rows (L2.upd H b o) kvs bk := by
  unfold Rows at h ⊢
  induction h with
  | nil => exact .nil
  | cons h1 _ ih =>
    obtain ⟨e, t, a, ev, ht, ha⟩ := h1
    refine .cons ⟨e, t, a, ev, ?_, ?_⟩ ih
    · rw [upd_ne fun z => by rw [z, hb] at ht; cases ht]; exact ht
    · rw [TurnsAt, upd_ne fun z => by rw [TurnsAt, z, hb] at ha; cases ha]; exact ha
/-- the law's desk of a world -/
abbrev sLDesk : Stmt := top 45
def spLDesk (C : Addr) : Sp := fun vs H Q _ => ∃ (W : Addr) (bk : Bk) (st : Str), vs = [.ref W] ∧ WorldAt H W bk st ∧ DOk bk st ∧ ∀ H' q, Same H H' → H q = none → DeskAt C H' q bk st → Q (.ref q) H'
abbrev CMInit (P : Program) (w : World) (K : PySem.W.Frag) (mg : Str → Option Value) (base : Heap) (C : Addr) : Prop := ∃ f fd, Mk K C f ∧ FnOk P w K mg base CX0 4 f fd ["self", "book", "start"] (spDInit C) ∧ Binds K fd ["self", "book", "start"] []
theorem scLd : FnScope ["_law_world_here", "_law_state"] ["_law_world_here"] (defScope sLDesk) := ⟨rfl, rfl, rfl, by decide +kernel, rfl, by decide +kernel, by decide +kernel⟩
theorem ok_ldesk {f : Addr} {fd : FuncData} (F : Fun K "_law_desk" "_law_desk" sLDesk f fd) (T : Free3 mg) (D : DTxt K mg C) (MI : CMInit P w K mg base C) : FnOk P w K mg base CX0 6 f fd ["_law_world_here"] (spLDesk C) := by
  obtain ⟨fI, fdI, mI, FI, bI⟩ := MI
  refine F.ok scLd (fun vs H Q E h => ?_) (fun cdv A outer s H vs Q E hr h => ?_)
  · obtain ⟨W, bk, st, rfl, _⟩ := h; rfl
  · obtain ⟨W, bk, st, rfl, ⟨b, hW, ⟨kvs, hb, hR⟩⟩, ok, k⟩ := h
    have hu := hu_of hr
    refine ⟨_, pss_one (ps_ret (pe_make mI FI (hr.mono (by decide)) rfl D.mgC bI .nil pass0 (pa_cons (pe_callTy (call_dictP rfl) (by rfl) T.dict (by decide +kernel) (pa_cons (pe_lock (pe_lc (own := [("_law_state", 1)]) (g := gName 1) (tt := tYes)
        (te := tTup (tCons (tVar 1) (tCons (tTup (tCons (tOp (rIxT K) (tDGet (tOp (rIxL K) (tVar 0) (tC (.int 0))) (tVar 1)) (tC (.int 0))) (tCons (tCB (fun xs H Q => ∃ (a : Addr) (kvs : List (Key × V)), xs = [.ref a] ∧ Rd H a (.dK kvs) ∧ ∀ p, H p = none → Q (.ref p) (L2.upd H p (.dK kvs))) (tCons (tOp (rIxT K) (tDGet (tOp (rIxL K) (tVar 0) (tC (.int 0))) (tVar 1)) (tC (.int 1))) tNil)) tNil))) tNil)))
        rfl scLd.nd (pi_keys (pe_ix ix_list (pv 0) pe_int (fun _ _ => rfl)))
        (blkOk_by (N := ["_law_world_here", "_law_state"]) (sc := defScope sLDesk) (by decide +kernel)) (fun _ _ _ _ _ => pg_name (i := 1) scLd.nd rfl (Or.inl rfl)) (fun _ _ _ _ _ => pts_nil)
        (fun _ _ _ _ _ => pe_tup (pa_cons (pv 1) (pa_cons (pe_tup (pa_cons (pe_ix ix_tup (pe_dget hu (pe_ix ix_list (pv 0) pe_int (fun _ _ => rfl)) (pv 1) (fun _ _ => rfl)) pe_int (fun _ _ => rfl)) (pa_cons (pe_callTy call_dictD (by rfl) T.dict (by decide +kernel) (pa_cons (pe_ix ix_tup (pe_dget hu (pe_ix ix_list (pv 0) pe_int (fun _ _ => rfl)) (pv 1) (fun _ _ => rfl)) pe_int (fun _ _ => rfl)) pa_nil)) pa_nil))) pa_nil))))) pa_nil))
        (pa_cons (pe_ix ix_list (pv 0) pe_int (fun _ _ => rfl)) pa_nil)))), ?_⟩
    have a0 : ∀ {H' : Hp}, Same H H' → ∃ xs, xs = ([.ref b, .str st] : List V) ∧ H' W = some (.lst xs) := fun s => ⟨_, rfl, s _ _ hW⟩
    refine ⟨b, _, hb, trivial, fun od => ?_⟩
    have nWb : W ≠ b := fun e => by rw [e, hb] at hW; cases hW
    have hWL : (L2.upd H b (.frz od (.dK kvs))) W = some (.lst [.ref b, .str st]) := by rw [upd_ne nWb]; exact hW
    have hRL := hR.lock (o := .frz od (.dK kvs)) hb ok.ne
    refine ⟨_, rfl, W, _, _, _, rfl, rfl, SqL.of hWL, atI_nat (j := 0) rfl, b, od, rfl, .inl ⟨kvs, upd_same, fun M hM => ?_⟩⟩
    have nM : b ≠ M := fun e => by rw [← e, upd_same] at hM; cases hM
    have lb := ok.len
    refine lc_it (walk_keys (d := b) (o := od) (kvs := kvs)) (fun i H' => Same (L2.upd H b (.frz od (.dK kvs))) H' ∧ ∃ (ps : List Addr) (kv2 : List (Key × V)), H' M = some (.lst (ps.map V.ref)) ∧ Paired (fun p (kv : Key × V) => (cut [M] H') p = some (.tup [kV kv.1, kv.2])) ps kv2 ∧ Rows (cut [M] H') kv2 (bk.take i)) ⟨Same.new hM, [], [], upd_same, .nil, .nil⟩ (fun i H' _ z => z.1 _ _ upd_same) ?_ ?_
    · rintro i x H2 H3 hi ⟨sm, ps, kv2, hM2, hp, hR2⟩ ⟨rfl, kk, v0, hkv, rfl⟩
      obtain ⟨r, hr', rfl, _⟩ := hR.at hkv
      have hrm : r ∈ bk := List.mem_of_getElem? hr'
      have hs : r.1 ∈ bk.map (·.1) := List.mem_map_of_mem hrm
      obtain ⟨v, ev, ⟨t, a, rfl, ht, ha⟩, _⟩ := (hRL.same sm).look hs
      rw [rowOf_self ok.nd hrm] at ht ha
      have hW3 := SqL.of (K := K) (sm _ _ hWL)
      have hil : i < bk.length := (List.getElem?_eq_some_iff.mp hr').1
      have dg : ∀ {H4 : Hp}, Same H3 H4 → DGet H4 b (V.str r.1) (some (.ref t)) := fun s => .inl ⟨kvs, .inr r.1, .inr ⟨od, s _ _ (sm _ _ upd_same)⟩, rfl, ev.symm⟩
      refine ⟨rfl, ?_⟩
      dsimp only [tYes]
      rw [if_pos rfl]
      refine ⟨_, rfl, _, rfl, W, _, _, _, rfl, rfl, hW3, atI_nat (j := 0) rfl, _, rfl, b, _, rfl, dg (Same.refl _), t, _, _, _, rfl, rfl, SqT.of ht, atI_nat (j := 0) rfl, ?_⟩
      refine ⟨_, rfl, W, _, _, _, rfl, rfl, hW3, atI_nat (j := 0) rfl, _, rfl, b, _, rfl, dg (Same.refl _), t, _, _, _, rfl, rfl, SqT.of ht, atI_nat (j := 1) rfl, a, kT r.2.2, rfl, .inl ha, fun E1 hE1 => ?_⟩
      refine ⟨by show 2 ≤ sizeLine; decide, fun T1 hT1 => ⟨by show 2 ≤ sizeLine; decide, fun T2 hT2 => ?_⟩⟩
      have g1 := Same.new (o := .dK (kT r.2.2)) hE1
      have g2 := Same.new (o := .tup [.str r.2.1, .ref E1]) hT1
      have g3 := Same.new (o := .tup [.str r.1, .ref T1]) hT2
      have g := Same.trans (Same.trans g1 g2) g3
      have nE : E1 ≠ M := fun e => by rw [e, hM2] at hE1; cases hE1
      have nT : T1 ≠ M := fun e => by rw [e, g1 _ _ hM2] at hT1; cases hT1
      have nT2 : T2 ≠ M := fun e => by rw [e, g2 _ _ (g1 _ _ hM2)] at hT2; cases hT2
      have lps : ps.length = kv2.length := paired_len hp
      have lkv : kv2.length = i := by rw [hR2.len, List.length_take]; omega
      refine ⟨_, g _ _ hM2, by rw [List.length_map, lps, lkv, sizeLine_eq]; omega, fun c u e => ?_, ps ++ [T2], kv2 ++ [(.inr r.1, .ref T1)], by rw [upd_same, List.map_append]; rfl, ?_, ?_⟩
      · rw [upd_ne (ne_of_none e hM)]; exact g _ _ (sm _ _ e)
      · rw [cut_upd (by simp)]
        have hp' := paired_imp (R' := fun p (kv : Key × V) => (cut [M] (L2.upd (L2.upd (L2.upd H3 E1 (.dK (kT r.2.2))) T1 (.tup [.str r.2.1, .ref E1])) T2 (.tup [.str r.1, .ref T1]))) p = some (.tup [kV kv.1, kv.2])) (fun p kv e => cut_same g _ _ e) hp
        exact pair_app hp' (by rw [cut_out (by simpa using nT2)]; exact upd_same)
      · rw [cut_upd (by simp), take_succ_get hr']
        refine (hR2.same (cut_same g)).app ⟨T1, E1, rfl, ?_, ?_⟩
        · rw [cut_out (by simpa using nT)]; exact g3 _ _ upd_same
        · rw [TurnsAt, cut_out (by simpa using nE)]; exact g3 _ _ (g2 _ _ upd_same)
    · rintro H2 ⟨sm, ps, kv2, hM2, hp, hR2⟩
      have hl : kvs.length = bk.length := hR.len
      rw [hl, List.take_length] at hR2
      have su := Same.unlock hb sm
      have hp3 : Paired (fun p (kv : Key × V) => SqT K (L2.upd H2 b (.dK kvs)) p [kV kv.1, kv.2]) ps kv2 := paired_imp (fun p kv e => SqT.of (unl_at (sm _ _ upd_same) (cut_le _ _ e))) hp
      refine ⟨sm _ _ upd_same, M, ps, kv2, rfl, SqL.of (by rw [upd_ne nM.symm]; exact hM2), hp3, fun B hB => ?_⟩
      have e1 : kv2.map (·.1) = (bk.map (·.1)).map Sum.inr := by rw [hR2.keys, List.map_map]; rfl
      rw [merge_id2 (by rw [e1]; exact inr_nd' ok.nd)]
      have hR3 : Rows (L2.upd H2 b (.dK kvs)) kv2 bk := rows_unl (sm _ _ upd_same) (hR2.same cut_le)
      have s3 := Same.new (o := .dK kv2) hB
      refine ⟨_, rfl, W, _, _, _, rfl, rfl, SqL.of (s3 _ _ (su _ _ hW)), atI_nat (j := 1) rfl, fun q dx hq hdx ndx => ?_⟩
      have s4 : Same H (L2.upd (L2.upd (L2.upd (L2.upd H2 b (.dK kvs)) B (.dK kv2)) dx (.own q)) q (.ins C dx [])) := fun c u e => by
        have e3 := s3 _ _ (su _ _ e)
        rw [upd_ne (ne_of_none e3 hq), upd_ne (ne_of_none e3 hdx)]; exact e3
      have hq0 : H q = none := (Same.trans su s3).free hq
      refine ⟨q, dx, B, bk, st, rfl, upd_same, ⟨kv2, ?_, ?_⟩, ok, fun H5 b5 hd => ⟨rfl, k H5 q (fun c u e => ?_) hq0 hd⟩⟩
      · have z := upd_same (H := L2.upd H2 b (.dK kvs)) (a := B) (o := .dK kv2)
        rw [upd_ne (ne_of_none z hq), upd_ne (ne_of_none z hdx)]; exact z
      · refine (hR3.same s3).same fun c u e => ?_
        rw [upd_ne (ne_of_none e hq), upd_ne (ne_of_none e hdx)]; exact e
      · exact b5 _ _ (ne_of_none e hq0) (s4 _ _ e)
end
end D1
end L2
/-! behind, spoken, talk_of, talks (the law's) -/
namespace L2
namespace D1
open PySem PySem.Spec PyProof.Rows
abbrev sBehind : Stmt := top 47
abbrev sLSpoken : Stmt := top 54
def spBehind : Sp := fun vs H Q _ => ∃ (W L : Addr) (bk : Bk) (st : Str) (way : List Str), vs = [.ref W, .ref L] ∧ WorldAt H W bk st ∧ DOk bk st ∧ SL H L way ∧ Q (optV (walkB bk st way)) H
def spLSpoken : Sp := fun vs H Q _ => ∃ (W L : Addr) (bk : Bk) (st s : Str) (way : List Str), vs = [.ref W, .ref L] ∧ WorldAt H W bk st ∧ DOk bk st ∧ SL H L way ∧ way.length ≤ 1000 ∧ walkB bk st way = some s ∧ ∀ (H' : Hp) (R : Addr), Same H H' → H R = none → PairsAt H' R (spokenB bk st way) → Q (.ref R) H'
section
variable {P : Program} {w : World} {K : PySem.W.Frag} {mg : Str → Option Value} {base : Heap} {C : Addr}
theorem scBe : FnScope ["_law_world_here", "_law_talk", "_law_state", "_law_word_here"] ["_law_world_here", "_law_talk"] (defScope sBehind) := ⟨rfl, rfl, rfl, by decide +kernel, rfl, by decide +kernel, by decide +kernel⟩
theorem ok_behind {f : Addr} {fd : FuncData} (F : Fun K "_law_behind" "_law_behind" sBehind f fd) : FnOk P w K mg base CX0 1 f fd ["_law_world_here", "_law_talk"] spBehind := by
  refine F.ok scBe (fun vs H Q E h => ?_) (fun cdv A outer s H vs Q E hr h => ?_)
  · obtain ⟨W, L, bk, st, way, rfl, _⟩ := h; rfl
  · obtain ⟨W, L, bk, st, way, rfl, ⟨b, hW, ⟨kvs, hb, hR⟩⟩, ok, hL, k⟩ := h
    have hu := hu_of hr
    refine ⟨_, pss_cons (ps_set (i := 2) scBe.nd rfl (Or.inl rfl) (pe_ix ix_list (pv 0) pe_int (fun _ _ => rfl)))
      (pss_cons (ps_for PassesOwn.never rfl (pi_list (pv 1)) (pg_name (i := 3) scBe.nd rfl (Or.inl rfl))
        (pss_one (ps_if (pt_cmp (pc_notN (pv 2)) rfl) (pss_one (ps_set (i := 2) scBe.nd rfl (Or.inl rfl) (pe_dget2 hu (pe_ix ix_tup (pe_dget hu (pe_ix ix_list (pv 0) pe_int (fun _ _ => rfl)) (pv 2) (fun _ _ => rfl)) pe_int (fun _ _ => rfl)) (pv 3) pe_non (by constructor <;> rfl)))) pss_nil)))
      (pss_one (ps_ret (pv 2)))), ?_⟩
    refine ⟨_, rfl, W, _, _, _, rfl, rfl, SqL.of hW, atI_nat (j := 1) rfl, ?_⟩
    refine ⟨_, rfl, L, rfl, ⟨_, hL.sq⟩, ?_⟩
    refine for_list (K := K) (a := L) (xs := way.map V.str) (fun i σ H' => ∃ (v : Option V) (o : Option Str), σ = [some (.ref W), some (.ref L), some (optV o), v] ∧ H' = H ∧ (∀ s, o = some s → s ∈ bk.map (·.1)) ∧ o.bind (fun s => walkB bk s (way.drop i)) = walkB bk st way) ⟨none, some st, rfl, rfl, fun s e => by cases e; exact ok.st, rfl⟩ (fun i σ H' _ ⟨_, _, _, e, _⟩ => by rw [e]; exact hL.sq) ?_ ?_
    · rintro i x σ H' hx ⟨v, o, rfl, rfl, hn, ew⟩
      obtain ⟨z, hz, rfl⟩ := get_map hx
      have hi : i < way.length := (List.getElem?_eq_some_iff.mp hz).1
      have hd : way.drop i = z :: way.drop (i + 1) := by
        rw [List.drop_eq_getElem_cons hi]
        congr 1
        rw [List.getElem?_eq_getElem hi] at hz
        exact Option.some.inj hz
      cases o with
      | none =>
        refine ⟨_, rfl, _, rfl, ?_⟩
        refine (if_neg (by decide)).mpr ⟨_, none, rfl, rfl, fun s e => (by cases e), ew⟩
      | some node =>
        have hm := hn node rfl
        obtain ⟨v', ev, ⟨t, a, rfl, ht, ha⟩, _⟩ := hR.look hm
        have ew : walkB bk node (way.drop i) = walkB bk st way := ew
        rw [hd, walkB] at ew
        refine ⟨_, rfl, _, rfl, ?_⟩
        refine (if_pos (by rw [show decide (optV (some node) = V.non) = false from decide_eq_false fun z => by cases z]; rfl)).mpr ?_
        refine ⟨_, rfl, W, _, _, _, rfl, rfl, SqL.of hW, atI_nat (j := 0) rfl, _, rfl, b, _, rfl, .inl ⟨kvs, .inr node, .inl hb, rfl, ev.symm⟩, t, _, _, _, rfl, rfl, SqT.of ht, atI_nat (j := 1) rfl, ?_⟩
        refine ⟨a, rfl, .inl ⟨_, .inl ha⟩, _, rfl, (nextT (rowOf bk node).2 z).map V.str, .inl ⟨_, .inr z, .inl ha, rfl, by rw [valV_next]⟩, ?_⟩
        refine ⟨some (.str z), nextT (rowOf bk node).2 z, ?_, rfl, fun s e => ?_, ?_⟩
        · cases nextT (rowOf bk node).2 z <;> rfl
        · obtain ⟨t0, ht0, _, e3⟩ := nextT_mem e
          rw [← e3]; exact (ok.rs _ (row_mem hm)).2.2 t0 ht0
        · rw [← ew]
          cases nextT (rowOf bk node).2 z <;> rfl
    · rintro σ H' ⟨v, o, rfl, rfl, hn, ew⟩
      rw [List.length_map, List.drop_length] at ew
      refine ⟨_, rfl, ?_⟩
      have : o = walkB bk st way := by
        rw [← ew]; cases o <;> rfl
      rw [← this] at k
      exact k
theorem scLs : FnScope ["_law_world_here", "_law_talk", "_law_state", "_law_found", "_law_word_here"] ["_law_world_here", "_law_talk"] (defScope sLSpoken) := ⟨rfl, rfl, rfl, by decide +kernel, rfl, by decide +kernel, by decide +kernel⟩
theorem ok_lspoken {f : Addr} {fd : FuncData} (F : Fun K "_law_spoken" "_law_spoken" sLSpoken f fd) : FnOk P w K mg base CX0 1 f fd ["_law_world_here", "_law_talk"] spLSpoken := by
  refine F.ok scLs (fun vs H Q E h => ?_) (fun cdv A outer s H vs Q E hr h => ?_)
  · obtain ⟨W, L, bk, st, s, way, rfl, _⟩ := h; rfl
  · obtain ⟨W, L, bk, st, s0, way, rfl, ⟨b, hW, ⟨kvs, hb, hR⟩⟩, ok, hL, ll, ew, k⟩ := h
    have hu := hu_of hr
    refine ⟨_, pss_cons (ps_par (i := 2) (j := 3) rfl scLs.nd rfl rfl (by decide) rfl rfl (pa_cons (pe_ix ix_list (pv 0) pe_int (fun _ _ => rfl)) (pa_cons (pe_lst pa_nil) pa_nil)) (by rfl))
      (pss_cons (ps_for PassesOwn.never rfl (pi_list (pv 1)) (pg_name (i := 4) scLs.nd rfl (Or.inl rfl))
        (pss_cons (ps_expr (pe_bm PySem.F.plainAttrs_list PySem.F.slot_list_append PySem.F.type_list_append mt_append (pv 3) (pa_cons (pe_tup (pa_cons (pe_ix ix_tup (pe_dget hu (pe_ix ix_list (pv 0) pe_int (fun _ _ => rfl)) (pv 2) (fun _ _ => rfl)) pe_int (fun _ _ => rfl)) (pa_cons (pv 4) pa_nil))) pa_nil)))
        (pss_one (ps_set (i := 2) scLs.nd rfl (Or.inl rfl) (pe_dget hu (pe_ix ix_tup (pe_dget hu (pe_ix ix_list (pv 0) pe_int (fun _ _ => rfl)) (pv 2) (fun _ _ => rfl)) pe_int (fun _ _ => rfl)) (pv 4) (fun _ _ => rfl))))))
      (pss_one (ps_ret (pv 3)))), ?_⟩
    refine ⟨_, rfl, W, _, _, _, rfl, rfl, SqL.of hW, atI_nat (j := 1) rfl, by decide, fun M hM => ⟨_, _, rfl, ?_⟩⟩
    have nLM : L ≠ M := ne_of_none hL hM
    refine ⟨_, rfl, L, rfl, ⟨_, (hL.new hM).sq⟩, ?_⟩
    refine for_list (K := K) (a := L) (xs := way.map V.str) (fun i σ H' => ∃ (v : Option V) (node : Str) (ts : List Addr) (ps : List (Str × Str)), σ = [some (.ref W), some (.ref L), some (.str node), some (.ref M), v] ∧ Same H H' ∧ H' M = some (.lst (ts.map V.ref)) ∧ Paired (fun t (p : Str × Str) => (cut [M] H') t = some (.tup [.str p.1, .str p.2])) ts ps ∧ ps.length = i ∧ node ∈ bk.map (·.1) ∧ walkB bk node (way.drop i) = some s0 ∧ ps ++ spokenB bk node (way.drop i) = spokenB bk st way)
      ⟨none, st, [], [], rfl, Same.new hM, upd_same, .nil, rfl, ok.st, ew, rfl⟩ (fun i σ H' _ ⟨_, _, _, _, _, z, _⟩ => (hL.same z).sq) ?_ ?_
    · rintro i x σ H' hx ⟨v, node, ts, ps, rfl, sm, hM', hp, lp, hn, ew', es⟩
      obtain ⟨z, hz, rfl⟩ := get_map hx
      have hi : i < way.length := (List.getElem?_eq_some_iff.mp hz).1
      have hd : way.drop i = z :: way.drop (i + 1) := by
        rw [List.drop_eq_getElem_cons hi]
        congr 1
        rw [List.getElem?_eq_getElem hi] at hz
        exact Option.some.inj hz
      obtain ⟨v', ev, ⟨t, a, rfl, ht, ha⟩, _⟩ := (hR.same sm).look hn
      rw [hd, walkB] at ew'
      cases en : nextT (rowOf bk node).2 z with
      | none => rw [en] at ew'; cases ew'
      | some g =>
        rw [en] at ew'
        obtain ⟨t0, ht0, _, e3⟩ := nextT_mem en
        have lts := prs_len hp
        have hW' := sm _ _ hW
        have hb' := sm _ _ hb
        refine ⟨_, rfl, .inl ⟨rfl, _, SqL.of hM'⟩, _, rfl, W, _, _, _, rfl, rfl, SqL.of hW', atI_nat (j := 0) rfl, _, rfl, b, _, rfl, .inl ⟨kvs, .inr node, .inl hb', rfl, ev.symm⟩, t, _, _, _, rfl, rfl, SqT.of ht, atI_nat (j := 0) rfl, _, rfl, by show 2 ≤ sizeLine; decide, fun T1 hT1 => ?_⟩
        have nTM : T1 ≠ M := fun e => by rw [e, hM'] at hT1; cases hT1
        have naM : a ≠ M := fun e => by rw [TurnsAt, e, hM'] at ha; cases ha
        have ntM : t ≠ M := fun e => by rw [e, hM'] at ht; cases ht
        have nWM : W ≠ M := ne_of_none hW hM
        have nbM : b ≠ M := ne_of_none hb hM
        refine ⟨M, _, _, rfl, rfl, Same.new hT1 _ _ hM', by rw [List.length_map, lts, lp, sizeLine_eq]; omega, ?_⟩
        have g1 : ∀ {c : Addr} {u : HO}, c ≠ M → H' c = some u → (L2.upd (L2.upd H' T1 (.tup [.str (rowOf bk node).1, .str z])) M (.lst (ts.map V.ref ++ [.ref T1]))) c = some u := fun {c u} nc e => by
          rw [upd_ne nc]; exact Same.new hT1 _ _ e
        refine ⟨_, rfl, W, _, _, _, rfl, rfl, SqL.of (g1 nWM hW'), atI_nat (j := 0) rfl, _, rfl, b, _, rfl, .inl ⟨kvs, .inr node, .inl (g1 nbM hb'), rfl, ev.symm⟩, t, _, _, _, rfl, rfl, SqT.of (g1 ntM ht), atI_nat (j := 1) rfl, _, rfl, a, _, rfl, .inl ⟨_, .inr z, .inl (g1 naM ha), rfl, by rw [valV_next, en]; rfl⟩, ?_⟩
        refine ⟨_, g, ts ++ [T1], ps ++ [((rowOf bk node).1, z)], rfl, fun c u e => ?_, by rw [upd_same, List.map_append]; rfl, ?_, by rw [List.length_append, lp]; rfl, ?_, ew', ?_⟩
        · exact g1 (ne_of_none e hM) (sm _ _ e)
        · rw [cut_upd (by simp)]
          exact prs_app (prs_same hp (cut_new hT1)) (by rw [cut_out (by simpa using nTM)]; exact upd_same)
        · rw [← e3]; exact (ok.rs _ (row_mem hn)).2.2 t0 ht0
        · rw [← es, hd, List.append_assoc]
          show ps ++ ([((rowOf bk node).1, z)] ++ _) = ps ++ (((rowOf bk node).1, z) :: spokenB bk (goalT (rowOf bk node).2 z) _)
          rw [next_goal en]; rfl
    · rintro σ H' ⟨v, node, ts, ps, rfl, sm, hM', hp, lp, hn, ew', es⟩
      rw [List.length_map, List.drop_length] at es
      have e1 : ps = spokenB bk st way := by rw [← es]; exact (List.append_nil _).symm
      refine ⟨_, rfl, k H' M sm hM ⟨ts, hM', ?_⟩⟩
      rw [← e1]
      exact prs_same hp cut_le
end
end D1
end L2
/-! is_very, talk_of -/
namespace L2
namespace D1
open PySem PySem.Spec PyProof.Rows
abbrev sVery : Stmt := top 49
/-- a list is asked of itself -/
def spVery : Sp := fun vs H Q _ => ∃ (L : Addr) (ss : List Str), vs = [.ref L, .ref L] ∧ SL H L ss ∧ ss.length ≤ 1000 ∧ ∀ H', Same H H' → Q (.bl true) H'
theorem eqx_list {H : Hp} {a b : Addr} {ss : List Str} (ha : SL H a ss) (hb : SL H b ss) (l : ss.length ≤ 10000) : EqX 1 H (.ref a) (.ref b) :=
  .inr (.inl ⟨a, b, ss.map V.str, ss.map V.str, rfl, rfl, ha, hb, by rw [List.length_map]; exact l, paired_imp (fun _ _ z => z) (eqx_strs (n := 0) ss)⟩)
section
variable {P : Program} {w : World} {K : PySem.W.Frag} {mg : Str → Option Value} {base : Heap} {C : Addr}
theorem scVe : FnScope ["_law_told", "_law_thing", "_law_right_here"] ["_law_told", "_law_thing"] (defScope sVery) := ⟨rfl, rfl, rfl, by decide +kernel, rfl, by decide +kernel, by decide +kernel⟩
theorem ok_very {f : Addr} {fd : FuncData} (F : Fun K "_law_is_very" "_law_is_very" sVery f fd) (T : Free3 mg) (CE : CExact P w K mg base 1) : FnOk P w K mg base CX0 3 f fd ["_law_told", "_law_thing"] spVery := by
  refine F.ok scVe (fun vs H Q E h => ?_) (fun cdv A outer s H vs Q E hr h => ?_)
  · obtain ⟨L, ss, rfl, _⟩ := h; rfl
  · obtain ⟨L, ss, rfl, hL, ll, k⟩ := h
    refine ⟨_, pss_cons (ps_set (i := 2) scVe.nd rfl (Or.inl rfl) (pe_cal CE (hr.mono (by decide)) rfl (pa_cons (pv 0) (pa_cons (pv 1) pa_nil))))
      (pss_cons (ps_if (PW.pt (pw_and (pt_truth (pv 2) (by intro _; rfl)) (pw_and1 (pt_val (pe_callB call_isi (by rfl) T.isi (by decide +kernel) (pa_cons (pv 1) (pa_cons (pe_bltn (v := .ty "list") rfl T.list (by decide +kernel) rfl) pa_nil)))))))
        (pss_cons (ps_expr (pe_bm PySem.F.plainAttrs_list PySem.F.slot_list_append PySem.F.type_list_append mt_append (pv 1) (pa_cons pe_str pa_nil)))
        (pss_cons (ps_set (i := 2) scVe.nd rfl (Or.inl rfl) (pe_cal CE (hr.mono (by decide)) rfl (pa_cons (pv 0) (pa_cons (pv 1) pa_nil))))
        (pss_one (ps_expr (pe_bm0 PySem.F.plainAttrs_list PySem.F.slot_list_pop PySem.F.type_list_pop mt_pop (pv 1))))))
        (pss_one ps_never))
      (pss_one (ps_ret (pv 2)))), ?_⟩
    refine ⟨_, rfl, _, rfl, _, _, rfl, eqx_list hL hL (by omega), fun H1 s1 => ?_⟩
    have hL1 := hL.same s1
    refine ⟨_, rfl, _, rfl, iteT ⟨_, rfl, _, .ty "list", .type "list", .type "list", true, rfl, .ty _, .base (.lst hL1), kit_ty (by decide +kernel), _, rfl, iteT ?_⟩⟩
    refine ⟨_, rfl, .inl ⟨rfl, _, SqL.of hL1⟩, L, _, _, rfl, rfl, hL1, by rw [List.length_map, sizeLine_eq]; omega, ?_⟩
    have hL2 : SL (L2.upd H1 L (.lst (ss.map V.str ++ [.str "more"]))) L (ss ++ ([("more" : Str)] : List Str)) := by rw [SL, upd_same, List.map_append]; rfl
    refine ⟨_, rfl, _, rfl, _, _, rfl, eqx_list hL2 hL2 (by rw [List.length_append]; show _ + 1 ≤ _; omega), fun H2 s2 => ?_⟩
    have hL3 := hL2.same s2
    refine ⟨_, rfl, .inl ⟨rfl, _, SqL.of hL3⟩, L, _, .str "more", rfl, rfl, hL3, ?_, ?_⟩
    · rw [List.length_map, List.length_append, List.map_append]
      show (ss.map V.str ++ [V.str "more"])[ss.length + 1 - 1]? = _
      rw [Nat.add_sub_cancel, List.getElem?_append_right (by rw [List.length_map]; exact Nat.le_refl _), List.length_map, Nat.sub_self]; rfl
    · refine ⟨_, rfl, k _ fun c u e => ?_⟩
      by_cases hc : c = L
      · rw [hc] at e ⊢
        rw [hL] at e
        cases e
        rw [upd_same, List.map_append]
        show some (HO.lst ((ss.map V.str ++ [V.str "more"]).dropLast)) = _
        rw [List.dropLast_concat]
      · rw [upd_ne hc]
        exact s2 _ _ (by rw [upd_ne hc]; exact s1 _ _ e)
end
end D1
end L2
/-! talk_of -/
namespace L2
namespace D1
open PySem PySem.Spec PyProof.Rows
abbrev sTalkOf : Stmt := top 51
def spTalkOf : Sp := fun vs H Q _ => ∃ (p W : Addr) (bk : Bk) (st : Str) (n t : Int), vs = [.ref p, .ref W, .int n] ∧ Purse H p t ∧ WorldAt (cut [p] H) W bk st ∧ DOk bk st ∧ 0 ≤ n ∧ n ≤ 60 ∧ t < 2 ^ 28 ∧
  ∀ (H' : Hp) (M : Addr) (way : List Str) (t' : Int), But p H H' → H M = none → SL H' M way → way.length ≤ 60 → (∀ x ∈ way, Wd x) → Purse H' p t' → t' ≤ t + n → Q (.ref M) H'
theorem shaped_strs {ss : List Str} (h : ∀ x ∈ ss, Wd x) : SeqAt.shaped (.list (ss.map PyData.str)) = true := by
  have h1 : PyData.canLayAll0 (ss.map PyData.str) = true := by
    induction ss with
    | nil => rfl
    | cons x r ih =>
      have hx : PyData.strOk x = true := by
        unfold PyData.strOk
        rw [Array.all_eq_true_iff_forall_mem]
        intro c hc
        have := (h x List.mem_cons_self).ok c (Array.mem_toList_iff.mpr hc)
        exact decide_eq_true (by omega)
      have := ih fun y hy => h y (List.mem_cons_of_mem _ hy)
      show (PyData.strOk x && _) = true
      rw [hx]
      exact this
  have h2 : PyData.depthAll (ss.map PyData.str) = 0 := by
    clear h h1
    induction ss with
    | nil => rfl
    | cons x r ih =>
      show max 0 (PyData.depthAll (r.map PyData.str)) = 0
      rw [ih]; rfl
  unfold SeqAt.shaped
  rw [Bool.and_eq_true]
  refine ⟨h1, decide_eq_true ?_⟩
  show PyData.depthAll (ss.map PyData.str) + 1 ≤ 64
  rw [h2]; decide
theorem atI_last' {xs : List V} {v : V} (h : xs[xs.length - 1]? = some v) : atI xs (-1) = some v := by
  have hl : 0 < xs.length := by
    rcases Nat.eq_zero_or_pos xs.length with e | e
    · rw [List.length_eq_zero_iff.mp e] at h; cases h
    · exact e
  unfold atI ixN
  rw [if_neg (by decide), if_pos (by omega)]
  show xs[(-1 + (xs.length : Int)).toNat]? = _
  rw [show (-1 + (xs.length : Int)).toNat = xs.length - 1 by omega]
  exact h
theorem dp_strs {K : PySem.W.Frag} {H : Hp} {a : Addr} {ss : List Str} (h : SL H a ss) : Dp K H (.ref a) (.list (ss.map PyData.str)) := by
  refine .lst (SqL.of h) ?_
  have : ∀ l : List Str, DpAll K H (l.map V.str) (l.map PyData.str) := fun l => by
    induction l with
    | nil => exact .nil
    | cons x r ih => exact .cons (.str x) ih
  exact this ss
theorem eqv_nil {ss : List Str} : PyData.eqv (.list (ss.map PyData.str)) (.list []) = decide (ss = []) := by
  cases ss with
  | nil => rfl
  | cons a r => rfl
section
variable {P : Program} {w : World} {K : PySem.W.Frag} {mg : Str → Option Value} {base : Heap} {C : Addr}
theorem scTo : FnScope ["_law_purse_here", "_law_world_here", "_law_size", "_law_talk", "_law_state", "_law_turn", "_law_words_here"] ["_law_purse_here", "_law_world_here", "_law_size"] (defScope sTalkOf) := ⟨rfl, rfl, rfl, by decide +kernel, rfl, by decide +kernel, by decide +kernel⟩
theorem ok_talkof {f : Addr} {fd : FuncData} (F : Fun K "_law_talk_of" "_law_talk_of" sTalkOf f fd) (T : Free3 mg) (CO : COne P w K mg base) : FnOk P w K mg base CX0 4 f fd ["_law_purse_here", "_law_world_here", "_law_size"] spTalkOf := by
  refine F.ok scTo (fun vs H Q E h => ?_) (fun cdv A outer s H vs Q E hr h => ?_)
  · obtain ⟨p, W, bk, st, n, t, rfl, _⟩ := h; rfl
  · obtain ⟨p, W, bk, st, n, t, rfl, hp, ⟨b, hW, ⟨kvs, hb, hR⟩⟩, ok, n0, n1, t1, k⟩ := h
    have hu := hu_of hr
    refine ⟨_, pss_cons (ps_par (i := 3) (j := 4) rfl scTo.nd rfl rfl (by decide) rfl rfl (pa_cons (pe_lst pa_nil) (pa_cons (pe_ix ix_list (pv 1) pe_int (fun _ _ => rfl)) pa_nil)) (by rfl))
      (pss_cons (ps_for PassesOwn.never rfl (pi_range1 rfl T.range (pa_cons (pv 2) pa_nil)) (pg_name (i := 5) scTo.nd rfl (Or.inl rfl))
        (pss_cons (ps_set (i := 6) scTo.nd rfl (Or.inl rfl) (pe_callB (call_sortedD rfl) (by rfl) T.sorted (by decide +kernel) (pa_cons (pe_ix ix_tup (pe_dget hu (pe_ix ix_list (pv 1) pe_int (fun _ _ => rfl)) (pv 4) (fun _ _ => rfl)) pe_int (fun _ _ => rfl)) pa_nil)))
        (pss_one (ps_if (pt_cmpR (op_neD hr.units) (pv 6) (pe_lst pa_nil) (nomark _))
          (pss_cons (ps_expr (pe_bm PySem.F.plainAttrs_list PySem.F.slot_list_append PySem.F.type_list_append mt_append (pv 3) (pa_cons (pe_cal CO (hr.mono (by decide)) rfl (pa_cons (pv 0) (pa_cons (pv 6) pa_nil))) pa_nil)))
          (pss_one (ps_set (i := 4) scTo.nd rfl (Or.inl rfl) (pe_dget hu (pe_ix ix_tup (pe_dget hu (pe_ix ix_list (pv 1) pe_int (fun _ _ => rfl)) (pv 4) (fun _ _ => rfl)) pe_int (fun _ _ => rfl)) (pe_ix ix_list (pv 3) (pe_un un_neg pe_int) (fun _ _ => rfl)) (fun _ _ => rfl))))) pss_nil))))
      (pss_one (ps_ret (pv 3)))), ?_⟩
    have nWp : W ≠ p := fun e => by rw [e, cut_in (by simp)] at hW; cases hW
    refine ⟨by decide, fun M hM => ⟨_, rfl, W, _, _, _, rfl, rfl, SqL.of (by rw [upd_ne (ne_of_none (cut_some hW).2 hM)]; exact (cut_some hW).2), atI_nat (j := 1) rfl, _, _, rfl, ?_⟩⟩
    have nMp := hp.ne hM
    have hc0 : ∀ {c : Addr} {u : HO}, (cut [p] H) c = some u → c ≠ p ∧ c ≠ M := fun {c u} e => by
      obtain ⟨n, e⟩ := cut_some e
      exact ⟨by simpa using n, ne_of_none e hM⟩
    refine ⟨_, rfl, n, rfl, by omega, by omega, ?_⟩
    refine for_range (n := n.toNat) (fun i σ H' => ∃ (v5 v6 : Option V) (node : Str) (way : List Str) (t' : Int), σ = [some (.ref p), some (.ref W), some (.int n), some (.ref M), some (.str node), v5, v6] ∧ But p H H' ∧ Same (cut [p] H) (cut [p, M] H') ∧ SL H' M way ∧ way.length ≤ i ∧ (∀ x ∈ way, Wd x) ∧ node ∈ bk.map (·.1) ∧ Purse H' p t' ∧ t' ≤ t + i)
      ⟨none, none, st, [], t, rfl, But.new hM, fun c u e => by rw [cut_out (by simp [(hc0 e).1, (hc0 e).2]), upd_ne (hc0 e).2]; exact (cut_some e).2, upd_same, Nat.le_refl _, by simp, ok.st, hp.new hM, by omega⟩ ?_ ?_
    · rintro i σ H' hi ⟨v5, v6, node, way, t', rfl, bb, sm, hM', lw, aw, hn, hp', tt⟩
      obtain ⟨v, ev, ⟨t0, a, rfl, ht, ha⟩, _⟩ := (hR.same sm).look hn
      have hW' := cut_le _ _ (sm _ _ hW)
      have hb' := cut_le _ _ (sm _ _ hb)
      have ht' := cut_le _ _ ht
      have ha' : TurnsAt H' a (rowOf bk node).2 := cut_le _ _ ha
      have hm := row_mem hn
      have wl := (ok.bok.rs _ hm).2
      have wn := ok.tk _ hm
      have wr := (ok.rs _ hm).2
      have ek : (kT (rowOf bk node).2).map (·.1) = ((rowOf bk node).2.map (·.1)).map Sum.inr := by rw [kT, List.map_map, List.map_map]; rfl
      refine ⟨_, rfl, W, _, _, _, rfl, rfl, SqL.of hW', atI_nat (j := 0) rfl, _, rfl, b, _, rfl, .inl ⟨kvs, .inr node, .inl hb', rfl, ev.symm⟩, t0, _, _, _, rfl, rfl, SqT.of ht', atI_nat (j := 1) rfl, a, _, (rowOf bk node).2.map (·.1), rfl, .inl ha', ek, by rw [List.length_map]; exact wl, fun ys S pm so hS => ?_⟩
      have aw2 : ∀ y ∈ ys, Wd y ∧ y ∈ (rowOf bk node).2.map (·.1) := fun y hy => by
        have hy' := pm.mem_iff.mp hy
        refine ⟨?_, hy'⟩
        obtain ⟨tt0, htt, rfl⟩ := List.mem_map.mp hy'
        rcases wr.1 with ⟨_, e0⟩ | ⟨_, _, _, q⟩
        · rw [e0] at htt; cases htt
        · exact (q tt0 htt).1
      have ly : ys.length < 64 := by rw [pm.length_eq, List.length_map]; exact wl
      have hS1 : SL (L2.upd H' S (.lst (ys.map V.str))) S ys := upd_same
      have g1 := Same.new (o := .lst (ys.map V.str)) hS
      have hp1 := hp'.new (o := .lst (ys.map V.str)) hS
      have nSM : S ≠ M := fun e => by rw [e, hM'] at hS; cases hS
      have nSp := hp'.ne hS
      generalize L2.upd H' S (.lst (ys.map V.str)) = H1 at hS1 g1 hp1
      refine ⟨_, rfl, by decide, fun N hN => ?_⟩
      have hS2 := hS1.new (o := .lst []) hN
      have hN2 : SL (L2.upd H1 N (.lst [])) N [] := upd_same
      have g2 := Same.trans g1 (Same.new (o := .lst []) hN)
      have hp2 := hp1.new (o := .lst []) hN
      generalize L2.upd H1 N (.lst []) = H2 at hS2 hN2 g2 hp2
      refine ⟨_, _, dp_strs hS2, dp_strs hN2, shaped_strs fun x hx => (aw2 x hx).1, by decide, _, rfl, ?_⟩
      have sm2 : Same (cut [p] H) (cut [p, M] H2) := fun c u e => cut_same g2 _ _ (sm _ _ e)
      have b2 := bb.trans (But.of g2)
      have hM2 := g2 _ _ hM'
      refine ite2 (fun c => ?_) (fun c => ?_)
      · have ne : ys ≠ [] := fun e => by rw [e] at c; exact absurd c (by decide)
        have lp : 1 ≤ ys.length := List.length_pos_iff.mpr ne
        refine ⟨_, rfl, .inl ⟨rfl, _, SqL.of hM2⟩, _, rfl, _, rfl, p, S, _, t', rfl, hp2, hS2, nSp, by rw [List.length_map]; exact lp, by rw [List.length_map]; omega, by omega, fun j v t3 o3 hj tt3 hp3 => ?_⟩
        obtain ⟨z, hz, rfl⟩ := get_map hj
        have hzm := aw2 z (List.mem_of_getElem? hz)
        have hM3 : (L2.upd H2 p o3) M = some (.lst (way.map V.str)) := by rw [upd_ne nMp]; exact hM2
        refine ⟨M, _, _, rfl, rfl, hM3, by rw [List.length_map, sizeLine_eq]; omega, ?_⟩
        obtain ⟨tg, htg, eg⟩ := List.mem_map.mp hzm.2
        obtain ⟨g, eng⟩ : ∃ g, nextT (rowOf bk node).2 z = some g := by
          cases e : nextT (rowOf bk node).2 z with
          | none => exact absurd hzm.2 (nextT_none.mp e)
          | some g => exact ⟨g, rfl⟩
        obtain ⟨tq, htq, _, e3⟩ := nextT_mem eng
        have hup : ∀ {c : Addr} {u : HO}, (cut [p, M] H2) c = some u → (L2.upd (L2.upd H2 p o3) M (.lst (way.map V.str ++ [.str z]))) c = some u := fun {c u} e => by
          obtain ⟨nc, e⟩ := cut_some e
          simp only [List.mem_cons, List.not_mem_nil, or_false, not_or] at nc
          rw [upd_ne nc.2, upd_ne nc.1]; exact e
        have hsg : ∀ {c : Addr} {u : HO}, (cut [p, M] H') c = some u → (cut [p, M] H2) c = some u := fun {c u} e => cut_same g2 _ _ e
        have hM4 : SL (L2.upd (L2.upd H2 p o3) M (.lst (way.map V.str ++ [.str z]))) M (way ++ [z]) := by rw [SL, upd_same, List.map_append]; rfl
        have hlast : atI ((way ++ [z]).map V.str) (-1) = some (V.str z) := by
          refine atI_last' ?_
          rw [List.length_map, List.length_append, List.map_append]
          show (way.map V.str ++ [V.str z])[way.length + 1 - 1]? = _
          rw [Nat.add_sub_cancel, List.getElem?_append_right (by rw [List.length_map]; exact Nat.le_refl _), List.length_map, Nat.sub_self]; rfl
        refine ⟨_, rfl, W, _, _, _, rfl, rfl, SqL.of (hup (sm2 _ _ hW)), atI_nat (j := 0) rfl, _, rfl, b, _, rfl, .inl ⟨kvs, .inr node, .inl (hup (sm2 _ _ hb)), rfl, ev.symm⟩, t0, _, _, _, rfl, rfl, SqT.of (hup (hsg ht)), atI_nat (j := 1) rfl, _, rfl, _, rfl, M, _, _, _, rfl, rfl, hM4.sq, hlast, a, _, rfl, .inl ⟨_, .inr z, .inl (hup (hsg ha)), rfl, by rw [valV_next, eng]; rfl⟩, ?_⟩
        have hM0 : H M = none := hM
        refine ⟨_, _, g, way ++ [z], t3, rfl, But.ofL hM0 (b2.trans (But.upd p H2 o3)), fun c u e => ?_, hM4, by rw [List.length_append]; show _ + 1 ≤ _; omega, wd_app aw hzm.1, ?_, hp3.upd nMp.symm, by omega⟩
        · have e' := sm2 _ _ e
          rw [cut_out (cut_some e').1]; exact hup e'
        · rw [← e3]; exact (ok.rs _ hm).2.2 tq htq
      · exact ⟨_, _, node, way, t', rfl, b2, sm2, hM2, by omega, aw, hn, hp2, by omega⟩
    · rintro σ H' ⟨v5, v6, node, way, t', rfl, bb, sm, hM', lw, aw, hn, hp', tt⟩
      exact ⟨_, rfl, k H' M way t' bb hM hM' (by omega) aw hp' (by omega)⟩
end
end D1
end L2
/-! talks -/
namespace L2
namespace D1
open PySem PySem.Spec PyProof.Rows
abbrev sTalks : Stmt := top 46
/-- a list of lists of texts -/
def LL (H : Hp) (R : Addr) (tss : List (List Str)) : Prop := ∃ as : List Addr, H R = some (.lst (as.map V.ref)) ∧ Paired (fun a ts => SL H a ts) as tss
theorem LL.same {H H' : Hp} {R : Addr} {tss : List (List Str)} (h : LL H R tss) (s : Same H H') : LL H' R tss := by
  obtain ⟨as, e, p⟩ := h; exact ⟨as, s _ _ e, paired_imp (fun _ _ z => z.same s) p⟩
theorem paired_cat {α β : Type} {R : α → β → Prop} {xs : List α} {ys : List β} {zs : List α} {ws : List β} (h : Paired R xs ys) (g : Paired R zs ws) : Paired R (xs ++ zs) (ys ++ ws) := by
  induction h with
  | nil => exact g
  | cons a _ ih => exact .cons a ih
/-- talks of at most m words of ws -/
def TsOk (ws : List Str) (m : Nat) (tss : List (List Str)) : Prop := ∀ ts ∈ tss, ts.length ≤ m ∧ ∀ x ∈ ts, x ∈ ws
def spTalks : Sp := fun vs H Q _ => ∃ (W : Addr) (ws : List Str) (n : Int), vs = [.ref W, .int n] ∧ SL H W ws ∧ ws.length ≤ 7 ∧ 0 ≤ n ∧ n ≤ 3 ∧ ∀ (H' : Hp) (R : Addr) (tss : List (List Str)), Same H H' → H R = none → LL H' R tss → TsOk ws 3 tss → tss.length ≤ 1300 → Q (.ref R) H'
section
variable {P : Program} {w : World} {K : PySem.W.Frag} {mg : Str → Option Value} {base : Heap} {C : Addr}
theorem scTk : FnScope ["_law_words_here", "_law_size", "_law_found", "_law_layer", "_law_turn", "_law_longer", "_law_talk", "_law_word_here"] ["_law_words_here", "_law_size"] (defScope sTalks) := ⟨rfl, rfl, rfl, by decide +kernel, rfl, by decide +kernel, by decide +kernel⟩
theorem ok_talks {f : Addr} {fd : FuncData} (F : Fun K "_law_talks" "_law_talks" sTalks f fd) (T : Free3 mg) : FnOk P w K mg base CX0 1 f fd ["_law_words_here", "_law_size"] spTalks := by
  refine F.ok scTk (fun vs H Q E h => ?_) (fun cdv A outer s H vs Q E hr h => ?_)
  · obtain ⟨W, ws, n, rfl, _⟩ := h; rfl
  · obtain ⟨W, ws, n, rfl, hW, lw, n0, n3, k⟩ := h
    refine ⟨_, pss_cons (ps_par (i := 2) (j := 3) rfl scTk.nd rfl rfl (by decide) rfl rfl (pa_cons (pe_lst (pa_cons (pe_lst pa_nil) pa_nil)) (pa_cons (pe_lst (pa_cons (pe_lst pa_nil) pa_nil)) pa_nil)) (by rfl))
      (pss_cons (ps_for PassesOwn.never rfl (pi_range1 rfl T.range (pa_cons (pv 1) pa_nil)) (pg_name (i := 4) scTk.nd rfl (Or.inl rfl))
        (pss_cons (ps_set (i := 5) scTk.nd rfl (Or.inl rfl) (pe_lst pa_nil))
        (pss_cons (ps_for PassesOwn.never rfl (pi_list (pv 3)) (pg_name (i := 6) scTk.nd rfl (Or.inr rfl))
          (pss_one (ps_set (i := 5) scTk.nd rfl (Or.inl rfl) (pe_op op_cat (pv 5) (pe_lc (own := [("_law_word_here", 7)]) (g := gName 7) (tt := tYes) rfl scTk.nd (pi_list (pv 0))
            (blkOk_by (N := ["_law_words_here", "_law_size", "_law_found", "_law_layer", "_law_turn", "_law_longer", "_law_talk", "_law_word_here"]) (sc := defScope sTalks) (by decide +kernel)) (fun _ _ _ _ _ => pg_name (i := 7) scTk.nd rfl (Or.inl rfl)) (fun _ _ _ _ _ => pts_nil)
            (fun _ _ _ _ _ => pe_op op_cat (pv 6) (pe_lst (pa_cons (pv 7) pa_nil))))))))
        (pss_one (ps_par (i := 2) (j := 3) rfl scTk.nd rfl rfl (by decide) rfl rfl (pa_cons (pe_op op_cat (pv 2) (pv 5)) (pa_cons (pv 5) pa_nil)) (by rfl))))))
      (pss_one (ps_ret (pv 2)))), ?_⟩
    refine ⟨by decide, fun a1 h1 => ⟨by show 1 ≤ sizeLine; decide, fun F0 hF0 => ⟨by decide, fun a2 h2 => ⟨by show 1 ≤ sizeLine; decide, fun L0 hL0 => ⟨_, _, rfl, ?_⟩⟩⟩⟩⟩
    have g1 := Same.new (o := .lst []) h1
    have g2 := Same.new (o := .lst [.ref a1]) hF0
    have g3 := Same.new (o := .lst []) h2
    have g4 := Same.new (o := .lst [.ref a2]) hL0
    have e1 := upd_same (H := H) (a := a1) (o := .lst [])
    have e2 := upd_same (H := L2.upd H a1 (.lst [])) (a := F0) (o := .lst [.ref a1])
    have e3 := upd_same (H := L2.upd (L2.upd H a1 (.lst [])) F0 (.lst [.ref a1])) (a := a2) (o := .lst [])
    have e4 := upd_same (H := L2.upd (L2.upd (L2.upd H a1 (.lst [])) F0 (.lst [.ref a1])) a2 (.lst [])) (a := L0) (o := .lst [.ref a2])
    generalize L2.upd H a1 (.lst []) = H1 at g1 g2 g3 g4 e1 e2 e3 e4 hF0
    generalize L2.upd H1 F0 (.lst [.ref a1]) = H2 at g2 g3 g4 e2 e3 e4
    generalize L2.upd H2 a2 (.lst []) = H3 at g3 g4 e3 e4
    generalize L2.upd H3 L0 (.lst [.ref a2]) = H4 at g4 e4
    have f0 : H F0 = none := g1.free hF0
    have s4 : Same H H4 := Same.trans (Same.trans (Same.trans g1 g2) g3) g4
    refine ⟨_, rfl, n, rfl, by omega, by omega, ?_⟩
    refine for_range (n := n.toNat) (fun i σ H' => ∃ (F1 L1 : Addr) (v4 v5 v6 : Option V) (tss uss : List (List Str)), σ = [some (.ref W), some (.int n), some (.ref F1), some (.ref L1), v4, v5, v6, none] ∧ Same H H' ∧ H F1 = none ∧ LL H' F1 tss ∧ LL H' L1 uss ∧ TsOk ws i tss ∧ TsOk ws i uss ∧ uss.length ≤ 7 ^ i ∧ tss.length ≤ 400 * i + 1)
      ⟨F0, L0, none, none, none, [[]], [[]], rfl, s4, f0, ⟨[a1], g4 _ _ (g3 _ _ e2), .cons (g4 _ _ (g3 _ _ (g2 _ _ e1))) .nil⟩, ⟨[a2], e4, .cons (g4 _ _ e3) .nil⟩, by intro t ht; obtain rfl := List.mem_singleton.mp ht; exact ⟨Nat.le_refl _, by simp⟩, by intro t ht; obtain rfl := List.mem_singleton.mp ht; exact ⟨Nat.le_refl _, by simp⟩, by decide, by show 1 ≤ 400 * 0 + 1; decide⟩ ?_ ?_
    · rintro i σ H5 hi ⟨F1, L1, v4, v5, v6, tss, uss, rfl, sm, f1, hF, hU, tF, tU, lu, lt⟩
      have i3 : i < 3 := by omega
      have pw : 7 ^ i ≤ 49 := by
        match i, i3 with
        | 0, _ => decide
        | 1, _ => decide
        | 2, _ => decide
      refine ⟨by decide, fun G0 hG0 => ?_⟩
      have sG := Same.new (o := .lst []) hG0
      have eG := upd_same (H := H5) (a := G0) (o := .lst [])
      generalize L2.upd H5 G0 (.lst []) = H6 at sG eG
      obtain ⟨bs, hL1, pb⟩ := hU.same sG
      have lb := paired_len pb
      refine ⟨_, rfl, L1, rfl, ⟨_, SqL.of hL1⟩, ?_⟩
      refine for_list (K := K) (a := L1) (xs := bs.map V.ref) (fun j σ H' => ∃ (G1 : Addr) (v6 : Option V) (vss : List (List Str)), σ = [some (.ref W), some (.int n), some (.ref F1), some (.ref L1), some (.int (0 + (i : Int))), some (.ref G1), v6, none] ∧ Same H6 H' ∧ LL H' G1 vss ∧ TsOk ws (i + 1) vss ∧ vss.length ≤ 7 * j)
        ⟨G0, v6, [], rfl, Same.refl _, ⟨[], eG, .nil⟩, (fun t ht => by cases ht), Nat.zero_le _⟩ (fun j σ H' _ ⟨_, _, _, _, z, _⟩ => SqL.of (z _ _ hL1)) ?_ ?_
      · rintro j x σ H7 hx ⟨G1, v6, vss, rfl, s7, hG, tG, lG⟩
        obtain ⟨c, hc, rfl⟩ := get_map hx
        have hj : j < bs.length := (List.getElem?_eq_some_iff.mp hc).1
        have hju : j < uss.length := by omega
        have hus := List.getElem?_eq_getElem hju
        have hcs : SL H7 c uss[j] := (paired_at pb hc hus).same s7
        have hum := tU _ (List.getElem_mem hju)
        generalize uss[j] = us at hus hcs hum
        have hW7 : SL H7 W ws := hW.same (Same.trans (Same.trans sm sG) s7)
        refine ⟨_, rfl, _, rfl, W, rfl, ⟨_, hW7.sq⟩, fun D hD => ?_⟩
        refine lc_list (K := K) (a := W) (xs := ws.map V.str) (fun m H' => Same H7 H' ∧ ∃ (ds : List Addr) (wss : List (List Str)), H' D = some (.lst (ds.map V.ref)) ∧ Paired (fun a ts => SL (cut [D] H') a ts) ds wss ∧ TsOk ws (i + 1) wss ∧ wss.length = m) ⟨Same.new hD, [], [], upd_same, .nil, (fun t ht => by cases ht), rfl⟩ (fun m H' _ z => (hW7.same z.1).sq) ?_ ?_
        · rintro m v H8 hv ⟨s8, ds, wss, hD8, pd, td, ld⟩
          obtain ⟨z, hz, rfl⟩ := get_map hv
          have hm : m < ws.length := (List.getElem?_eq_some_iff.mp hz).1
          refine ⟨rfl, ?_⟩
          dsimp only [tYes]
          rw [if_pos rfl]
          refine ⟨_, rfl, _, rfl, by show 1 ≤ sizeLine; decide, fun e hE => ?_⟩
          have hc8 := (hcs.same s8)
          refine ⟨c, e, _, _, rfl, rfl, hc8.new hE, upd_same, by rw [List.length_map, sizeLine_eq]; show _ + 1 ≤ _; omega, fun e' hE' => ?_⟩
          have q1 := Same.new (o := .lst [.str z]) hE
          have q2 := Same.new (o := .lst (us.map V.str ++ [.str z])) hE'
          have q := Same.trans q1 q2
          have nD : e' ≠ D := fun h => by rw [h, q1 _ _ hD8] at hE'; cases hE'
          have lds := paired_len pd
          refine ⟨_, q _ _ hD8, by rw [List.length_map, lds, ld, sizeLine_eq]; omega, fun b u eb => ?_, ds ++ [e'], wss ++ [us ++ [z]], by rw [upd_same, List.map_append]; rfl, ?_, fun t ht => ?_, by rw [List.length_append, ld]; rfl⟩
          · rw [upd_ne (ne_of_none eb hD)]; exact q _ _ (s8 _ _ eb)
          · rw [cut_upd (by simp)]
            refine pair_app (paired_imp (fun _ _ z => z.same (cut_same q)) pd) ?_
            rw [SL, cut_out (by simpa using nD), upd_same, List.map_append]; rfl
          · rcases List.mem_append.mp ht with h | h
            · exact td t h
            · rw [List.mem_singleton.mp h]
              refine ⟨by rw [List.length_append]; show _ + 1 ≤ _; have := hum.1; omega, fun y hy => ?_⟩
              rcases List.mem_append.mp hy with h2 | h2
              · exact hum.2 y h2
              · rw [List.mem_singleton.mp h2]; exact List.mem_of_getElem? hz
        · rintro H8 ⟨s8, ds, wss, hD8, pd, td, ld⟩
          rw [List.length_map] at ld
          obtain ⟨cs, hG8, pc⟩ := hG.same s8
          have lds := paired_len pd
          have lcs := paired_len pc
          refine ⟨G1, D, _, _, rfl, rfl, hG8, hD8, by rw [List.length_map, List.length_map, sizeLine_eq]; omega, fun G2 hG2 => ?_⟩
          have q := Same.new (o := .lst (cs.map V.ref ++ ds.map V.ref)) hG2
          refine ⟨G2, _, vss ++ wss, rfl, Same.trans (Same.trans s7 s8) q, ⟨cs ++ ds, by rw [upd_same, List.map_append], ?_⟩, fun t ht => ?_, by rw [List.length_append]; omega⟩
          · exact paired_cat (paired_imp (fun _ _ z => z.same q) pc) (paired_imp (fun _ _ z => (z.same cut_le).same q) pd)
          · rcases List.mem_append.mp ht with h | h
            · exact tG t h
            · exact td t h
      · rintro σ H7 ⟨G1, v6', vss, rfl, s7, hG, tG, lG⟩
        rw [List.length_map] at lG
        have s57 := Same.trans sG s7
        obtain ⟨fs, hF7, pf⟩ := hF.same s57
        obtain ⟨gs, hG7, pg⟩ := id hG
        have lf := paired_len pf
        have lg := paired_len pg
        refine ⟨_, rfl, _, rfl, F1, G1, _, _, rfl, rfl, hF7, hG7, by rw [List.length_map, List.length_map, sizeLine_eq]; omega, fun F2 hF2 => ?_⟩
        have q := Same.new (o := .lst (fs.map V.ref ++ gs.map V.ref)) hF2
        have s07 := Same.trans sm s57
        refine ⟨_, rfl, _, _, rfl, F2, G1, _, _, _, tss ++ vss, vss, rfl, Same.trans s07 q, s07.free hF2, ⟨fs ++ gs, by rw [upd_same, List.map_append], ?_⟩, hG.same q, fun t ht => ?_, tG, ?_, ?_⟩
        · exact paired_cat (paired_imp (fun _ _ z => z.same q) pf) (paired_imp (fun _ _ z => z.same q) pg)
        · rcases List.mem_append.mp ht with h | h
          · exact ⟨by have := (tF t h).1; omega, (tF t h).2⟩
          · exact tG t h
        · rw [Nat.pow_succ]; omega
        · rw [List.length_append]; omega
    · rintro σ H5 ⟨F1, L1, v4, v5, v6, tss, uss, rfl, sm, f1, hF, hU, tF, tU, lu, lt⟩
      refine ⟨_, rfl, k H5 F1 tss sm f1 hF (fun t ht => ⟨by have := (tF t ht).1; omega, (tF t ht).2⟩) (by omega)⟩
end
end D1
end L2
/-! talk_right (over the promise of refused) -/
namespace L2
namespace D1
open PySem PySem.Spec PyProof.Rows
abbrev sRefused : Stmt := top 55
abbrev sTRight : Stmt := top 56
def spRefused (C : Addr) : Sp := fun vs H Q _ => ∃ (q L : Addr) (bk : Bk) (st : Str) (way : List Str) (m : Int), vs = [.int m, .ref q, .ref L] ∧ (m = 0 ∨ m = 1) ∧ DeskAt C H q bk st ∧ DOk bk st ∧ SL H L way ∧ way.length ≤ 1000 ∧ (∀ x ∈ way, Wd x) ∧ walkB bk st way = none ∧ ∀ H', Same H H' → Q (.bl true) H'
def spTRight (C : Addr) : Sp := fun vs H Q _ => ∃ (W q L : Addr) (bk : Bk) (st : Str) (way : List Str), vs = [.ref W, .ref q, .ref L] ∧ WorldAt H W bk st ∧ DeskAt C H q bk st ∧ DOk bk st ∧ SL H L way ∧ way.length ≤ 1000 ∧ (∀ x ∈ way, Wd x) ∧ ∀ H', Same H H' → Q (.bl true) H'
theorem leaf_opt (o : Option Str) : Leaf (optV o) := by
  cases o with
  | none => exact .non
  | some s => exact .str s
theorem eqx_leaf {H : Hp} {n : Nat} {x : V} (h : Leaf x) : EqX n H x x := EqX.up (m := 0) ⟨h, rfl⟩ (Nat.zero_le _)
theorem eqx_pairs {H : Hp} {a b : Addr} {ps : List (Str × Str)} (ha : PairsAt H a ps) (hb : PairsAt H b ps) (l : ps.length ≤ 1000) : EqX 2 H (.ref a) (.ref b) := by
  obtain ⟨ts, h1, p1⟩ := ha
  obtain ⟨us, h2, p2⟩ := hb
  have l1 := prs_len p1
  refine .inr (.inl ⟨a, b, _, _, rfl, rfl, h1, h2, by rw [List.length_map]; omega, ?_⟩)
  have key : ∀ (ts us : List Addr) (ps : List (Str × Str)), Paired (fun t (p : Str × Str) => H t = some (.tup [.str p.1, .str p.2])) ts ps → Paired (fun t (p : Str × Str) => H t = some (.tup [.str p.1, .str p.2])) us ps → Paired (EqX 1 H) (ts.map V.ref) (us.map V.ref) := by
    intro ts us ps g1 g2
    induction g1 generalizing us with
    | nil => cases g2; exact .nil
    | @cons t p ts ps e _ ih =>
      cases g2 with
      | @cons u _ us _ e2 t2 =>
        exact .cons (.inr (.inr (.inl ⟨t, u, _, _, rfl, rfl, e, e2, by show 2 ≤ 10000; decide, .cons (eqx_str _) (.cons (eqx_str _) .nil)⟩))) (ih us t2)
  exact key ts us ps p1 p2
theorem spoken_len (bk : Bk) : ∀ (way : List Str) (s : Str), (spokenB bk s way).length = way.length
  | [], _ => rfl
  | x :: r, s => by
    show (spokenB bk _ r).length + 1 = r.length + 1
    rw [spoken_len bk r]
section
variable {P : Program} {w : World} {K : PySem.W.Frag} {mg : Str → Option Value} {base : Heap} {C : Addr}
abbrev CTB (P : Program) (w : World) (K : PySem.W.Frag) (mg : Str → Option Value) (base : Heap) (C : Addr) := Cal P w K mg base "turns_behind" 7 ["desk", "talk"] (spTB C)
abbrev CSpoken (P : Program) (w : World) (K : PySem.W.Frag) (mg : Str → Option Value) (base : Heap) (C : Addr) := Cal P w K mg base "spoken" 7 ["desk", "talk"] (spSpoken C)
abbrev CWhole (P : Program) (w : World) (K : PySem.W.Frag) (mg : Str → Option Value) (base : Heap) (C : Addr) := Cal P w K mg base "is_whole" 6 ["desk", "talk"] (spWhole C)
abbrev CBehind (P : Program) (w : World) (K : PySem.W.Frag) (mg : Str → Option Value) (base : Heap) := Cal P w K mg base "_law_behind" 1 ["_law_world_here", "_law_talk"] spBehind
abbrev CLSpoken (P : Program) (w : World) (K : PySem.W.Frag) (mg : Str → Option Value) (base : Heap) := Cal P w K mg base "_law_spoken" 1 ["_law_world_here", "_law_talk"] spLSpoken
abbrev CRefused (P : Program) (w : World) (K : PySem.W.Frag) (mg : Str → Option Value) (base : Heap) (C : Addr) := Cal P w K mg base "_law_refused" 10 ["_law_way", "_law_desk_here", "_law_talk"] (spRefused C)
theorem scTr : FnScope ["_law_world_here", "_law_desk_here", "_law_talk", "_law_state", "_law_handed", "_law_turn", "_law_told", "_law_said", "_law_due"] ["_law_world_here", "_law_desk_here", "_law_talk"] (defScope sTRight) := ⟨rfl, rfl, rfl, by decide +kernel, rfl, by decide +kernel, by decide +kernel⟩
theorem ok_tright {f : Addr} {fd : FuncData} (F : Fun K "_law_talk_right" "_law_talk_right" sTRight f fd) (T : Free3 mg) (CE : ∀ n, CExact P w K mg base n) (CB : CBehind P w K mg base) (CSb : CSB P w K mg base C) (CT : CIsTalk P w K mg base) (CW : CWhole P w K mg base C) (CR : CRefused P w K mg base C) (CTb : CTB P w K mg base C) (CS : CSpoken P w K mg base C) (CL : CLSpoken P w K mg base) :
    FnOk P w K mg base CX0 11 f fd ["_law_world_here", "_law_desk_here", "_law_talk"] (spTRight C) := by
  refine F.ok scTr (fun vs H Q E h => ?_) (fun cdv A outer s H vs Q E hr h => ?_)
  · obtain ⟨W, q, L, bk, st, way, rfl, _⟩ := h; rfl
  · obtain ⟨W, q, L, bk, st, way, rfl, hW, hq, ok, hL, ll, aw, k⟩ := h
    have hu := hu_of hr
    refine ⟨_, pss_cons (ps_par (i := 3) (j := 4) rfl scTr.nd rfl rfl (by decide) rfl rfl (pa_cons (pe_cal CB (hr.mono (by decide)) rfl (pa_cons (pv 0) (pa_cons (pv 2) pa_nil))) (pa_cons (pe_callTy call_list_of (by rfl) T.list (by decide +kernel) (pa_cons (pv 2) pa_nil)) pa_nil)) (by rfl))
      (pss_cons (ps_if (pt_not (pt_val (pe_cal (CE 2) (hr.mono (by decide)) rfl (pa_cons (pe_lst (pa_cons (pe_cal CSb (hr.mono (by decide)) rfl (pa_cons (pv 1) (pa_cons (pv 4) pa_nil))) (pa_cons (pe_cal CT (hr.mono (by decide)) rfl (pa_cons (pv 4) pa_nil)) (pa_cons (pv 4) pa_nil)))) (pa_cons (pe_lst (pa_cons (pv 3) (pa_cons pe_bl (pa_cons (pv 2) pa_nil)))) pa_nil))))) (pss_one ps_never) pss_nil)
      (pss_cons (ps_if (pt_not (pt_val (pe_cal (CE 0) (hr.mono (by decide)) rfl (pa_cons (pe_cal CW (hr.mono (by decide)) rfl (pa_cons (pv 1) (pa_cons (pv 4) pa_nil))) (pa_cons (pe_and (pe_cmp (pc_notN (pv 3)) rfl) (pe_one (pe_cmpR op_eq (pe_ix ix_tup (pe_dget hu (pe_ix ix_list (pv 0) pe_int (fun _ _ => rfl)) (pv 3) (fun _ _ => rfl)) pe_int (fun _ _ => rfl)) pe_str (nomark _)))) pa_nil))))) (pss_one ps_never) pss_nil)
      (pss_cons (ps_if (pt_cmp (pc_isN (pv 3)) rfl) (pss_one (ps_ret (pe_and (pe_cal CR (hr.mono (by decide)) rfl (pa_cons pe_int (pa_cons (pv 1) (pa_cons (pv 4) pa_nil)))) (pe_one (pe_cal CR (hr.mono (by decide)) rfl (pa_cons pe_int (pa_cons (pv 1) (pa_cons (pv 4) pa_nil)))))))) pss_nil)
      (pss_cons (ps_for PassesOwn.never rfl (pi_range1 rfl T.range (pa_cons pe_int pa_nil)) (pg_name (i := 5) scTr.nd rfl (Or.inl rfl))
        (pss_cons (ps_par (i := 6) (j := 7) rfl scTr.nd rfl rfl (by decide) rfl rfl (pa_cons (pe_cal CTb (hr.mono (by decide)) rfl (pa_cons (pv 1) (pa_cons (pv 4) pa_nil))) (pa_cons (pe_cal CS (hr.mono (by decide)) rfl (pa_cons (pv 1) (pa_cons (pv 4) pa_nil))) pa_nil)) (by rfl))
        (pss_cons (ps_set (i := 8) scTr.nd rfl (Or.inl rfl) (pe_tup (pa_cons (pe_ix ix_tup (pe_dget hu (pe_ix ix_list (pv 0) pe_int (fun _ _ => rfl)) (pv 3) (fun _ _ => rfl)) pe_int (fun _ _ => rfl)) (pa_cons (pe_callB (call_sortedD rfl) (by rfl) T.sorted (by decide +kernel) (pa_cons (pe_ix ix_tup (pe_dget hu (pe_ix ix_list (pv 0) pe_int (fun _ _ => rfl)) (pv 3) (fun _ _ => rfl)) pe_int (fun _ _ => rfl)) pa_nil)) pa_nil))))
        (pss_cons (ps_if (pt_not (pt_val (pe_cal (CE 3) (hr.mono (by decide)) rfl (pa_cons (pe_lst (pa_cons (pv 6) (pa_cons (pv 7) pa_nil))) (pa_cons (pe_lst (pa_cons (pv 8) (pa_cons (pe_cal CL (hr.mono (by decide)) rfl (pa_cons (pv 0) (pa_cons (pv 2) pa_nil))) pa_nil))) pa_nil))))) (pss_one ps_never) pss_nil)
        (pss_cons (ps_expr (pe_bm PySem.F.plainAttrs_list PySem.F.slot_list_append PySem.F.type_list_append mt_append (pe_ix ix_tup (pv 6) pe_int (fun _ _ => rfl)) (pa_cons pe_str pa_nil)))
        (pss_one (ps_expr (pe_bm PySem.F.plainAttrs_list PySem.F.slot_list_append PySem.F.type_list_append mt_append (pv 7) (pa_cons (pe_tup (pa_cons pe_str (pa_cons pe_str pa_nil))) pa_nil)))))))))
      (pss_one (ps_ret (pe_cmpR (op_eqD hr.units) (pv 4) (pv 2) (nomark _)))))))), ?_⟩
    have ⟨b, hWl, hB⟩ := id hW
    refine ⟨_, rfl, _, rfl, W, L, bk, st, way, rfl, hW, ok, hL, _, rfl, L, _, rfl, .inl hL.sq, fun M hM => ⟨_, _, rfl, ?_⟩⟩
    have hM1 : SL (L2.upd H M (.lst (way.map V.str))) M way := upd_same
    have s1 := Same.new (o := .lst (way.map V.str)) hM
    generalize L2.upd H M (.lst (way.map V.str)) = H1 at hM1 s1
    refine ⟨_, rfl, _, rfl, q, M, bk, st, way, rfl, hq.same s1, ok, hM1, ll, aw, fun H2 s2 => ?_⟩
    refine ⟨_, rfl, M, way, rfl, hM1.same s2, ll, aw, fun H3 s3 => ?_⟩
    have s13 : Same H H3 := Same.trans (Same.trans s1 s2) s3
    have hM3 : SL H3 M way := (hM1.same s2).same s3
    have hL3 := hL.same s13
    refine ⟨_, rfl, by show 3 ≤ sizeLine; decide, fun A1 hA1 => ?_⟩
    have g1 := Same.new (o := .lst [optV (walkB bk st way), .bl true, .ref M]) hA1
    have eA1 := upd_same (H := H3) (a := A1) (o := .lst [optV (walkB bk st way), .bl true, .ref M])
    generalize L2.upd H3 A1 (.lst [optV (walkB bk st way), .bl true, .ref M]) = H4 at g1 eA1
    refine ⟨_, rfl, _, rfl, by show 3 ≤ sizeLine; decide, fun A2 hA2 => ?_⟩
    have g2 := Same.new (o := .lst [optV (walkB bk st way), .bl true, .ref L]) hA2
    have eA2 := upd_same (H := H4) (a := A2) (o := .lst [optV (walkB bk st way), .bl true, .ref L])
    generalize L2.upd H4 A2 (.lst [optV (walkB bk st way), .bl true, .ref L]) = H5 at g2 eA2
    have g5 := Same.trans g1 g2
    refine ⟨_, _, rfl, .inr (.inl ⟨A1, A2, _, _, rfl, rfl, g2 _ _ eA1, eA2, by show 3 ≤ 10000; decide, .cons (eqx_leaf (leaf_opt _)) (.cons (eqx_leaf (.bl true)) (.cons (eqx_list (hM3.same g5) (hL3.same g5) (by omega)) .nil))⟩), fun H6 s6 => ⟨_, rfl, iteF ?_⟩⟩
    have s06 : Same H H6 := Same.trans s13 (Same.trans g5 s6)
    have hM6 : SL H6 M way := (hM3.same g5).same s6
    refine ⟨_, rfl, _, rfl, q, M, bk, st, way, rfl, hq.same s06, ok, hM6, ll, aw, fun H7 s7 => ?_⟩
    have s07 := Same.trans s06 s7
    have hM7 := hM6.same s7
    refine ⟨_, rfl, _, rfl, ?_⟩
    cases e : walkB bk st way with
    | none =>
      refine (if_neg (by decide)).mpr ?_
      have ew : wholeB bk st way = false := by unfold wholeB; rw [e]
      refine ⟨_, _, rfl, ?_, fun H8 s8 => ⟨_, rfl, iteF ?_⟩⟩
      · rw [ew]; exact eqx_leaf (.bl false)
      refine ⟨_, rfl, _, rfl, ?_⟩
      refine (if_pos (by decide)).mpr ?_
      have s08 := Same.trans s07 s8
      refine ⟨_, rfl, _, rfl, q, M, bk, st, way, 0, rfl, .inl rfl, hq.same s08, ok, hM7.same s8, ll, aw, e, fun H9 s9 => ⟨true, rfl, iteT ?_⟩⟩
      have s09 := Same.trans s08 s9
      exact ⟨_, rfl, _, rfl, q, M, bk, st, way, 1, rfl, .inr rfl, hq.same s09, ok, (hM7.same s8).same s9, ll, aw, e, fun H10 s10 => k H10 (Same.trans s09 s10)⟩
    | some s0 =>
      have hs := walk_mem ok ok.st e
      have e1 : decide (V.str s0 = V.non) = false := decide_eq_false fun z => by cases z
      refine (if_pos (by rw [show decide (optV (some s0) = V.non) = false from e1]; rfl)).mpr ?_
      have row : ∀ {H' : Hp}, Same H H' → ∃ t a, H' W = some (.lst [.ref b, .str st]) ∧ DGet H' b (.str s0) (some (.ref t)) ∧ H' t = some (.tup [.str (rowOf bk s0).1, .ref a]) ∧ TurnsAt H' a (rowOf bk s0).2 := fun {H'} s => by
        obtain ⟨kvs, hk, hR⟩ := hB.same s
        obtain ⟨v, ev, ⟨t, a, rfl, ht, ha⟩, _⟩ := hR.look hs
        exact ⟨t, a, s _ _ hWl, .inl ⟨kvs, .inr s0, .inl hk, rfl, ev.symm⟩, ht, ha⟩
      obtain ⟨t, a, r1, r2, r3, r4⟩ := row s07
      have ew : wholeB bk st way = decide (V.str (rowOf bk s0).1 = V.str "done") := by
        unfold wholeB
        rw [e]
        show decide _ = decide _
        by_cases c : (rowOf bk s0).1 = "done"
        · rw [decide_eq_true c, decide_eq_true (by rw [c])]
        · rw [decide_eq_false c, decide_eq_false fun z => c (by injection z)]
      refine ⟨_, rfl, W, _, _, _, rfl, rfl, SqL.of r1, atI_nat (j := 0) rfl, _, rfl, b, _, rfl, r2, t, _, _, _, rfl, rfl, SqT.of r3, atI_nat (j := 0) rfl, rfl, ?_⟩
      refine ⟨_, _, rfl, ?_, fun H8 s8 => ⟨_, rfl, iteF ?_⟩⟩
      · rw [ew]; exact eqx_leaf (.bl _)
      refine ⟨_, rfl, _, rfl, ?_⟩
      refine (if_neg (by rw [show decide (optV (some s0) = V.non) = false from e1]; decide)).mpr ?_
      have s08 := Same.trans s07 s8
      have hM8 := hM7.same s8
      refine ⟨2, rfl, by decide, by decide, ?_⟩
      refine for_range (n := 2) (fun i σ H' => ∃ (v5 v6 v7 v8 : Option V), σ = [some (.ref W), some (.ref q), some (.ref L), some (.str s0), some (.ref M), v5, v6, v7, v8] ∧ Same H H' ∧ SL H' M way) ⟨none, none, none, none, rfl, s08, hM8⟩ ?_ ?_
      · rintro i σ H9 hi ⟨v5, v6, v7, v8, rfl, s9, hM9⟩
        refine ⟨_, rfl, _, rfl, q, M, bk, st, s0, way, rfl, hq.same s9, ok, hM9, ll, aw, e, fun H10 R1 K1 s10 hR1 hK1 eR1 eK1 => ?_⟩
        have s010 := Same.trans s9 s10
        refine ⟨_, rfl, _, rfl, q, M, bk, st, s0, way, rfl, hq.same s010, ok, hM9.same s10, ll, aw, e, fun H11 R2 s11 hR2 eR2 => ⟨_, _, rfl, ?_⟩⟩
        have s011 := Same.trans s010 s11
        obtain ⟨t, a, r1, r2, r3, r4⟩ := row s011
        have hm := row_mem hs
        have wl := (ok.bok.rs _ hm).2
        have ek : (kT (rowOf bk s0).2).map (·.1) = ((rowOf bk s0).2.map (·.1)).map Sum.inr := by rw [kT, List.map_map, List.map_map]; rfl
        refine ⟨_, rfl, W, _, _, _, rfl, rfl, SqL.of r1, atI_nat (j := 0) rfl, _, rfl, b, _, rfl, r2, t, _, _, _, rfl, rfl, SqT.of r3, atI_nat (j := 0) rfl, ?_⟩
        refine ⟨_, rfl, W, _, _, _, rfl, rfl, SqL.of r1, atI_nat (j := 0) rfl, _, rfl, b, _, rfl, r2, t, _, _, _, rfl, rfl, SqT.of r3, atI_nat (j := 1) rfl, a, _, (rowOf bk s0).2.map (·.1), rfl, .inl r4, ek, by rw [List.length_map]; exact wl, fun ys S pm so hS => ?_⟩
        have ey := srt_of pm so
        have q1 := Same.new (o := .lst (ys.map V.str)) hS
        have eS := upd_same (H := H11) (a := S) (o := .lst (ys.map V.str))
        generalize L2.upd H11 S (.lst (ys.map V.str)) = H12 at q1 eS
        refine ⟨by show 2 ≤ sizeLine; decide, fun U hU => ?_⟩
        have q2 := Same.new (o := .tup [.str (rowOf bk s0).1, .ref S]) hU
        have eU := upd_same (H := H12) (a := U) (o := .tup [.str (rowOf bk s0).1, .ref S])
        generalize L2.upd H12 U (.tup [.str (rowOf bk s0).1, .ref S]) = H13 at q2 eU
        refine ⟨_, rfl, _, rfl, by show 2 ≤ sizeLine; decide, fun B1 hB1 => ?_⟩
        have q3 := Same.new (o := .lst [.ref R1, .ref R2]) hB1
        have eB1 := upd_same (H := H13) (a := B1) (o := .lst [.ref R1, .ref R2])
        generalize L2.upd H13 B1 (.lst [.ref R1, .ref R2]) = H14 at q3 eB1
        have s1114 := Same.trans (Same.trans q1 q2) q3
        have s014 := Same.trans s011 s1114
        refine ⟨_, rfl, _, rfl, _, rfl, W, L, bk, st, s0, way, rfl, hW.same s014, ok, hL.same s014, ll, e, fun H15 R3 s15 hR3 eR3 => ?_⟩
        refine ⟨by show 2 ≤ sizeLine; decide, fun B2 hB2 => ?_⟩
        have q4 := Same.new (o := .lst [.ref U, .ref R3]) hB2
        have eB2 := upd_same (H := H15) (a := B2) (o := .lst [.ref U, .ref R3])
        generalize L2.upd H15 B2 (.lst [.ref U, .ref R3]) = H16 at q4 eB2
        have s1116 := Same.trans s1114 (Same.trans s15 q4)
        have s1416 := Same.trans s15 q4
        have eR1' := (Same.trans s11 s1116) _ _ eR1
        have eK1' : SL H16 K1 (keysO (rowOf bk s0).2) := eK1.same (Same.trans s11 s1116)
        have eS' : SL H16 S ys := (Same.trans (Same.trans q2 q3) s1416) _ _ eS
        have eU' := (Same.trans q3 s1416) _ _ eU
        have eR2' : PairsAt H16 R2 (spokenB bk st way) := by
          obtain ⟨ts, h1, h2⟩ := eR2
          exact ⟨ts, s1116 _ _ h1, prs_same h2 s1116⟩
        have eR3' : PairsAt H16 R3 (spokenB bk st way) := by
          obtain ⟨ts, h1, h2⟩ := eR3
          exact ⟨ts, q4 _ _ h1, prs_same h2 q4⟩
        have lys : ys.length < 64 := by rw [pm.length_eq, List.length_map]; exact wl
        have eyk : keysO (rowOf bk s0).2 = ys := by rw [ey]; rfl
        rw [eyk] at eK1'
        refine ⟨_, _, rfl, .inr (.inl ⟨B1, B2, _, _, rfl, rfl, s1416 _ _ eB1, eB2, by show 2 ≤ 10000; decide, .cons (.inr (.inr (.inl ⟨R1, U, _, _, rfl, rfl, eR1', eU', by show 2 ≤ 10000; decide, .cons (eqx_str _) (.cons (eqx_list eK1' eS' (by omega)) .nil)⟩))) (.cons (eqx_pairs eR2' eR3' (by rw [spoken_len]; exact ll)) .nil)⟩), fun H17 s17 => ⟨_, rfl, iteF ?_⟩⟩
        have s917 : Same H9 H17 := Same.trans (Same.trans s10 s11) (Same.trans s1116 s17)
        have fK1 : H K1 = none := s9.free hK1
        have fR2 : H R2 = none := s010.free hR2
        have hK17 : SL H17 K1 ys := eK1'.same s17
        refine ⟨_, rfl, R1, _, _, _, rfl, rfl, SqT.of (s17 _ _ eR1'), atI_nat (j := 1) rfl, .inl ⟨rfl, _, SqL.of hK17⟩, K1, _, _, rfl, rfl, hK17, by rw [List.length_map, sizeLine_eq]; omega, ?_⟩
        obtain ⟨ts, h1, h2⟩ := eR2'
        have h1 := s17 _ _ h1
        have lts := prs_len h2
        rw [spoken_len] at lts
        have nK : R2 ≠ K1 := fun z => by
          have := (Same.trans (Same.trans s11 s1116) s17) _ _ eK1
          rw [← z, h1] at this
          have e2 : ts.map V.ref = (keysO (rowOf bk s0).2).map V.str := by injection (Option.some.inj this)
          have hKe : (L2.upd H10 K1 (.lst [])) K1 = some (.lst []) := upd_same
          exact absurd (s11 _ _ eK1) (by rw [← z]; intro q; obtain ⟨ts2, g1, g2⟩ := eR2; exact absurd hR2 (by rw [z, eK1]; exact fun y => by cases y))
        have hR17 : (L2.upd H17 K1 (.lst (ys.map V.str ++ [.str "more"]))) R2 = some (.lst (ts.map V.ref)) := by rw [upd_ne nK]; exact h1
        refine ⟨_, rfl, .inl ⟨rfl, _, SqL.of hR17⟩, by show 2 ≤ sizeLine; decide, fun T9 hT9 => ?_⟩
        have qT := Same.new (o := .tup [.str "says", .str "more"]) hT9
        refine ⟨R2, _, _, rfl, rfl, qT _ _ hR17, by rw [List.length_map, lts, sizeLine_eq]; omega, ?_⟩
        have nMK : M ≠ K1 := ne_of_none hM9 hK1
        have nMR : M ≠ R2 := ne_of_none (hM9.same s10) hR2
        refine ⟨_, _, _, _, rfl, fun c u ec => ?_, ?_⟩
        · have ec9 := s917 _ _ (s9 _ _ ec)
          rw [upd_ne (ne_of_none ec fR2)]
          exact qT _ _ (by rw [upd_ne (ne_of_none ec fK1)]; exact ec9)
        · rw [SL, upd_ne nMR]
          exact qT _ _ (by rw [upd_ne nMK]; exact hM9.same s917)
      · rintro σ H9 ⟨v5, v6, v7, v8, rfl, s9, hM9⟩
        have hd := shaped_strs aw
        refine ⟨_, rfl, _, rfl, _, _, dp_strs hM9, dp_strs (hL.same s9), hd, hd, ?_⟩
        rw [SeqAt.eqv_refl _ (SeqAt.canLay_of_shaped hd)]
        exact k H9 s9
end
end D1
end L2
/-! right (over the promises of refused and unspoilt) -/
namespace L2
namespace D1
open PySem PySem.Spec PyProof.Rows
abbrev sUnsp : Stmt := top 50
abbrev sRight : Stmt := top 57
def spUnsp (C : Addr) : Sp := fun vs H Q _ => ∃ (q W : Addr) (bk : Bk) (st : Str), vs = [.ref q, .ref W] ∧ DeskAt C H q bk st ∧ WorldAt H W bk st ∧ DOk bk st ∧ ∀ H', Same H H' → Q (.bl true) H'
def spRight : Sp := fun vs H Q _ => ∃ (p : Addr), vs = [.ref p] ∧ Purse H p 0 ∧ ∀ H', But p H H' → Q (.bl true) H'
def strgL : List Str := ["zz", "zzz", "zzzz", "zzzzz", "y", "yy", "yyy"]
theorem strg_wd : ∀ x ∈ strgL, Wd x := by
  have h : ∀ x ∈ strgL, 1 ≤ x.length ∧ x.length ≤ 8 ∧ ∀ c ∈ tl x, 97 ≤ c ∧ c ≤ 122 := by decide +kernel
  exact fun x hx => ⟨(h x hx).1, (h x hx).2.1, (h x hx).2.2⟩
theorem iteF2 {c : Bool} {A B : Prop} (b : B) (h : c = false) : if c = true then A else B := by rw [h]; exact b
theorem iteT2 {c : Bool} {A B : Prop} (a : A) (h : c = true) : if c = true then A else B := by rw [h]; exact a
theorem rows_cutP {H : Hp} {p : Addr} {xs : List V} (hp : H p = some (.lst xs)) {kvs : List (Key × V)} {bk : Bk} (h : Rows H kvs bk) : Rows (cut [p] H) kvs bk := by
  unfold Rows at h ⊢
  induction h with
  | nil => exact .nil
  | cons g _ ih =>
    obtain ⟨e, t, a', ev, ht, ha⟩ := g
    have n1 : t ≠ p := fun z => by rw [z, hp] at ht; cases ht
    have n2 : a' ≠ p := fun z => by rw [TurnsAt, z, hp] at ha; cases ha
    exact .cons ⟨e, t, a', ev, by rw [cut_out (by simpa using n1)]; exact ht, by rw [TurnsAt, cut_out (by simpa using n2)]; exact ha⟩ ih
theorem DeskAt.cutP {C : Addr} {H : Hp} {p q : Addr} {t : Int} {bk : Bk} {st : Str} (h : DeskAt C H q bk st) (hp : Purse H p t) : DeskAt C (cut [p] H) q bk st := by
  obtain ⟨g, b0, z, e, _⟩ := hp
  obtain ⟨dx, b, e1, kvs, e2, r⟩ := h
  have n1 : q ≠ p := fun z => by rw [z, e] at e1; cases e1
  have n2 : b ≠ p := fun z => by rw [z, e] at e2; cases e2
  exact ⟨dx, b, by rw [cut_out (by simpa using n1)]; exact e1, kvs, by rw [cut_out (by simpa using n2)]; exact e2, rows_cutP e r⟩
section
variable {P : Program} {w : World} {K : PySem.W.Frag} {mg : Str → Option Value} {base : Heap} {C : Addr}
abbrev CRich (P : Program) (w : World) (K : PySem.W.Frag) (mg : Str → Option Value) (base : Heap) := Cal P w K mg base "_law_rich" 7 ["_law_purse_here", "_law_most"] (spRow (2 ^ 24) 2000)
abbrev CLDesk (P : Program) (w : World) (K : PySem.W.Frag) (mg : Str → Option Value) (base : Heap) (C : Addr) := Cal P w K mg base "_law_desk" 6 ["_law_world_here"] (spLDesk C)
abbrev CTalks (P : Program) (w : World) (K : PySem.W.Frag) (mg : Str → Option Value) (base : Heap) := Cal P w K mg base "_law_talks" 1 ["_law_words_here", "_law_size"] spTalks
abbrev CTalkOf (P : Program) (w : World) (K : PySem.W.Frag) (mg : Str → Option Value) (base : Heap) := Cal P w K mg base "_law_talk_of" 4 ["_law_purse_here", "_law_world_here", "_law_size"] spTalkOf
abbrev CTRight (P : Program) (w : World) (K : PySem.W.Frag) (mg : Str → Option Value) (base : Heap) (C : Addr) := Cal P w K mg base "_law_talk_right" 11 ["_law_world_here", "_law_desk_here", "_law_talk"] (spTRight C)
abbrev CUnsp (P : Program) (w : World) (K : PySem.W.Frag) (mg : Str → Option Value) (base : Heap) (C : Addr) := Cal P w K mg base "_law_unspoilt" 11 ["_law_desk_here", "_law_world_here"] (spUnsp C)
theorem scRt : FnScope ["_law_purse_here", "_law_world_here", "_law_words_here", "_law_desk_here", "_law_strange", "_law_tokens", "_law_talk", "_law_turn", "_law_at", "_law_other", "_law_line", "_law_state", "_law_due", "_law_word_here"] ["_law_purse_here"] (defScope sRight) := ⟨rfl, rfl, rfl, by decide +kernel, rfl, by decide +kernel, by decide +kernel⟩
theorem ok_right {f : Addr} {fd : FuncData} (F : Fun K "_law_right" "_law_right" sRight f fd) (T : Free3 mg) (CD : CDraw P w K mg base) (CO : COne P w K mg base) (CRi : CRich P w K mg base) (CLd : CLDesk P w K mg base C) (CTs : CTalks P w K mg base) (CTo : CTalkOf P w K mg base) (CTr : CTRight P w K mg base C) (CU : CUnsp P w K mg base C)
    (CE : ∀ n, CExact P w K mg base n) (CB : CBehind P w K mg base) (CSb : CSB P w K mg base C) (CW : CWhole P w K mg base C) (CR : CRefused P w K mg base C) (CTb : CTB P w K mg base C) (CS : CSpoken P w K mg base C) (CL : CLSpoken P w K mg base) :
    FnOk P w K mg base CX0 12 f fd ["_law_purse_here"] spRight := by
  refine F.ok scRt (fun vs H Q E h => ?_) (fun cdv A outer s H vs Q E hr h => ?_)
  · obtain ⟨p, rfl, _⟩ := h; rfl
  · obtain ⟨p, rfl, hp, k⟩ := h
    have hu := hu_of hr
    refine ⟨_, pss_cons (ps_asg (pe_cal CRi (hr.mono (by decide)) rfl (pa_cons (pv 0) (pa_cons pe_int pa_nil))) (pg_lst rfl (pgs_cons (pg_name (i := 1) scRt.nd rfl (Or.inl rfl)) (pgs_cons (pg_name (i := 2) scRt.nd rfl (Or.inr rfl)) pgs_nil))))
      (pss_cons (ps_par (i := 3) (j := 4) rfl scRt.nd rfl rfl (by decide) rfl rfl (pa_cons (pe_cal CLd (hr.mono (by decide)) rfl (pa_cons (pv 1) pa_nil)) (pa_cons (pe_slice sl_list (pe_lc (own := [("_law_word_here", 13)]) (g := gName 13) (tt := tTest (tOp (rIn K true) (tVar 13) (tVar 2))) (te := tVar 13) rfl scRt.nd
            (pi_list (pe_lst (pa_cons pe_str (pa_cons pe_str (pa_cons pe_str (pa_cons pe_str (pa_cons pe_str (pa_cons pe_str (pa_cons pe_str pa_nil)))))))))
            (blkOk_by (N := ["_law_purse_here", "_law_world_here", "_law_words_here", "_law_desk_here", "_law_strange", "_law_tokens", "_law_talk", "_law_turn", "_law_at", "_law_other", "_law_line", "_law_state", "_law_due", "_law_word_here"]) (sc := defScope sRight) (by decide +kernel)) (fun _ _ _ _ _ => pg_name (i := 13) scRt.nd rfl (Or.inl rfl))
            (fun _ _ _ _ _ => pts_one (pt_cmpR op_notIn_seq (pv 13) (pv 2) rfl)) (fun _ _ _ _ _ => pv 13)) po_none (po_some pe_int)) pa_nil)) (by rfl))
      (pss_cons (ps_set (i := 5) scRt.nd rfl (Or.inl rfl) (pe_op op_cat (pv 2) (pv 4)))
      (pss_cons (ps_for PassesOwn.never rfl (pi_list (pe_cal CTs (hr.mono (by decide)) rfl (pa_cons (pv 5) (pa_cons (pe_ifExp (pt_cmpR op_gt (pe_callB call_len_seq (by rfl) T.len PySem.boot_len (pa_cons (pv 5) pa_nil)) pe_int (nomark _)) pe_int pe_int) pa_nil)))) (pg_name (i := 6) scRt.nd rfl (Or.inl rfl))
        (pss_one (ps_if (pt_not (pt_val (pe_cal CTr (hr.mono (by decide)) rfl (pa_cons (pv 1) (pa_cons (pv 3) (pa_cons (pv 6) pa_nil)))))) (pss_one ps_never) pss_nil)))
      (pss_cons (ps_for PassesOwn.never rfl (pi_range1 rfl T.range (pa_cons pe_int pa_nil)) (pg_name (i := 7) scRt.nd rfl (Or.inl rfl))
        (pss_cons (ps_set (i := 6) scRt.nd rfl (Or.inl rfl) (pe_cal CTo (hr.mono (by decide)) rfl (pa_cons (pv 0) (pa_cons (pv 1) (pa_cons (pe_op op_add pe_int (pe_cal CD (hr.mono (by decide)) rfl (pa_cons (pv 0) (pa_cons pe_int pa_nil)))) pa_nil)))))
        (pss_cons (ps_set (i := 8) scRt.nd rfl (Or.inl rfl) (pe_cal CD (hr.mono (by decide)) rfl (pa_cons (pv 0) (pa_cons (pe_op op_add (pe_callB call_len_seq (by rfl) T.len PySem.boot_len (pa_cons (pv 6) pa_nil)) pe_int) pa_nil))))
        (pss_one (ps_for PassesOwn.never rfl (pi_list (pe_lst (pa_cons (pv 6) (pa_cons (pe_slice sl_list (pv 6) po_none (po_some (pv 8))) (pa_cons (pe_op op_cat (pe_op op_cat (pe_slice sl_list (pv 6) po_none (po_some (pv 8))) (pe_lst (pa_cons (pe_cal CO (hr.mono (by decide)) rfl (pa_cons (pv 0) (pa_cons (pv 5) pa_nil))) pa_nil))) (pe_slice sl_list (pv 6) (po_some (pe_op op_add (pv 8) pe_int)) po_none)) (pa_cons (pe_slice sl_list (pv 6) (po_some pe_int) po_none) (pa_cons (pe_revL (pv 6)) pa_nil))))))) (pg_name (i := 9) scRt.nd rfl (Or.inl rfl))
          (pss_one (ps_if (pt_not (pt_val (pe_cal CTr (hr.mono (by decide)) rfl (pa_cons (pv 1) (pa_cons (pv 3) (pa_cons (pv 9) pa_nil)))))) (pss_one ps_never) pss_nil)))))))
      (pss_cons (ps_set (i := 10) scRt.nd rfl (Or.inl rfl) (pe_lst pa_nil))
      (pss_cons (ps_for PassesOwn.never rfl (pi_range1 rfl T.range (pa_cons pe_int pa_nil)) (pg_name (i := 7) scRt.nd rfl (Or.inl rfl))
        (pss_cons (ps_set (i := 11) scRt.nd rfl (Or.inl rfl) (pe_cal CB (hr.mono (by decide)) rfl (pa_cons (pv 1) (pa_cons (pv 10) pa_nil))))
        (pss_cons (ps_if (pt_not (pt_val (pe_cal (CE 1) (hr.mono (by decide)) rfl (pa_cons (pe_lst (pa_cons (pe_cal CSb (hr.mono (by decide)) rfl (pa_cons (pv 3) (pa_cons (pv 10) pa_nil))) (pa_cons (pe_cal CW (hr.mono (by decide)) rfl (pa_cons (pv 3) (pa_cons (pv 10) pa_nil))) pa_nil))) (pa_cons (pe_lst (pa_cons (pv 11) (pa_cons (pe_and (pe_cmp (pc_notN (pv 11)) rfl) (pe_one (pe_cmpR op_eq (pe_ix ix_tup (pe_dget hu (pe_ix ix_list (pv 1) pe_int (fun _ _ => rfl)) (pv 11) (fun _ _ => rfl)) pe_int (fun _ _ => rfl)) pe_str (nomark _)))) pa_nil))) pa_nil))))) (pss_one ps_never) pss_nil)
        (pss_cons (ps_if (PW.pt (pw_and (pt_cmp (pc_isN (pv 11)) rfl) (pw_and1 (PW.pt (pw_or (pt_not (pt_val (pe_cal CR (hr.mono (by decide)) rfl (pa_cons pe_int (pa_cons (pv 3) (pa_cons (pv 10) pa_nil)))))) (pw_or1 (pt_not (pt_val (pe_cal CR (hr.mono (by decide)) rfl (pa_cons pe_int (pa_cons (pv 3) (pa_cons (pv 10) pa_nil)))))))))))) (pss_one ps_never) pss_nil)
        (pss_cons (ps_if (pt_cmp (pc_notN (pv 11)) rfl)
          (pss_cons (ps_set (i := 12) scRt.nd rfl (Or.inl rfl) (pe_lst (pa_cons (pe_tup (pa_cons (pe_ix ix_tup (pe_dget hu (pe_ix ix_list (pv 1) pe_int (fun _ _ => rfl)) (pv 11) (fun _ _ => rfl)) pe_int (fun _ _ => rfl)) (pa_cons (pe_callB (call_sortedD rfl) (by rfl) T.sorted (by decide +kernel) (pa_cons (pe_ix ix_tup (pe_dget hu (pe_ix ix_list (pv 1) pe_int (fun _ _ => rfl)) (pv 11) (fun _ _ => rfl)) pe_int (fun _ _ => rfl)) pa_nil)) pa_nil))) (pa_cons (pe_cal CL (hr.mono (by decide)) rfl (pa_cons (pv 1) (pa_cons (pv 10) pa_nil))) pa_nil))))
          (pss_one (ps_if (pt_not (pt_val (pe_cal (CE 3) (hr.mono (by decide)) rfl (pa_cons (pe_lst (pa_cons (pe_cal CTb (hr.mono (by decide)) rfl (pa_cons (pv 3) (pa_cons (pv 10) pa_nil))) (pa_cons (pe_cal CS (hr.mono (by decide)) rfl (pa_cons (pv 3) (pa_cons (pv 10) pa_nil))) pa_nil))) (pa_cons (pv 12) pa_nil))))) (pss_one ps_never) pss_nil))) pss_nil)
        (pss_one (ps_if (PW.pt (pw_and (pt_cmpR (op_neD hr.units) (pv 10) (pe_lst pa_nil) (nomark _)) (pw_and1 (pt_cmpR op_eq (pe_cal CD (hr.mono (by decide)) rfl (pa_cons (pv 0) (pa_cons pe_int pa_nil))) pe_int (nomark _)))))
          (pss_one (ps_expr (pe_bm0 PySem.F.plainAttrs_list PySem.F.slot_list_pop PySem.F.type_list_pop mt_pop (pv 10))))
          (pss_one (ps_expr (pe_bm PySem.F.plainAttrs_list PySem.F.slot_list_append PySem.F.type_list_append mt_append (pv 10) (pa_cons (pe_cal CO (hr.mono (by decide)) rfl (pa_cons (pv 0) (pa_cons (pv 5) pa_nil))) pa_nil)))))))))))
      (pss_one (ps_ret (pe_cal CU (hr.mono (by decide)) rfl (pa_cons (pv 3) (pa_cons (pv 1) pa_nil))))))))))), ?_⟩
    refine ⟨_, rfl, p, 6, 0, rfl, hp, by decide, by decide, by decide, fun H1 R bk st ws t1 b1 ⟨W, L, hR, hW, hL⟩ wf wok hp1 tt1 => ?_⟩
    have dok := wf.dok wok
    have hRc := cut_some hR
    refine ⟨R, _, rfl, SqL.of hRc.2, rfl, _, _, rfl, _, _, rfl, rfl, ?_⟩
    refine ⟨_, rfl, W, bk, st, rfl, hW.same cut_le, dok, fun H2 q s2 hq0 hD => ?_⟩
    have b2 := b1.trans (But.of s2)
    have hp2 := hp1.same s2
    have hD2 := hD.cutP hp2
    have hW2 := hW.same (cut_same s2)
    have hL2 : SL (cut [p] H2) L ws := hL.same (cut_same s2)
    have nLp : L ≠ p := by have := (cut_some hL2).1; simpa using this
    have hLL : SL H2 L ws := (cut_some hL2).2
    refine ⟨by show 7 ≤ sizeLine; decide, fun S0 hS0 => ⟨S0, rfl, ⟨_, SqL.of upd_same⟩, fun D hD0 => ?_⟩⟩
    have nDS : S0 ≠ D := fun e => by rw [← e, upd_same] at hD0; cases hD0
    have hD02 := upd_none' hD0
    have wh := wok.hi
    refine lc_list (K := K) (a := S0) (xs := strgL.map V.str) (fun j H' => Same H2 H' ∧ SL H' S0 strgL ∧ SL H' D ((strgL.take j).filter fun x => decide (x ∉ ws)))
      ⟨fun b u e => by rw [upd_ne (ne_of_none e hD02), upd_ne (ne_of_none e hS0)]; exact e, by rw [SL, upd_ne nDS, upd_same]; rfl, by rw [SL, upd_same]; rfl⟩ (fun j H' _ z => z.2.1.sq) ?_ ?_
    · rintro j x H' hx ⟨sm, hq', hD'⟩
      obtain ⟨z, hz, rfl⟩ := get_map hx
      refine ⟨rfl, _, rfl, _, rfl, L, _, rfl, .inl (hLL.same sm).sq, rfl, flat_strs ws, ?_⟩
      refine ⟨_, rfl, ?_⟩
      rw [if_pos rfl, inV_str]
      have lj : j < 7 := (List.getElem?_eq_some_iff.mp hz).1
      by_cases hzs : z ∈ ws
      · rw [decide_eq_true hzs]
        refine iteF ⟨sm, hq', ?_⟩
        rw [filt_no hz (by simpa using hzs)]
        exact hD'
      · rw [decide_eq_false hzs]
        refine iteT ⟨_, rfl, _, hD', by rw [List.length_map, sizeLine_eq]; exact Nat.lt_of_le_of_lt (List.length_filter_le _ _) (by rw [List.length_take]; omega), fun b u e => ?_, ?_, ?_⟩
        · rw [upd_ne (ne_of_none e hD02)]; exact sm _ _ e
        · rw [SL, upd_ne nDS]; exact hq'
        · rw [SL, upd_same, filt_yes hz (by simpa using hzs), List.map_append]
          rfl
    rintro H3 ⟨sm, hq', hD'⟩
    rw [show (strgL.map V.str).length = 7 from rfl, show strgL.take 7 = strgL from rfl] at hD'
    refine ⟨_, rfl, D, _, rfl, SqL.of hD', fun S1 hS1 => ⟨_, _, rfl, ?_⟩⟩
    rw [cutV_map, cutL_to _ (by decide)]
    have wst : ∀ x ∈ (strgL.filter (fun x => decide (x ∉ ws))).take (1 : Int).toNat, Wd x := fun x hx => strg_wd x (List.mem_filter.mp (List.mem_of_mem_take hx)).1
    have lst : ((strgL.filter (fun x => decide (x ∉ ws))).take (1 : Int).toNat).length ≤ 1 := by rw [List.length_take]; exact Nat.min_le_left _ _
    generalize (strgL.filter (fun x => decide (x ∉ ws))).take (1 : Int).toNat = xs1 at wst lst
    have q1 := Same.new (o := .lst (xs1.map V.str)) hS1
    have eS1 : SL (L2.upd H3 S1 (.lst (xs1.map V.str))) S1 xs1 := upd_same
    generalize L2.upd H3 S1 (.lst (xs1.map V.str)) = H4 at q1 eS1
    have s24 := Same.trans sm q1
    have hL4 := hLL.same s24
    refine ⟨_, rfl, _, rfl, L, S1, _, _, rfl, rfl, hL4, eS1, by rw [List.length_map, List.length_map, sizeLine_eq]; omega, fun Tk hTk => ?_⟩
    have q2 := Same.new (o := .lst (ws.map V.str ++ xs1.map V.str)) hTk
    have eTk : SL (L2.upd H4 Tk (.lst (ws.map V.str ++ xs1.map V.str))) Tk (ws ++ xs1) := by rw [SL, upd_same, List.map_append]
    generalize L2.upd H4 Tk (.lst (ws.map V.str ++ xs1.map V.str)) = H5 at q2 eTk
    have s25 := Same.trans s24 q2
    have hp5 := hp2.same s25
    have nTp : Tk ≠ p := (hp2.same s24).ne hTk
    have b5 : But p H H5 := b2.trans (But.of s25)
    have hD5 : DeskAt C (cut [p] H5) q bk st := hD2.same (cut_same s25)
    have hW5 : WorldAt (cut [p] H5) W bk st := hW2.same (cut_same s25)
    have atk : ∀ x ∈ ws ++ xs1, Wd x := fun x hx => by
      rcases List.mem_append.mp hx with h | h
      · exact wok.wd x h
      · exact wst x h
    have ltk : 1 ≤ (ws ++ xs1).length ∧ (ws ++ xs1).length ≤ 7 := by rw [List.length_append]; have := wok.lo; omega
    generalize ws ++ xs1 = tk at eTk atk ltk
    clear hR hRc hL hL2 hLL hD hD2 hW hW2 hq' hD' eS1 hL4 s2 sm q1 q2 s24 s25 hS0 hS1 hTk hD0 hD02 b1 b2 hp1 hp2 wst lst
    have trp : ∀ {H' : Hp}, Same (cut [p] H5) (cut [p] H') → WorldAt H' W bk st ∧ DeskAt C H' q bk st := fun {H'} s => ⟨(hW5.same s).same cut_le, (hD5.same s).same cut_le⟩
    refine ⟨_, rfl, _, rfl, Tk, _, rfl, .inl eTk.sq, _, _, rfl, rfl, _, rfl, ?_⟩
    refine ite2 (fun _ => ?_) (fun _ => ?_)
    all_goals
      refine ⟨Tk, tk, _, rfl, eTk, ltk.2, by decide, by decide, fun H6 Rt tss s6 hRt ⟨as, eRt, pas⟩ tok lt => ?_⟩
      refine ⟨Rt, rfl, ⟨_, SqL.of eRt⟩, ?_⟩
      have las := paired_len pas
      refine for_list (K := K) (a := Rt) (xs := as.map V.ref) (fun i σ H' => ∃ (v6 : Option V), σ = [some (.ref p), some (.ref W), some (.ref L), some (.ref q), some (.ref S1), some (.ref Tk), v6, none, none, none, none, none, none, none] ∧ Same H6 H') ⟨none, rfl, Same.refl _⟩ (fun i σ H' _ ⟨_, _, z⟩ => SqL.of (z _ _ eRt)) ?_ ?_
      · rintro i x σ H7 hx ⟨v6, rfl, s7⟩
        obtain ⟨c, hc, rfl⟩ := get_map hx
        have hi : i < as.length := (List.getElem?_eq_some_iff.mp hc).1
        have hit : i < tss.length := by omega
        have ht := List.getElem?_eq_getElem hit
        have hcs := (paired_at pas hc ht).same s7
        have hok := tok _ (List.getElem_mem hit)
        have s57 := Same.trans s6 s7
        obtain ⟨w1, w2⟩ := trp (cut_same s57)
        exact ⟨_, rfl, _, rfl, _, rfl, W, q, c, bk, st, _, rfl, w1, w2, dok, hcs, by have := hok.1; omega, fun y hy => atk y (hok.2 y hy), fun H8 s8 => ⟨_, rfl, iteF ⟨_, rfl, Same.trans s7 s8⟩⟩⟩
      rintro σ H7 ⟨v6, rfl, s7⟩
      have s57 := Same.trans s6 s7
      have hp7 := hp5.same s57
      have b7 : But p H H7 := b5.trans (But.of s57)
      refine ⟨6, rfl, by decide, by decide, ?_⟩
      refine for_range (n := 6) (fun i σ H' => ∃ (v6 v7 v8 v9 : Option V) (t' : Int), σ = [some (.ref p), some (.ref W), some (.ref L), some (.ref q), some (.ref S1), some (.ref Tk), v6, v7, v8, v9, none, none, none, none] ∧ But p H5 H' ∧ Purse H' p t' ∧ t' ≤ t1 + 50 * i) ⟨v6, none, none, none, t1, rfl, But.of s57, hp7, by omega⟩ ?_ ?_
      · rintro i σ H8 hi ⟨v6, v7, v8, v9, t8, rfl, b8, hp8, tt8⟩
        have sc8 : Same (cut [p] H5) (cut [p] H8) := b8.cut
        refine ⟨_, rfl, _, rfl, _, rfl, p, 39, t8, rfl, hp8, by decide, by decide, by omega, fun r1 t9 o9 r10 r11 tt9 hp9 => ?_⟩
        have b9 := b8.trans (But.upd p H8 o9)
        generalize L2.upd H8 p o9 = H9 at b9 hp9
        refine ⟨_, _, rfl, rfl, p, W, bk, st, 1 + r1, t9, rfl, hp9, hW5.same b9.cut, dok, by omega, by omega, by omega, fun H10 M way t10 b10 hM0 hMM lw aw hp10 tt10 => ?_⟩
        have b110 := b9.trans b10
        have nMp := hp9.ne hM0
        refine ⟨_, rfl, _, rfl, M, _, rfl, .inl hMM.sq, _, _, rfl, rfl, p, _, t10, rfl, hp10, by omega, by rw [List.length_map]; omega, by omega, fun at' t11 o11 a0 a1 tt11 hp11 => ?_⟩
        have hM11 : SL (L2.upd H10 p o11) M way := by rw [SL, upd_ne nMp]; exact hMM
        have b11 := b110.trans (But.upd p H10 o11)
        generalize L2.upd H10 p o11 = H11 at b11 hp11 hM11
        refine ⟨_, rfl, _, rfl, _, rfl, _, rfl, M, _, rfl, hM11.sq, fun q2 hq2 => ?_⟩
        rw [cutV_map]
        have x2 : ∀ x ∈ cutL way none (some at'), Wd x := fun x hx => aw x (List.mem_of_mem_drop (List.mem_of_mem_take hx))
        have y2 : (cutL way none (some at')).length ≤ 60 := by unfold cutL; rw [List.length_take, List.length_drop]; omega
        generalize hc2 : cutL way none (some at') = w2 at x2 y2
        have g2 := Same.new (o := .lst (w2.map V.str)) hq2
        have e2 : SL (L2.upd H11 q2 (.lst (w2.map V.str))) q2 w2 := upd_same
        have hp12 := hp11.new (o := .lst (w2.map V.str)) hq2
        generalize L2.upd H11 q2 (.lst (w2.map V.str)) = H12 at g2 e2 hp12
        have hM12 := hM11.same g2
        refine ⟨_, rfl, _, rfl, _, rfl, M, _, rfl, hM12.sq, fun q3 hq3 => ?_⟩
        rw [cutV_map, hc2]
        have g3 := Same.new (o := .lst (w2.map V.str)) hq3
        have e3 : SL (L2.upd H12 q3 (.lst (w2.map V.str))) q3 w2 := upd_same
        have hp13 := hp12.new (o := .lst (w2.map V.str)) hq3
        have nq2 := hp11.ne hq2
        have nq3 := hp12.ne hq3
        generalize L2.upd H12 q3 (.lst (w2.map V.str)) = H13 at g3 e3 hp13
        have b13 := b11.trans (But.of (Same.trans g2 g3))
        have hT13 : SL H13 Tk tk := b13 _ _ nTp eTk
        refine ⟨_, rfl, _, rfl, p, Tk, _, t11, rfl, hp13, hT13, nTp, by rw [List.length_map]; exact ltk.1, by rw [List.length_map]; omega, by omega, fun jj v t14 o14 hj tt14 hp14 => ?_⟩
        obtain ⟨z, hz, rfl⟩ := get_map hj
        have hzw := atk z (List.mem_of_getElem? hz)
        have u14 : ∀ {c : Addr} {o : HO}, c ≠ p → H13 c = some o → (L2.upd H13 p o14) c = some o := fun {c o} n e => by rw [upd_ne n]; exact e
        have e2' : SL (L2.upd H13 p o14) q2 w2 := u14 nq2 (e2.same g3)
        have e3' : SL (L2.upd H13 p o14) q3 w2 := u14 nq3 e3
        have hM14 : SL (L2.upd H13 p o14) M way := u14 nMp (hM12.same g3)
        have b14 := b13.trans (But.upd p H13 o14)
        generalize L2.upd H13 p o14 = H14 at e2' e3' hM14 b14 hp14
        refine ⟨by show 1 ≤ sizeLine; decide, fun q4 hq4 => ?_⟩
        have g4 := Same.new (o := .lst [.str z]) hq4
        have e4 : SL (L2.upd H14 q4 (.lst [.str z])) q4 [z] := upd_same
        have hp15 := hp14.new (o := .lst [.str z]) hq4
        generalize L2.upd H14 q4 (.lst [.str z]) = H15 at g4 e4 hp15
        refine ⟨q3, q4, _, _, rfl, rfl, e3'.same g4, e4, by rw [List.length_map, List.length_map, sizeLine_eq]; show _ + 1 ≤ _; omega, fun q5 hq5 => ?_⟩
        rw [← List.map_append]
        have g5 := Same.new (o := .lst ((w2 ++ [z]).map V.str)) hq5
        have e5 : SL (L2.upd H15 q5 (.lst ((w2 ++ [z]).map V.str))) q5 (w2 ++ [z]) := upd_same
        have hp16 := hp15.new (o := .lst ((w2 ++ [z]).map V.str)) hq5
        generalize L2.upd H15 q5 (.lst ((w2 ++ [z]).map V.str)) = H16 at g5 e5 hp16
        have hM16 := (hM14.same g4).same g5
        refine ⟨_, rfl, _, rfl, _, _, rfl, rfl, _, rfl, M, _, rfl, hM16.sq, fun q6 hq6 => ?_⟩
        rw [cutV_map]
        have x6 : ∀ x ∈ cutL way (some (at' + 1)) none, Wd x := fun x hx => aw x (List.mem_of_mem_drop (List.mem_of_mem_take hx))
        have y6 : (cutL way (some (at' + 1)) none).length ≤ 60 := by unfold cutL; rw [List.length_take, List.length_drop]; omega
        generalize cutL way (some (at' + 1)) none = w6 at x6 y6
        have g6 := Same.new (o := .lst (w6.map V.str)) hq6
        have e6 : SL (L2.upd H16 q6 (.lst (w6.map V.str))) q6 w6 := upd_same
        have hp17 := hp16.new (o := .lst (w6.map V.str)) hq6
        generalize L2.upd H16 q6 (.lst (w6.map V.str)) = H17 at g6 e6 hp17
        refine ⟨q5, q6, _, _, rfl, rfl, e5.same g6, e6, by rw [List.length_map, List.length_map, List.length_append, sizeLine_eq]; show _ + 1 + _ ≤ _; omega, fun q7 hq7 => ?_⟩
        rw [← List.map_append]
        have g7 := Same.new (o := .lst ((w2 ++ [z] ++ w6).map V.str)) hq7
        have e7 : SL (L2.upd H17 q7 (.lst ((w2 ++ [z] ++ w6).map V.str))) q7 (w2 ++ [z] ++ w6) := upd_same
        have hp18 := hp17.new (o := .lst ((w2 ++ [z] ++ w6).map V.str)) hq7
        have x7 : ∀ x ∈ w2 ++ [z] ++ w6, Wd x := fun x hx => by
          rcases List.mem_append.mp hx with h | h
          · exact wd_app x2 hzw x h
          · exact x6 x h
        have y7 : (w2 ++ [z] ++ w6).length ≤ 200 := by rw [List.length_append, List.length_append]; show _ + 1 + _ ≤ _; omega
        generalize w2 ++ [z] ++ w6 = w7 at e7 hp18 g7 x7 y7
        generalize L2.upd H17 q7 (.lst (w7.map V.str)) = H18 at g7 e7 hp18
        have hM18 := (hM16.same g6).same g7
        refine ⟨_, rfl, _, rfl, M, _, rfl, hM18.sq, fun q8 hq8 => ?_⟩
        rw [cutV_map]
        have x8 : ∀ x ∈ cutL way (some 1) none, Wd x := fun x hx => aw x (List.mem_of_mem_drop (List.mem_of_mem_take hx))
        have y8 : (cutL way (some 1) none).length ≤ 60 := by unfold cutL; rw [List.length_take, List.length_drop]; omega
        generalize cutL way (some 1) none = w8 at x8 y8
        have g8 := Same.new (o := .lst (w8.map V.str)) hq8
        have e8 : SL (L2.upd H18 q8 (.lst (w8.map V.str))) q8 w8 := upd_same
        have hp19 := hp18.new (o := .lst (w8.map V.str)) hq8
        generalize L2.upd H18 q8 (.lst (w8.map V.str)) = H19 at g8 e8 hp19
        have hM19 := hM18.same g8
        refine ⟨_, rfl, M, _, rfl, hM19.sq, fun q9 hq9 => ?_⟩
        rw [← List.map_reverse]
        have g9 := Same.new (o := .lst (way.reverse.map V.str)) hq9
        have e9 : SL (L2.upd H19 q9 (.lst (way.reverse.map V.str))) q9 way.reverse := upd_same
        have hp20 := hp19.new (o := .lst (way.reverse.map V.str)) hq9
        generalize L2.upd H19 q9 (.lst (way.reverse.map V.str)) = H20 at g9 e9 hp20
        refine ⟨by show 5 ≤ sizeLine; decide, fun q10 hq10 => ?_⟩
        have g10 := Same.new (o := .lst [.ref M, .ref q2, .ref q7, .ref q8, .ref q9]) hq10
        have e10 : (L2.upd H20 q10 (.lst [.ref M, .ref q2, .ref q7, .ref q8, .ref q9])) q10 = some (.lst [.ref M, .ref q2, .ref q7, .ref q8, .ref q9]) := upd_same
        have hp21 := hp20.new (o := .lst [.ref M, .ref q2, .ref q7, .ref q8, .ref q9]) hq10
        generalize L2.upd H20 q10 (.lst [.ref M, .ref q2, .ref q7, .ref q8, .ref q9]) = H21 at g10 e10 hp21
        have s1421 : Same H14 H21 := Same.trans g4 (Same.trans g5 (Same.trans g6 (Same.trans g7 (Same.trans g8 (Same.trans g9 g10)))))
        have b21 : But p H5 H21 := b14.trans (But.of s1421)
        have all5 : ∀ c ∈ [M, q2, q7, q8, q9], ∃ wy, SL H21 c wy ∧ wy.length ≤ 1000 ∧ ∀ x ∈ wy, Wd x := fun c hc => by
          simp only [List.mem_cons, List.not_mem_nil, or_false] at hc
          rcases hc with h | h | h | h | h <;> rw [h]
          · exact ⟨way, hM14.same s1421, by omega, aw⟩
          · exact ⟨w2, e2'.same s1421, by omega, x2⟩
          · exact ⟨w7, ((e7.same g8).same g9).same g10, by omega, x7⟩
          · exact ⟨w8, (e8.same g9).same g10, by omega, x8⟩
          · exact ⟨way.reverse, e9.same g10, by rw [List.length_reverse]; omega, fun x hx => aw x (List.mem_reverse.mp hx)⟩
        refine ⟨q10, rfl, ⟨_, SqL.of e10⟩, ?_⟩
        refine for_list (K := K) (a := q10) (xs := [M, q2, q7, q8, q9].map V.ref) (fun j σ H' => ∃ (v9 : Option V), σ = [some (.ref p), some (.ref W), some (.ref L), some (.ref q), some (.ref S1), some (.ref Tk), some (.ref M), some (.int (0 + (i : Int))), some (.int at'), v9, none, none, none, none] ∧ Same H21 H') ⟨v9, rfl, Same.refl _⟩ (fun j σ H' _ ⟨_, _, z⟩ => SqL.of (z _ _ e10)) ?_ ?_
        · rintro j x σ H22 hx ⟨v9', rfl, s22⟩
          obtain ⟨c, hc, rfl⟩ := get_map hx
          obtain ⟨wy, c1, c2, c3⟩ := all5 c (List.mem_of_getElem? hc)
          obtain ⟨u1, u2⟩ := trp (fun c u e => cut_same s22 _ _ (b21.cut _ _ e))
          exact ⟨_, rfl, _, rfl, _, rfl, W, q, c, bk, st, wy, rfl, u1, u2, dok, c1.same s22, c2, c3, fun H23 s23 => ⟨_, rfl, iteF ⟨_, rfl, Same.trans s22 s23⟩⟩⟩
        · rintro σ H22 ⟨v9', rfl, s22⟩
          exact ⟨_, _, _, _, t14, rfl, b21.trans (But.of s22), hp21.same s22, by omega⟩
      · rintro σ H8 ⟨v6, v7, v8, v9, t8, rfl, b8, hp8, tt8⟩
        refine ⟨by decide, fun Ln hLn => ?_⟩
        have nLn := hp8.ne hLn
        have hLn5 : H5 Ln = none := b8.fr hLn nLn
        refine ⟨12, rfl, by decide, by decide, ?_⟩
        refine for_range (n := 12) (fun i σ H' => ∃ (v7 v11 v12 : Option V) (way : List Str) (t' : Int), σ = [some (.ref p), some (.ref W), some (.ref L), some (.ref q), some (.ref S1), some (.ref Tk), v6, v7, v8, v9, some (.ref Ln), v11, v12, none] ∧ But p H5 H' ∧ SL H' Ln way ∧ way.length ≤ i ∧ (∀ x ∈ way, Wd x) ∧ Purse H' p t' ∧ t' ≤ t1 + 300 + 2 * i)
          ⟨v7, none, none, [], t8, rfl, b8.newt hLn, upd_same, Nat.le_refl _, by simp, hp8.new hLn, by omega⟩ ?_ ?_
        · rintro i σ H9 hi ⟨v7, v11, v12, way, t9, rfl, b9, hLw, lw, aw, hp9, tt9⟩
          obtain ⟨w9, d9⟩ := trp b9.cut
          have tail : ∀ (H' : Hp) (v11 v12 : Option V), Same H9 H' →
              tIfS (tAnd (tTest (tOp (rNeD K) (tVar 10) (tLst tNil))) (tTest (tOp rEq (tCall spDraw [] E0 (tCons (tVar 0) (tCons (tC (.int 4)) tNil))) (tC (.int 0)))))
                (tDrop (tBM0 K "list" rPop (tVar 10))) (tDrop (tBM K "list" rAppend (tVar 10) (tCons (tCall spOneOf [] E0 (tCons (tVar 0) (tCons (tVar 5) tNil))) tNil)))
                { nx := fun σ H' => ∃ (v7 v11 v12 : Option V) (way : List Str) (t' : Int), σ = [some (.ref p), some (.ref W), some (.ref L), some (.ref q), some (.ref S1), some (.ref Tk), v6, v7, v8, v9, some (.ref Ln), v11, v12, none] ∧ But p H5 H' ∧ SL H' Ln way ∧ way.length ≤ i + 1 ∧ (∀ x ∈ way, Wd x) ∧ Purse H' p t' ∧ t' ≤ t1 + 300 + 2 * ((i + 1 : Nat) : Int), rt := Q, bk := fun _ _ => False, ct := fun _ _ => False }
                [some (.ref p), some (.ref W), some (.ref L), some (.ref q), some (.ref S1), some (.ref Tk), v6, some (.int (0 + (i : Int))), v8, v9, some (.ref Ln), v11, v12, none] H' := by
            intro H' v11 v12 s
            have hl1 : SL H' Ln way := hLw.same s
            have hp1' := hp9.same s
            refine ⟨_, rfl, by decide, fun N hN => ?_⟩
            have g1 := Same.new (o := .lst []) hN
            have eN : SL (L2.upd H' N (.lst [])) N [] := upd_same
            have hp2' := hp1'.new (o := .lst []) hN
            generalize L2.upd H' N (.lst []) = H2 at g1 eN hp2'
            have hl2 := hl1.same g1
            have bt : But p H9 H2 := But.of (Same.trans s g1)
            refine ⟨_, _, dp_strs hl2, dp_strs eN, shaped_strs aw, by decide, _, rfl, ?_⟩
            refine ite2 (fun c => ?_) (fun c => ?_)
            · refine ⟨_, rfl, p, 4, t9, rfl, hp2', by decide, by decide, by omega, fun r3 t3 o3 r30 r31 tt3 hp3 => ⟨rfl, _, rfl, ?_⟩⟩
              have hl3 : SL (L2.upd H2 p o3) Ln way := by rw [SL, upd_ne nLn]; exact hl2
              have bt3 := bt.trans (But.upd p H2 o3)
              generalize L2.upd H2 p o3 = H3' at hl3 bt3 hp3
              refine ite2 (fun _ => ?_) (fun _ => ?_)
              · have ne : way ≠ [] := fun e => by rw [e] at c; exact absurd c (by decide)
                have lp : 0 < way.length := List.length_pos_iff.mpr ne
                refine ⟨_, rfl, .inl ⟨rfl, _, SqL.of hl3⟩, Ln, _, .str way[way.length - 1], rfl, rfl, hl3, by rw [List.length_map, List.getElem?_map, List.getElem?_eq_getElem (by omega)]; rfl, ?_⟩
                refine ⟨_, _, _, way.dropLast, t3, rfl, But.ofL hLn5 (b9.trans bt3), by rw [SL, upd_same, List.map_dropLast], by rw [List.length_dropLast]; omega, fun x hx => aw x (List.Sublist.subset (List.dropLast_sublist way) hx), hp3.upd nLn.symm, by omega⟩
              · have hTx : SL H3' Tk tk := (b9.trans bt3) _ _ nTp eTk
                refine ⟨_, rfl, .inl ⟨rfl, _, SqL.of hl3⟩, _, rfl, _, rfl, p, Tk, _, t3, rfl, hp3, hTx, nTp, by rw [List.length_map]; exact ltk.1, by rw [List.length_map]; omega, by omega, fun jj v tz oz hj ttz hpz => ?_⟩
                obtain ⟨z, hz, rfl⟩ := get_map hj
                have hLz : (L2.upd H3' p oz) Ln = some (.lst (way.map V.str)) := by rw [upd_ne nLn]; exact hl3
                refine ⟨Ln, _, _, rfl, rfl, hLz, by rw [List.length_map, sizeLine_eq]; omega, ?_⟩
                exact ⟨_, _, _, way ++ [z], tz, rfl, But.ofL hLn5 ((b9.trans bt3).trans (But.upd p H3' oz)), by rw [SL, upd_same, List.map_append]; rfl, by rw [List.length_append]; show _ + 1 ≤ _; omega, wd_app aw (atk z (List.mem_of_getElem? hz)), hpz.upd nLn.symm, by omega⟩
            · have hTx : SL H2 Tk tk := (b9.trans bt) _ _ nTp eTk
              refine ⟨_, rfl, .inl ⟨rfl, _, SqL.of hl2⟩, _, rfl, _, rfl, p, Tk, _, t9, rfl, hp2', hTx, nTp, by rw [List.length_map]; exact ltk.1, by rw [List.length_map]; omega, by omega, fun jj v tz oz hj ttz hpz => ?_⟩
              obtain ⟨z, hz, rfl⟩ := get_map hj
              have hLz : (L2.upd H2 p oz) Ln = some (.lst (way.map V.str)) := by rw [upd_ne nLn]; exact hl2
              refine ⟨Ln, _, _, rfl, rfl, hLz, by rw [List.length_map, sizeLine_eq]; omega, ?_⟩
              exact ⟨_, _, _, way ++ [z], tz, rfl, But.ofL hLn5 ((b9.trans bt).trans (But.upd p H2 oz)), by rw [SL, upd_same, List.map_append]; rfl, by rw [List.length_append]; show _ + 1 ≤ _; omega, wd_app aw (atk z (List.mem_of_getElem? hz)), hpz.upd nLn.symm, by omega⟩
          refine ⟨_, rfl, _, rfl, W, Ln, bk, st, way, rfl, w9, dok, hLw, ?_⟩
          refine ⟨_, rfl, _, rfl, q, Ln, bk, st, way, rfl, d9, dok, hLw, by omega, aw, fun H10 s10 => ?_⟩
          refine ⟨_, rfl, _, rfl, q, Ln, bk, st, way, rfl, d9.same s10, dok, hLw.same s10, by omega, aw, fun H11 s11 => ?_⟩
          have s911 := Same.trans s10 s11
          refine ⟨by show 2 ≤ sizeLine; decide, fun A1 hA1 => ?_⟩
          have g1 := Same.new (o := .lst [optV (walkB bk st way), .bl (wholeB bk st way)]) hA1
          have eA1 := upd_same (H := H11) (a := A1) (o := .lst [optV (walkB bk st way), .bl (wholeB bk st way)])
          generalize L2.upd H11 A1 (.lst [optV (walkB bk st way), .bl (wholeB bk st way)]) = H12 at g1 eA1
          have s912 := Same.trans s911 g1
          refine ⟨_, rfl, _, rfl, _, rfl, ?_⟩
          cases e : walkB bk st way with
          | none =>
            rw [e] at eA1
            have ew : wholeB bk st way = false := by unfold wholeB; rw [e]
            rw [ew] at eA1
            refine (if_neg (by decide)).mpr ?_
            refine ⟨by show 2 ≤ sizeLine; decide, fun A2 hA2 => ?_⟩
            have g2 := Same.new (o := .lst [V.non, .bl false]) hA2
            have eA2 := upd_same (H := H12) (a := A2) (o := .lst [V.non, .bl false])
            refine ⟨_, _, rfl, .inr (.inl ⟨A1, A2, _, _, rfl, rfl, g2 _ _ eA1, eA2, by show 2 ≤ 10000; decide, .cons (eqx_leaf .non) (.cons (eqx_leaf (.bl false)) .nil)⟩), fun H13 s13 => ⟨_, rfl, iteF ?_⟩⟩
            have s913 := Same.trans s912 (Same.trans g2 s13)
            refine ⟨_, rfl, _, rfl, ?_⟩
            refine (if_pos (by decide)).mpr ?_
            refine ⟨_, rfl, _, rfl, q, Ln, bk, st, way, 0, rfl, .inl rfl, d9.same s913, dok, hLw.same s913, by omega, aw, e, fun H14 s14 => ⟨true, rfl, iteF ?_⟩⟩
            have s914 := Same.trans s913 s14
            refine ⟨_, rfl, _, rfl, q, Ln, bk, st, way, 1, rfl, .inr rfl, d9.same s914, dok, hLw.same s914, by omega, aw, e, fun H15 s15 => ⟨true, rfl, iteF ?_⟩⟩
            refine ⟨_, rfl, _, rfl, ?_⟩
            exact iteF2 (tail H15 _ _ (Same.trans s914 s15)) (by decide)
          | some s0 =>
            have hs := walk_mem dok dok.st e
            have e1 : decide (optV (some s0) = V.non) = false := decide_eq_false fun z => by cases z
            have row : ∀ {H' : Hp}, Same H9 H' → ∃ b t a, H' W = some (.lst [.ref b, .str st]) ∧ DGet H' b (.str s0) (some (.ref t)) ∧ H' t = some (.tup [.str (rowOf bk s0).1, .ref a]) ∧ TurnsAt H' a (rowOf bk s0).2 := fun {H'} s => by
              obtain ⟨b, hWl, hB⟩ := w9.same s
              obtain ⟨kvs, hk, hR⟩ := hB
              obtain ⟨v, ev, ⟨t, a, rfl, ht, ha⟩, _⟩ := hR.look hs
              exact ⟨b, t, a, hWl, .inl ⟨kvs, .inr s0, .inl hk, rfl, ev.symm⟩, ht, ha⟩
            have ew : wholeB bk st way = decide (V.str (rowOf bk s0).1 = V.str "done") := by
              unfold wholeB
              rw [e]
              show decide _ = decide _
              by_cases c : (rowOf bk s0).1 = "done"
              · rw [decide_eq_true c, decide_eq_true (by rw [c])]
              · rw [decide_eq_false c, decide_eq_false fun z => c (by injection z)]
            rw [e, ew] at eA1
            obtain ⟨b, t, a, r1, r2, r3, r4⟩ := row s912
            refine iteT2 ?_ (by rw [e1]; rfl)
            refine ⟨_, rfl, W, _, _, _, rfl, rfl, SqL.of r1, atI_nat (j := 0) rfl, _, rfl, b, _, rfl, r2, t, _, _, _, rfl, rfl, SqT.of r3, atI_nat (j := 0) rfl, rfl, ?_⟩
            refine ⟨by show 2 ≤ sizeLine; decide, fun A2 hA2 => ?_⟩
            have g2 := Same.new (o := .lst [optV (some s0), .bl (decide (V.str (rowOf bk s0).1 = V.str "done"))]) hA2
            have eA2 := upd_same (H := H12) (a := A2) (o := .lst [optV (some s0), .bl (decide (V.str (rowOf bk s0).1 = V.str "done"))])
            refine ⟨_, _, rfl, .inr (.inl ⟨A1, A2, _, _, rfl, rfl, g2 _ _ eA1, eA2, by show 2 ≤ 10000; decide, .cons (eqx_leaf (leaf_opt _)) (.cons (eqx_leaf (.bl _)) .nil)⟩), fun H13 s13 => ⟨_, rfl, iteF ?_⟩⟩
            have s913 := Same.trans s912 (Same.trans g2 s13)
            refine ⟨_, rfl, _, rfl, ?_⟩
            refine iteF2 ?_ e1
            refine iteF ?_
            refine ⟨_, rfl, _, rfl, ?_⟩
            refine iteT2 ?_ (by rw [e1]; rfl)
            obtain ⟨b, t, a, r1, r2, r3, r4⟩ := row s913
            have hm := row_mem hs
            have wl := (dok.bok.rs _ hm).2
            have ek : (kT (rowOf bk s0).2).map (·.1) = ((rowOf bk s0).2.map (·.1)).map Sum.inr := by rw [kT, List.map_map, List.map_map]; rfl
            refine ⟨_, rfl, W, _, _, _, rfl, rfl, SqL.of r1, atI_nat (j := 0) rfl, _, rfl, b, _, rfl, r2, t, _, _, _, rfl, rfl, SqT.of r3, atI_nat (j := 0) rfl, ?_⟩
            refine ⟨_, rfl, W, _, _, _, rfl, rfl, SqL.of r1, atI_nat (j := 0) rfl, _, rfl, b, _, rfl, r2, t, _, _, _, rfl, rfl, SqT.of r3, atI_nat (j := 1) rfl, a, _, (rowOf bk s0).2.map (·.1), rfl, .inl r4, ek, by rw [List.length_map]; exact wl, fun ys S pm so hS => ?_⟩
            have ey := srt_of pm so
            have q1 := Same.new (o := .lst (ys.map V.str)) hS
            have eS := upd_same (H := H13) (a := S) (o := .lst (ys.map V.str))
            generalize L2.upd H13 S (.lst (ys.map V.str)) = H14 at q1 eS
            refine ⟨by show 2 ≤ sizeLine; decide, fun U hU => ?_⟩
            have q2 := Same.new (o := .tup [.str (rowOf bk s0).1, .ref S]) hU
            have eU := upd_same (H := H14) (a := U) (o := .tup [.str (rowOf bk s0).1, .ref S])
            generalize L2.upd H14 U (.tup [.str (rowOf bk s0).1, .ref S]) = H15 at q2 eU
            have s915 := Same.trans s913 (Same.trans q1 q2)
            refine ⟨_, rfl, _, rfl, W, Ln, bk, st, s0, way, rfl, w9.same s915, dok, hLw.same s915, by omega, e, fun H16 R3 s16 hR3 eR3 => ?_⟩
            refine ⟨by show 2 ≤ sizeLine; decide, fun Du hDu => ?_⟩
            have q3 := Same.new (o := .lst [.ref U, .ref R3]) hDu
            have eDu := upd_same (H := H16) (a := Du) (o := .lst [.ref U, .ref R3])
            generalize L2.upd H16 Du (.lst [.ref U, .ref R3]) = H17 at q3 eDu
            have s1517 := Same.trans s16 q3
            have s917 := Same.trans s915 s1517
            refine ⟨_, rfl, _, rfl, q, Ln, bk, st, s0, way, rfl, d9.same s917, dok, hLw.same s917, by omega, aw, e, fun H18 R1 K1 s18 hR1 hK1 eR1 eK1 => ?_⟩
            have s918 := Same.trans s917 s18
            refine ⟨_, rfl, _, rfl, q, Ln, bk, st, s0, way, rfl, d9.same s918, dok, hLw.same s918, by omega, aw, e, fun H19 R2 s19 hR2 eR2 => ?_⟩
            refine ⟨by show 2 ≤ sizeLine; decide, fun B1 hB1 => ?_⟩
            have q4 := Same.new (o := .lst [.ref R1, .ref R2]) hB1
            have eB1 := upd_same (H := H19) (a := B1) (o := .lst [.ref R1, .ref R2])
            generalize L2.upd H19 B1 (.lst [.ref R1, .ref R2]) = H20 at q4 eB1
            have s1820 := Same.trans s19 q4
            have s1720 := Same.trans s18 s1820
            have lys : ys.length < 64 := by rw [pm.length_eq, List.length_map]; exact wl
            have eyk : keysO (rowOf bk s0).2 = ys := by rw [ey]; rfl
            have eK1' : SL H20 K1 ys := by rw [← eyk]; exact eK1.same s1820
            have eS' : SL H20 S ys := (Same.trans q2 (Same.trans s1517 s1720)) _ _ eS
            have eR2' : PairsAt H20 R2 (spokenB bk st way) := by
              obtain ⟨ts, h1, h2⟩ := eR2
              exact ⟨ts, q4 _ _ h1, prs_same h2 q4⟩
            have eR3' : PairsAt H20 R3 (spokenB bk st way) := by
              obtain ⟨ts, h1, h2⟩ := eR3
              exact ⟨ts, (Same.trans q3 s1720) _ _ h1, prs_same h2 (Same.trans q3 s1720)⟩
            refine ⟨_, rfl, _, _, rfl, .inr (.inl ⟨B1, Du, _, _, rfl, rfl, eB1, s1720 _ _ eDu, by show 2 ≤ 10000; decide, .cons (.inr (.inr (.inl ⟨R1, U, _, _, rfl, rfl, s1820 _ _ eR1, (Same.trans s1517 s1720) _ _ eU, by show 2 ≤ 10000; decide, .cons (eqx_str _) (.cons (eqx_list eK1' eS' (by omega)) .nil)⟩))) (.cons (eqx_pairs eR2' eR3' (by rw [spoken_len]; omega)) .nil)⟩), fun H21 s21 => ⟨_, rfl, iteF ?_⟩⟩
            exact tail H21 _ _ (Same.trans s918 (Same.trans s1820 s21))
        · rintro σ H9 ⟨v7, v11, v12, way, t9, rfl, b9, hLw, lw, aw, hp9, tt9⟩
          obtain ⟨w9, d9⟩ := trp b9.cut
          exact ⟨_, rfl, _, rfl, q, W, bk, st, rfl, d9, w9, dok, fun H10 s10 => k H10 ((b5.trans b9).trans (But.of s10))⟩
end
end D1
end L2
/-! law (over the promise of right) -/
namespace L2
namespace D1
open PySem PySem.Spec PyProof.Rows
abbrev sLaw : Stmt := top 58
def spLaw (K : PySem.W.Frag) : Sp := fun vs H Q _ => ∃ (a : Addr) (ns : List Int), vs = [.ref a] ∧ SqL K H a (ns.map V.int) ∧ ns.length ≤ 63 ∧ ∀ H', Q (.bl true) H'
section
variable {P : Program} {w : World} {K : PySem.W.Frag} {mg : Str → Option Value} {base : Heap} {C : Addr}
abbrev CPurses (P : Program) (w : World) (K : PySem.W.Frag) (mg : Str → Option Value) (base : Heap) := Cal P w K mg base "_law_purses" 2 ["_law_script", "_law_few"] (spPurses K)
abbrev CRight (P : Program) (w : World) (K : PySem.W.Frag) (mg : Str → Option Value) (base : Heap) := Cal P w K mg base "_law_right" 12 ["_law_purse_here"] spRight
theorem scLw : FnScope ["_law_script", "_law_purse_here"] ["_law_script"] (defScope sLaw) := ⟨rfl, rfl, rfl, by decide +kernel, rfl, by decide +kernel, by decide +kernel⟩
theorem ok_law {f : Addr} {fd : FuncData} (F : Fun K "law" "law" sLaw f fd) (CP : CPurses P w K mg base) (CR : CRight P w K mg base) : FnOk P w K mg base CX0 13 f fd ["_law_script"] (spLaw K) := by
  refine F.ok scLw (fun vs H Q E h => ?_) (fun cdv A outer s H vs Q E hr h => ?_)
  · obtain ⟨a, ns, rfl, _⟩ := h; rfl
  · obtain ⟨a, ns, rfl, hS, l63, k⟩ := h
    refine ⟨_, pss_cons (ps_for PassesOwn.never rfl (pi_list (pe_cal CP (hr.mono (by decide)) rfl (pa_cons (pv 0) (pa_cons pe_int pa_nil)))) (pg_name (i := 1) scLw.nd rfl (Or.inl rfl))
        (pss_one (ps_if (pt_not (pt_val (pe_cal CR (hr.mono (by decide)) rfl (pa_cons (pv 1) pa_nil)))) (pss_one ps_never) pss_nil)))
      (pss_one (ps_ret pe_bl)), ?_⟩
    refine ⟨_, rfl, a, ns, 2, rfl, hS, l63, by decide, by decide, fun H1 L ps s1 hL0 hL al nd nL lp => ?_⟩
    refine ⟨L, rfl, ⟨_, SqL.of hL⟩, ?_⟩
    refine for_list (K := K) (a := L) (xs := ps.map V.ref) (fun i σ H' => ∃ v : Option V, σ = [some (.ref a), v] ∧ H' L = some (.lst (ps.map V.ref)) ∧ ∀ j p, i ≤ j → ps[j]? = some p → Purse H' p 0) ⟨none, rfl, hL, fun j p _ e => (al p (List.mem_of_getElem? e)).2⟩ (fun i σ H' _ ⟨_, _, z, _⟩ => SqL.of z) ?_ ?_
    · rintro i x σ H2 hx ⟨v, rfl, hL2, hp⟩
      obtain ⟨p, e, rfl⟩ := get_map hx
      have hpi := hp i p (Nat.le_refl _) e
      have nLp : L ≠ p := fun h => nL (h ▸ List.mem_of_getElem? e)
      refine ⟨_, rfl, p, rfl, hpi, fun H3 b3 => ⟨_, rfl, iteF ⟨_, rfl, b3 _ _ nLp hL2, fun j p' hj e' => ?_⟩⟩⟩
      have nn : p' ≠ p := fun h => by
        rw [h] at e'
        have hil : i < ps.length := (List.getElem?_eq_some_iff.mp e).1
        have := (List.getElem?_inj hil nd).mp (e.trans e'.symm)
        omega
      obtain ⟨g, b, z, hl, r⟩ := hp j p' (by omega) e'
      exact ⟨g, b, z, b3 _ _ nn hl, r⟩
    · rintro σ H2 ⟨v, rfl, hL2, hp⟩
      exact k H2
end
end D1
end L2
/-! making an own exception with keywords, as a value -/
namespace PySem
namespace MkX
open PySem.W PySem.Calls PyProof.Rows PySem.HandSPX
section
variable {prog : Program} {w : World} {A : Around} {E : Value → Shared → Prop} {R : Result → Shared → Prop} {h : Heap} {g : Array GenState} {d : Drawn} {t : Nat} {os : OsState}
variable {nm q : Str} {C N : Addr} {bs bm bmB : List Value} {hdct : Bool} {sn : List Str} {sub : List Value} {ab : Bool} {col : Option Bool} {dd : Option Addr} {k0 k1 k2 k3 k5 : Option Value} {B newId initId : String}
abbrev clsO (C N : Addr) (nm q : Str) (bs bm sub : List Value) (hdct ab : Bool) (sn : List Str) (col : Option Bool) (dd : Option Addr) (k0 k1 k2 k3 k5 : Option Value) (newId : String) : Obj :=
  excClassObj nm q C N bs bm hdct sn sub ab col dd k0 k1 k2 k3 k5 newId

theorem newChk {M : Model} (F : ExcBaseFacts B newId initId bmB) (hT : ∀ Y : String, bm.contains (.type Y) = bmB.contains (.type Y)) {us : List Value} {kw : List (Str × Value)} {Q : Unit → Shared → Prop}
    (hC : h.get? C = some (clsO C N nm q bs bm sub hdct ab sn col dd k0 k1 k2 k3 k5 newId)) (hq : Q () ⟨h, g, d, t, os⟩) : wpAny M A (checkBuiltinCall newId ⟨.ref C :: us, kw⟩) Q E ⟨h, g, d, t, os⟩ := by
  have inB : (Value.ref C :: bm).contains (.type B) = true := by rw [List.contains_cons, hT, F.hasB, Bool.or_true]
  have star := F.noStar
  simp only [checkBuiltinCall, F.newKind, F.newSplit, F.newRow]
  repeat (first
    | refine wpAny_loadPart_at hC ?_
    | (refine wpAny_isSubtype_exc hC ?_; rw [inB])
    | refine wpAny_staticBase_exc hC ?_
    | refine wpAny_madeBy_exc hC ?_
    | simp only [bne_self_eq_false, Bool.false_eq_true, if_false]
    | wp_step)
  exact hq

theorem newMade (F : ExcBaseFacts B newId initId bmB) (hT : ∀ Y : String, bm.contains (.type Y) = bmB.contains (.type Y)) {us : List Value} {kw : List (Str × Value)}
    (hC : h.get? C = some (clsO C N nm q bs bm sub hdct ab sn col dd k0 k1 k2 k3 k5 newId)) (hus : us.length ≤ sizeLine)
    (hq : R (.ok (.ret (.ref (h.objs.size + 1)))) ⟨(h.push (kdv_tup us)).push (excO C h.objs.size), g, d, t, os⟩) : codeAny (model prog w) A (.builtin newId ⟨.ref C :: us, kw⟩) R ⟨h, g, d, t, os⟩ := by
  have ends := F.ends
  have inB : (Value.ref C :: bm).contains (.type B) = true := by rw [List.contains_cons, hT, F.hasB, Bool.or_true]
  have inA : (Value.ref C :: bm).contains (.type "AttributeError") = false := by rw [List.contains_cons, hT, F.noAttr]; rfl
  have inN : (Value.ref C :: bm).contains (.type "NameError") = false := by rw [List.contains_cons, hT, F.noName]; rfl
  refine codeAny_builtinAt F.entry ?_
  unfold Builtin.«BaseException.__new__»
  refine wpAt_bind ?_; show wpAt _ _ _ (stack >>= _) _ _ _
  refine wpAt_bind (wpAt_stack fun p below => wpAt_of_wpAny ?_); wp_walk
  refine wpAt_of_wpAny ?_; rw [F.owner]
  repeat (first
    | with_reducible refine wpAny_madeHere_exc F.canon hC ?_
    | with_reducible refine wpAny_loadPart_at hC ?_
    | (with_reducible refine wpAny_isSubtype_exc hC ?_; first | rw [inB] | rw [inA] | rw [inN])
    | wp_step)
  show R _ _; rw [Heap.size_push]; exact hq

theorem callMade (F : ExcBaseFacts B newId initId bmB) (hT : ∀ Y : String, bm.contains (.type Y) = bmB.contains (.type Y)) {us : List Value} {kw : List (Str × Value)} {fI : Addr} {Q : Fin → Shared → Prop}
    (hC : h.get? C = some (clsO C N nm q bs bm sub hdct ab sn col dd k0 k1 k2 k3 k5 newId))
    (li : W.Looks (model prog w) h (typeLookup (.ref C) "__init__") (some (.ref fI))) (lb : ∀ self, W.Looks (model prog w) h (bindSpecial (.ref fI) self) (.ref fI, [self])) (hus : us.length ≤ sizeLine)
    (hq : codeAny (model prog w) A (.call (.ref fI) ⟨.ref (h.objs.size + 1) :: us, kw⟩)
      (fun r s' => match r with | .ok (.ret v) => v = .none ∧ Q (.done (.ret (.ref (h.objs.size + 1)))) s' | .ok _ => False | .error e => E e s') ⟨(h.push (kdv_tup us)).push (excO C h.objs.size), g, d, t, os⟩) :
    wpAny (model prog w) A (Builtin.«type.__call__» ⟨.ref C :: us, kw⟩) Q E ⟨h, g, d, t, os⟩ := by
  repeat (first
    | with_reducible refine wpAny_loadPart_at hC ?_
    | with_reducible refine wpAny_madeBy_exc hC ?_
    | wp_step)
  refine codeAny_call_builtin_code (Code.quiet_builtin _ F.quiet) (newChk F hT hC ?_)
  refine newMade F hT hC hus ?_; show wpAny _ _ _ _ _ _
  have kp : ∀ b o, h.get? b = some o → ((h.push (kdv_tup us)).push (excO C h.objs.size)).get? b = some o := fun b o e => Heap.get?_push_of_some _ (Heap.get?_push_of_some _ e)
  have hC2 := kp _ _ hC
  have at1 : ((h.push (kdv_tup us)).push (excO C h.objs.size)).get? (h.objs.size + 1) = some (excO C h.objs.size) := by heap_get
  have self1 : (Value.ref C :: bm).contains (.ref C) = true := by simp
  have li2 := li.keeps kp
  have lb2 := (lb (.ref (h.objs.size + 1))).keeps kp
  unfold isInstance
  repeat (first
    | with_reducible refine wpAny_loadPart_at at1 ?_
    | (with_reducible refine wpAny_isSubtype_exc hC2 ?_; rw [self1])
    | wp_step)
  show wpAny _ _ (typeLookup (.ref C) _) _ _ _; refine li2.at ?_
  refine wpAny_holding (wpAny_bind (lb2.at ?_))
  refine wpAny_bind (wpAny_call (codeAny_mono hq fun r s' z => ?_))
  rcases r with e | (v | _ | _ | _) <;> first | exact z | exact z.elim | skip
  obtain ⟨rfl, z⟩ := z
  first
    | exact wpAny_pure (wpAny_pure z)
    | (wp_walk; exact z)

theorem callOwn (F : ExcBaseFacts B newId initId bmB) (hT : ∀ Y : String, bm.contains (.type Y) = bmB.contains (.type Y)) {us : List Value} {kw : List (Str × Value)} {fI : Addr}
    (hC : h.get? C = some (clsO C N nm q bs bm sub hdct ab sn col dd k0 k1 k2 k3 k5 newId))
    (li : W.Looks (model prog w) h (typeLookup (.ref C) "__init__") (some (.ref fI))) (lb : ∀ self, W.Looks (model prog w) h (bindSpecial (.ref fI) self) (.ref fI, [self])) (hus : us.length ≤ sizeLine)
    (hq : codeAny (model prog w) (A.under (.builtin "type.__call__" ⟨.ref C :: us, kw⟩)) (.call (.ref fI) ⟨.ref (h.objs.size + 1) :: us, kw⟩) (InitBack (h.objs.size + 1) R) ⟨(h.push (kdv_tup us)).push (excO C h.objs.size), g, d, t, os⟩) :
    codeAny (model prog w) A (.call (.ref C) ⟨us, kw⟩) R ⟨h, g, d, t, os⟩ := by
  have f1 := tc_lookup
  have f2 := tc_bind (.ref C)
  have ty : (⟨h, g, d, t, os⟩ : Shared).TypeIs (.ref C) "type" := ⟨_, hC, rfl⟩
  refine codeAny_of_tree ?_; show wpAny _ _ (callAny (.ref C) _) _ _ _
  repeat (any_goals (first
    | assumption
    | with_reducible refine wpAny_loadPart_at hC ?_
    | wp_step))
  refine ⟨rfl, ?_⟩
  refine codeAny_call_builtin_at (Code.quiet_builtin _ (by decide +kernel)) entry_typeCall (wpAny_check_type_call_sub hC (callMade F hT hC li lb hus ?_))
  refine codeAny_mono hq fun r s' z => ?_
  rcases r with e | (v | _ | _ | _) <;> exact z
end
end MkX
end PySem
namespace L2
namespace X1
open PySem PySem.Spec PyProof.Rows
/-- an exception that stands: its class, its one field -/
def ExcAt (H : Hp) (a C : Addr) (v : V) : Prop := ∃ d, H a = some (exo a C (some d)) ∧ H d = some (exd d [(("value" : Str), v)])
theorem ExcAt.same {H H' : Hp} {a C : Addr} {v : V} (h : ExcAt H a C v) (s : Same H H') : ExcAt H' a C v := by
  obtain ⟨d, h1, h2⟩ := h; exact ⟨d, s _ _ h1, s _ _ h2⟩
/-- what is asked of such a class for its field, for isinstance -/
structure XF (K : PySem.W.Frag) (C : Addr) : Prop where
  ox : OexC K C
  nV : PySem.W.findIn K (.ref C) "value" = some none
  ga : PySem.W.findIn K (.ref C) "__getattribute__" = some (some (.builtin "BaseException.__getattribute__"))
  gg : PySem.W.findIn K (.ref C) "__getattr__" = some none
  hd : PySem.W.hasDictIn K C = true
  ca : PySem.W.findIn K (.ref C) "__class__" = some (some (.builtin "object.__class__"))
  gs : PySem.W.specialIn K (.builtin "object.__class__") "__get__" = some (some (.builtin "getset_descriptor.__get__"))
  ss : PySem.W.takesIn K (.builtin "object.__class__") = some true
  mo : PySem.W.mroIn K C (.type "object") = some true
theorem XF.some {K : PySem.W.Frag} {C : Addr} (T : XF K C) : (PySem.W.clsIn K C).isSome = true := by
  obtain ⟨cd, hc, _⟩ := PySem.W.any_some T.hd
  rw [hc]; rfl
section
variable {X : Cx} {pins : List (Addr × Obj)} {σ : St} {H : Hp} {s : Shared}
/-- C(..) as a value: the exception stays as it is told -/
theorem mkx_run {CX : CXT} {k : Nat} {C fI : Addr} {fd : FuncData} {ps : List Str} {sp : Sp} {us bs : List Value} {kw : List (Str × Value)} {vs : List V} {Q : VK} (T : OexC X.K C) (iC : PySem.W.findIn X.K (.ref C) "__init__" = some (some (.ref fI)))
    (tI : PySem.W.typeIn X.K (.ref fI) = some (.type "function")) (F1 : FnOk X.prog X.w X.K X.mg X.base CX k fI fd ps sp) (hr : Room (k + 1) X.A) (hx : Passes CX X (fun _ _ _ => False)) (I : Inv X pins σ H s) (hus : us.length ≤ sizeLine) (rb : Vals vs bs)
    (hb : ∀ (s' : Shared) (e : Addr), X.K.In s'.heap → BindsTo s' fd ⟨.ref e :: us, kw⟩ (ps.zip (.ref e :: bs)))
    (q : ∀ a, H a = none → sp (.ref a :: vs) (upd H a (exo a C none)) (fun v H2 => v = .non ∧ Q (.ref a) H2) (fun _ _ _ => False)) :
    wpAny (model X.prog X.w) X.A (call (.ref C) us kw) (EP X pins σ Q) X.xe s := by
  obtain ⟨nm, qn, N, bss, bm, sn, sub, ab, col, dd, k0, k1, k2, k3, k5, hC, hbm⟩ := T.cls
  obtain ⟨hp, g, dr, tk, os⟩ := s
  have hsz : hp.objs.size ≤ hp.objs.size + 1 := Nat.le_succ _
  have hn : H (hp.objs.size + 1) = none := I.hok.fresh hsz
  have hq := q (hp.objs.size + 1) hn
  have kk : ∀ b o, hp.get? b = some o → ((hp.push (PySem.W.kdv_tup us)).push (PySem.HandSPX.excO C hp.objs.size)).get? b = some o := fun b o e => Heap.get?_push_of_some _ (Heap.get?_push_of_some _ e)
  have at1 : ((hp.push (PySem.W.kdv_tup us)).push (PySem.HandSPX.excO C hp.objs.size)).get? (hp.objs.size + 1) = some (PySem.HandSPX.excO C hp.objs.size) := by heap_get
  have I2 : Inv X pins σ (upd H (hp.objs.size + 1) (exo (hp.objs.size + 1) C none)) ⟨(hp.push (PySem.W.kdv_tup us)).push (PySem.HandSPX.excO C hp.objs.size), g, dr, tk, os⟩ :=
    I.laid (t' := tk) (a := hp.objs.size + 1) kk hsz (exo_ok at1)
  refine wpAny_call (PySem.MkX.callOwn F.excBase_ValueError (fun Y => PySem.HandSPX.refsVE_contains Y bm hbm) (I.kIn _ _ hC) (PySem.W.looks_findIn I.kIn iC) (fun self => PySem.W.bind_fn I.kIn self tI) hus
    (codeAny_mono (F1.run _ X.stack _ _ ⟨Value.ref (hp.objs.size + 1) :: us, kw⟩ (Value.ref (hp.objs.size + 1) :: bs) (V.ref (hp.objs.size + 1) :: vs) _ (fun _ _ _ => False) (hr.make C us kw) (I2.env0.make C us kw) (hb _ _ I2.kIn) (.cons rfl rb) hq) fun r s' hq' => ?_))
  cases r with
  | error er => exact hx pins σ _ _ er s' I2 hq'
  | ok fl =>
    cases fl with
    | ret u =>
      obtain ⟨v, H', J, rv, ev, q2⟩ := I2.after hq'
      subst ev
      exact ⟨rv, V.ref (hp.objs.size + 1), H', J, rfl, q2⟩
    | next => exact False.elim hq'
    | brk => exact False.elim hq'
    | cont => exact False.elim hq'
/-- an exception's object, its own dict -/
theorem exc_look {a C : Addr} {v : V} (I : Inv X pins σ H s) (h : ExcAt H a C v) : ∃ (ox od : Obj) (u : Value), PySem.W.InstAt s.heap a ox C (some od) ∧ PySem.W.lookIn "value" od = some (some u) ∧ RelV v u := by
  obtain ⟨d, h1, h2⟩ := h
  obtain ⟨t1, ho⟩ := exo_at I.hok h1
  obtain ⟨mA, hns, rel⟩ := exd_at I.hok h2
  obtain ⟨od, hod, hl⟩ := lookIn_ns hns
  have r := rel "value"
  rw [show List.lookup ("value" : Str) [(("value" : Str), v)] = some v by simp [List.lookup]] at r
  obtain ⟨u, hu, ru⟩ := RelO.some_of r
  exact ⟨_, od, u, ⟨ho, rfl, rfl, hod⟩, by rw [hl, hu], ru⟩
/-- e.value -/
def tVal (K : PySem.W.Frag) (te : TE) : TE := fun σ H Q => te σ H fun x H1 => ∃ (a C : Addr) (v : V), x = .ref a ∧ XF K C ∧ ExcAt H1 a C v ∧ Q v H1
theorem pe_val {e : Expr} {te : TE} {pos : Pos} (he : PE X e te) (hb : attributeBase e "value" X.env (eval e X.env) = eval e X.env := by rfl) : PE X (.Attribute e "value" pos) (tVal X.K te) := by
  refine ⟨fun pins s σ H Q I h => ?_⟩
  refine attr_of hb (thn (he.run pins s σ H _ I h) fun u s1 hh => ?_)
  obtain ⟨x, H1, I1, rx, a, C, v, ex, T, ea, q⟩ := hh
  subst ex
  obtain rfl : u = Value.ref a := rx
  obtain ⟨ox, od, w, J, l, r⟩ := exc_look I1 ea
  exact HandSPX.exc_get I1.kIn J T.ga T.gg T.ox.exC (PySem.W.findObj_own T.hd T.nV rfl l) (handed_of r) ⟨v, H1, I1.tok _, r, q⟩
/-- isinstance(e, c) -/
def rIsX (K : PySem.W.Frag) : List V → Hp → VK → Prop := fun xs H Q => ∃ (a C : Addr) (v c : V) (cv : Value) (b : Bool), xs = [.ref a, c] ∧ ExcAt H a C v ∧ XF K C ∧ ClsV c cv ∧ PySem.W.kitOne K (.ref C) cv = some b ∧ Q (.bl b) H
theorem call_isX : CallR X (.builtin "isinstance") (rIsX X.K) := by
  intro pins s σ H xs us Q I r h
  obtain ⟨a, C, v, c, cv, b, rfl, ea, T, kc, e, q⟩ := h
  cases r with
  | cons rx rr =>
    cases rr with
    | cons rt rr =>
      cases rr
      cases rx
      have ec := kc.eq rt
      subst ec
      obtain ⟨ox, od, w, J, _, _⟩ := exc_look I ea
      exact PySem.W.kia_one (PySem.W.kitx_exc T.some T.ga T.gg T.ox.exC T.ca T.gs T.ss T.mo) I.kIn J e (fun z => nomatch z) fun tk => ⟨.bl b, H, I.kept (t' := tk) fun _ _ z => z, rfl, q⟩
end
end X1
end L2
/-! an exception with its own dict is raised -/
namespace L2
namespace X1
open PySem PySem.Spec PyProof.Rows
section
variable {X : Cx}
theorem pmk_retX {e : Expr} {te : TE} (hx : X.ex = []) (he : PE X e te) :
    PMk X e (fun σ H Q => te σ H fun x H1 => ∃ a C d, x = .ref a ∧ H1 a = some (exo a C d) ∧ Fr0 X.H_0 a ∧ Raises X (.ref C) ∧ Q (.ref C) d (delH H1 a)) := by
  intro pins s σ H Q I h
  refine wpAny_mono (he.run pins s σ H _ I h) (fun u s1 hu => ?_) fun _ _ x => x
  obtain ⟨v, H1, I1, r1, a, C, d, rfl, ha, h0, hr, q⟩ := hu
  cases r1
  obtain ⟨t1, ho⟩ := exo_at I1.hok ha
  obtain ⟨G, gs, ga, J⟩ := I1.untrack ha h0 hx
  exact ⟨a, _, _, { s1 with heap := G }, delH H1 a, .ref C, d, rfl, J, gs, ga, ho, ⟨rfl, rfl⟩, rfl, rfl, delH_same, rfl, I1.bare, hr, q⟩
end
end X1
end L2
/-! X(e) of an own exception with __init__(self, value=None), raised -/
namespace L2
namespace X1
open PySem PySem.Spec PyProof.Rows
/-- __init__(self, value): what stands on the new exception -/
def spInit (C : Addr) : Sp := fun vs H Q _ => ∃ (a : Addr) (v : V), vs = [.ref a, v] ∧ H a = some (exo a C none) ∧ ∀ d, H d = none → d ≠ a → Q .non (upd (upd H d (exd d [(("value" : Str), v)])) a (exo a C (some d)))
/-- a class of the program with that __init__ -/
structure Ini (P : Program) (w : World) (K : PySem.W.Frag) (mg : Str → Option Value) (base : Heap) (x : Str) (C : Addr) : Prop where
  gC : mg x = some (.ref C)
  xf : XF K C
  made : ∃ (fI : Addr) (fd : FuncData), PySem.W.findIn K (.ref C) "__init__" = some (some (.ref fI)) ∧ PySem.W.typeIn K (.ref fI) = some (.type "function") ∧ FnOk P w K mg base CX0 1 fI fd ["self", "value"] (spInit C) ∧ Binds K fd ["self", "value"] []
section
variable {X : Cx} {pins : List (Addr × Obj)} {σ : St} {H : Hp} {s : Shared}
/-- C(e), the new exception and its dict told -/
def tMkN (C : Addr) (te : TE) : TE := fun σ H Q => te σ H fun v H1 => ∀ a d H', Same H1 H' → H1 a = none → H1 d = none → d ≠ a → H' a = some (exo a C (some d)) → H' d = some (exd d [(("value" : Str), v)]) → Q (.ref a) H'
theorem pe_mkN {x : Str} {C : Addr} {e : Expr} {te : TE} {p pos : Pos} (I : Ini X.prog X.w X.K X.mg X.base x C) (hr : Room 2 X.A) (he : PE X e te) (hg : Gl X x := by rfl) (hdb : (x == ("__debug__" : Str)) = false := by decide)
    (h1 : starEach [e] X.env = (false, eval e X.env) :: starEach [] X.env := by rfl) (h2 : (backTo pos (starEach [] X.env)).any (·.1) = false := by rfl) : PE X (.Call (.Name x p) [e] [] pos) (tMkN C te) := by
  obtain ⟨fI, fd, iC, tI, F1, b1⟩ := I.made
  refine ⟨fun pins s σ H Q J h => wpAny_Call_Name_kw (ld_glob J hg I.gC ?_ hdb)⟩
  refine PySem.W.callWith_K (h₀ := X.base) J.ok.mod.kin I.xf.ox.kC ?_ h1 h2
  rw [h1]; show wpAny _ _ (spliced ((false, eval e X.env) :: backTo pos (starEach [] X.env))) _ _ s
  refine Calls.spliced_cons (thn (he.run pins s σ H _ J h) fun u s1 ⟨v, H1, J1, r, hh⟩ => Calls.spliced_nil ⟨J1.kIn, ?_⟩)
  refine mkx_run (kw := []) (us := [u]) (bs := [u]) (vs := [v]) I.xf.ox iC tI F1 hr pass0 J1 (by show 1 ≤ sizeLine; rw [sizeLine_eq]; omega) (.cons r .nil) (fun s' e' K' => b1 s' [.ref e', u] K' rfl) fun a n1 => ?_
  refine ⟨a, v, rfl, upd_same, fun d nd da => ⟨rfl, ?_⟩⟩
  have nd1 : H1 d = none := by rw [upd_ne da] at nd; exact nd
  refine hh a d _ (fun b o e => ?_) n1 nd1 da upd_same (by rw [upd_ne da]; exact upd_same)
  rw [upd_ne (ne_of_none e n1), upd_ne (ne_of_none e nd1), upd_ne (ne_of_none e n1)]; exact e
end
end X1
end L2
/-! state_had of a talk that the desk has not -/
namespace L2
namespace D1
open PySem PySem.Spec PyProof.Rows X1
/-- InvalidTalk leaves, its dict at d holds the list at L -/
def spHadX (C CI : Addr) : Sp := fun vs H _ E => ∃ (q L : Addr) (bk : Bk) (st : Str) (way : List Str), vs = [.ref q, .ref L] ∧ DeskAt C H q bk st ∧ DOk bk st ∧ SL H L way ∧ way.length ≤ 1000 ∧ (∀ x ∈ way, Wd x) ∧ walkB bk st way = none ∧
  ∀ d H', Same H H' → H d = none → H' d = some (exd d [(("value" : Str), .ref L)]) → E (.ref CI) (some d) H'
section
variable {P : Program} {w : World} {K : PySem.W.Frag} {mg : Str → Option Value} {base : Heap} {C CI : Addr}
theorem ok_hadX {f : Addr} {fd : FuncData} (F : Fun K "state_had" "state_had" sHad f fd) (CS : CSB P w K mg base C) (I : Ini P w K mg base "InvalidTalk" CI) (bC : PySem.W.subIn K (.ref CI) (.type "BaseException") = some true) (tC : PySem.W.typeIn K (.ref CI) = some (.type "type")) : FnOk P w K mg base (CX P w) 6 f fd ["desk", "talk"] (spHadX C CI) := by
  refine F.okX scHd (fun vs H Q E h => ?_) (fun cdv A outer s H vs Q E hr h => ?_)
  · obtain ⟨q, L, bk, st, way, rfl, _⟩ := h; rfl
  · obtain ⟨q, L, bk, st, way, rfl, hq, ok, hL, ll, aw, ew, k⟩ := h
    refine ⟨_, pss_cons (ps_set (i := 2) scHd.nd rfl (Or.inl rfl) (pe_cal CS (hr.mono (by decide)) rfl (pa_cons (pv 0) (pa_cons (pv 1) pa_nil))))
      (pss_cons (ps_if (pt_cmp (pc_isN (pv 2)) rfl) (pss_one (ps_raise rfl (takes_of rfl rfl rfl rfl) (pmk_retX rfl (pe_mkN I (hr.mono (by decide)) (pv 1))))) pss_nil)
      pss_never), ?_⟩
    refine ⟨_, rfl, _, rfl, q, L, bk, st, way, rfl, hq, ok, hL, ll, aw, fun H1 s1 => ?_⟩
    rw [ew]
    refine ⟨_, rfl, _, rfl, ?_⟩
    refine (if_pos (by decide)).mpr ?_
    refine ⟨_, rfl, fun a d H' s' na nd da ha hd => ⟨a, CI, some d, rfl, ha, fr0_none (s1.free na), raises_own bC tC, ?_⟩⟩
    refine k d _ (fun c u e => ?_) (s1.free nd) ?_
    · rw [delH_ne fun z => by rw [z, s1.free na] at e; cases e]; exact s' _ _ (s1 _ _ e)
    · rw [delH_ne da]; exact hd
end
end D1
end L2
/-! turns_behind and spoken of a talk that the desk has not -/
namespace L2
namespace D1
open PySem PySem.Spec PyProof.Rows X1
section
variable {P : Program} {w : World} {K : PySem.W.Frag} {mg : Str → Option Value} {base : Heap} {C CI : Addr}
/-- a def under its name that raises so -/
structure CalX (P : Program) (w : World) (K : PySem.W.Frag) (mg : Str → Option Value) (base : Heap) (x : Str) (k : Nat) (ps : List Str) (sp : Sp) : Prop where
  ex : ∃ f fd, mg x = some (.ref f) ∧ PySem.W.keepIn K (.ref f) = true ∧ FnOk P w K mg base (CX P w) k f fd ps sp ∧ Binds K fd ps []
theorem ok_tbX {f : Addr} {fd : FuncData} (F : Fun K "turns_behind" "turns_behind" sTB f fd) (CH : CalX P w K mg base "state_had" 6 ["desk", "talk"] (spHadX C CI)) : FnOk P w K mg base (CX P w) 7 f fd ["desk", "talk"] (spHadX C CI) := by
  obtain ⟨fH, fdH, gH, kH, FH, bH⟩ := CH.ex
  refine F.okX scTb (fun vs H Q E h => ?_) (fun cdv A outer s H vs Q E hr h => ?_)
  · obtain ⟨q, L, bk, st, way, rfl, _⟩ := h; rfl
  · obtain ⟨q, L, bk, st, way, rfl, z⟩ := h
    refine ⟨_, pss_cons (ps_set (i := 2) scTb.nd rfl (Or.inl rfl) (pe_call FH (hr.mono (by decide)) rfl gH kH bH .nil (passes_call (takes_of rfl rfl rfl rfl) fun _ _ _ _ h => h) (pa_cons (pv 0) (pa_cons (pv 1) pa_nil)))) pss_never, ?_⟩
    exact ⟨_, rfl, _, rfl, q, L, bk, st, way, rfl, z⟩
theorem ok_spokenX {f : Addr} {fd : FuncData} (F : Fun K "spoken" "spoken" sSpoken f fd) (CH : CalX P w K mg base "state_had" 6 ["desk", "talk"] (spHadX C CI)) : FnOk P w K mg base (CX P w) 7 f fd ["desk", "talk"] (spHadX C CI) := by
  obtain ⟨fH, fdH, gH, kH, FH, bH⟩ := CH.ex
  refine F.okX scSp (fun vs H Q E h => ?_) (fun cdv A outer s H vs Q E hr h => ?_)
  · obtain ⟨q, L, bk, st, way, rfl, _⟩ := h; rfl
  · obtain ⟨q, L, bk, st, way, rfl, z⟩ := h
    refine ⟨_, pss_cons (ps_expr (pe_call FH (hr.mono (by decide)) rfl gH kH bH .nil (passes_call (takes_of rfl rfl rfl rfl) fun _ _ _ _ h => h) (pa_cons (pv 0) (pa_cons (pv 1) pa_nil)))) pss_never, ?_⟩
    exact ⟨_, rfl, _, rfl, q, L, bk, st, way, rfl, z⟩
end
end D1
end L2
/-! a try whose exception stays in a variable behind it; its field is read there -/
namespace L2
namespace X1
open PySem PySem.Spec PyProof.Rows
/-- one object more is known to stand -/
abbrev withPin (X : Cx) (q : Addr × Obj) : Cx := { X with pn := q :: X.pn }
section
variable {X : Cx} {pins : List (Addr × Obj)} {σ : St} {H : Hp} {s : Shared}
theorem ok_pin (ok : X.Ok) (q : Addr × Obj) : (withPin X q).Ok := { ok with }
theorem inv_behind {a : Addr} {oe : Obj} {pn' : List (Addr × Obj)} (J : Inv (X.suite a ((a, oe) :: (X.pn ++ pins))) pn' σ H s) (ok : X.Ok) : Inv (withPin X (a, oe)) pins σ H s :=
  { ok := ok_pin ok _, os := J.os, bare := J.bare, base := J.base, loc := J.loc, cell := J.cell, free := J.free, freeC := J.freeC, pin := fun p hp => J.pin p (List.mem_append.mpr (.inl hp)), hok := J.hok, len := J.len }
theorem inv_forget {q : Addr × Obj} (J : Inv (withPin X q) pins σ H s) (ok : X.Ok) : Inv X pins σ H s :=
  { ok := ok, os := J.os, bare := J.bare, base := J.base, loc := J.loc, cell := J.cell, free := J.free, freeC := J.freeC, pin := fun p hp => J.pin p (List.Mem.tail _ hp), hok := J.hok, len := J.len }
theorem sp_forget {q : Addr × Obj} {D : Ends} {f : Flow} (ok : X.Ok) (h : SP (withPin X q) pins D f s) : SP X pins D f s := by
  cases f with
  | ret u => obtain ⟨v, σ1, H1, J, r, z⟩ := h; exact ⟨v, σ1, H1, inv_forget J ok, r, z⟩
  | next => obtain ⟨σ1, H1, J, z⟩ := h; exact ⟨σ1, H1, inv_forget J ok, z⟩
  | brk => obtain ⟨σ1, H1, J, z⟩ := h; exact ⟨σ1, H1, inv_forget J ok, z⟩
  | cont => obtain ⟨σ1, H1, J, z⟩ := h; exact ⟨σ1, H1, inv_forget J ok, z⟩
theorem sp_ofTry {xe : Value → Shared → Prop} {D : Ends} {f : Flow} (ok : X.Ok) (h : SP (X.tr (X.pn ++ pins) xe) [] D f s) : SP X pins D f s := by
  cases f with
  | ret u => obtain ⟨v, σ1, H1, J, r, z⟩ := h; exact ⟨v, σ1, H1, J.ofTry ok, r, z⟩
  | next => obtain ⟨σ1, H1, J, z⟩ := h; exact ⟨σ1, H1, J.ofTry ok, z⟩
  | brk => obtain ⟨σ1, H1, J, z⟩ := h; exact ⟨σ1, H1, J.ofTry ok, z⟩
  | cont => obtain ⟨σ1, H1, J, z⟩ := h; exact ⟨σ1, H1, J.ofTry ok, z⟩

variable {x n : Str} {c : Value} {i : Nat} {body suite rest : List Stmt} {b₀ : Stmt} {np pos pos' : Pos}
/-- what stands behind a try whose one clause fits every exception of its body -/
theorem try_look {R : Flow → Shared → Prop} {W : WX} {tb : TS} {D : Ends} (I : Inv X pins σ H s) (hs : X.stack = X.env :: X.outer) (hf : X.env.frame = some X.env.locals) (hN : X.N.Nodup) (hi : X.N[i]? = some n) (hln : X.env.kindOf n = some .local) (hc : Names X x c)
    (fits : ∀ cls d σ H, W cls d σ H → PySem.W.exmOne X.K cls c = some true)
    (held : ∀ (a : Addr) (oe : Obj) (cls : Value) (d : Option Addr) (σ : St) (H : Hp) (s : Shared), Zc cls d oe → (∃ vs, oe.data = .fields vs) → H a = none → W cls d σ H → Inv (X.suite a ((a, oe) :: (X.pn ++ pins))) [] (σ.set i (some (.ref a))) H s →
      wpAny (model X.prog X.w) (X.A.mark (some (.ref a))) (execs (b₀ :: suite) X.env) (fun f s6 => wpAny (model X.prog X.w) X.A (do bindName X.env n .none; unbindBehindTheSuite X.env n pos') (fun _ s7 => R f s7) X.xe s6) (fun _ _ => False) s)
    (hb : ∀ xe, Takes (X.tr (X.pn ++ pins) xe) W → PassesOwn (model X.prog X.w) X.A X.env xe → PSs (X.tr (X.pn ++ pins) xe) body tb) (h : tb D σ H) (ends : ∀ f s1, SP X pins D f s1 → R f s1) :
    wpAny (model X.prog X.w) X.A (exec (.Try body [.ExceptHandler (some (.Name x np)) (some n) (b₀ :: suite) pos'] [] [] pos) X.env) R X.xe s := by
  have frames : X.A.frames = some (X.env :: X.outer) := by rw [I.ok.frames, hs]
  refine wpAny_Try_except ?_
  refine wpAny_mono ((hb _ (fun u s' air => ?_) PassesOwn.looking).run [] s σ H D (I.toTry _) h) (fun f s1 q => ?_) fun e s1 z => z
  · obtain ⟨a, B, sI, pn1, σ1, H1, cls, d, rfl, J0, nb, up, sky, na, os, ag, w⟩ := air
    have J := J0.ofTry I.ok
    have sky1 : Sky B (X.env :: X.outer) a (Zc cls d) X.env.locals s'.heap := by rw [← hs]; exact sky
    show wpAny (model X.prog X.w) X.A (noteFrame (.ref a) X.env) _ _ _
    refine Sky.land Zc.steady frames hf sky1 fun g1 fl1 up1 => ?_
    obtain ⟨o1, v1, e1, z1, d1⟩ := fl1.there
    have offFrames : a ∉ frs (X.env :: X.outer) := fun hm => by
      obtain ⟨_, o', e', hnf⟩ := fl1.2.2.1.mem hm
      rw [e1] at e'; cases e'
      exact hnf _ d1
    have nL : a ≠ X.env.locals := fun z => offFrames (List.mem_filterMap.mpr ⟨X.env, .head _, by rw [hf, z]⟩)
    have nF : a ∉ X.fs := fun hm => by
      obtain ⟨e, he, z⟩ := List.mem_filterMap.mp hm
      exact offFrames (List.mem_filterMap.mpr ⟨e, .tail _ he, z⟩)
    have S1 := (J.landed (s' := { s' with heap := g1 }) nb fl1.1 (up.trans up1) os ag).suite e1 d1 na nL nF
    refine wpAny_handleBy_cons (codeAny_handlers_test ?_) (by intro z; cases z)
    have kind : PySem.W.Looks (model X.prog X.w) g1 (typeOf (.ref a)) cls := fun A Q E s k z => wpAny_typeOf_ref (k _ _ e1) (by rw [z1.1]; exact z)
    have look := PySem.W.exm_one (M := model X.prog X.w) (J.landed (s' := { s' with heap := g1 }) nb fl1.1 (up.trans up1) os ag).kIn kind (fits _ _ _ _ w)
    have named : ∀ {Q E : Value → Shared → Prop}, Q c { s' with heap := g1 } → wpAny (model X.prog X.w) (X.A.mark (some (.ref a))) (eval (.Name x np) X.env) Q E { s' with heap := g1 } := fun {Q E} z => by
      obtain ⟨hg, hdbg, hm | ⟨hm, hv, hnn⟩⟩ := hc
      · exact ld_glob S1 hg hm z hdbg
      · exact ld_blt S1 hg hm hv z hnn hdbg
    refine named (look.here ?_)
    refine codeAny_handlers_suite_as (HandSPX.lands_againZ fl1 fun g2 fl2 up2 => ?_)
    obtain ⟨o2, v2, e2, z2, d2⟩ := fl2.there
    have S2 := (J.landed (s' := { s' with heap := g2 }) nb fl2.1 ((up.trans up1).trans up2) os ag).suite e2 d2 na nL nF
    refine store_ok (X := X.suite a ((a, o2) :: (X.pn ++ pins))) (v := .ref a) S2 hN hi (.inl hln) rfl (fun s5 S5 => ?_) (.inr hln)
    exact wpAny_mono (held a o2 cls d σ1 H1 s5 z2 ⟨_, d2⟩ na w S5) (fun f s6 z => z) fun _ _ z => z.elim
  · have q1 : SP X pins D f s1 := sp_ofTry I.ok q
    cases f with
    | next => exact wpAny_execs_nil (ends _ _ q1)
    | ret u => exact ends _ _ q1
    | brk => exact ends _ _ q1
    | cont => exact ends _ _ q1

/-- what the clause wishes: the suite, and behind it the rest that knows of the exception -/
def wKept (K : PySem.W.Frag) (c : Value) (i : Nat) (ts tr : Addr → Value → Option Addr → TS) (D : Ends) : WX := fun cls d σ H => PySem.W.exmOne K cls c = some true ∧ ∀ a, H a = none →
  ts a cls d { nx := fun σ1 H1 => tr a cls d D (σ1.set i none) H1, rt := D.rt, bk := fun σ1 H1 => D.bk (σ1.set i none) H1, ct := fun σ1 H1 => D.ct (σ1.set i none) H1 } (σ.set i (some (.ref a))) H
theorem pss_try_kept {tb : WX → TS} {ts tr : Addr → Value → Option Addr → TS} {t0 : TS} (hs : X.stack = X.env :: X.outer) (hf : X.env.frame = some X.env.locals) (hN : X.N.Nodup) (hi : X.N[i]? = some n) (hln : X.env.kindOf n = some .local) (hc : Names X x c)
    (hb : ∀ (W : WX) (pn : List (Addr × Obj)) (xe : Value → Shared → Prop), Takes (X.tr pn xe) W → PassesOwn (model X.prog X.w) X.A X.env xe → PSs (X.tr pn xe) body (tb W))
    (hsu : ∀ (a : Addr) (oe : Obj) (cls : Value) (d : Option Addr) (pn : List (Addr × Obj)), Zc cls d oe → (∃ vs, oe.data = .fields vs) → PSs (X.suite a ((a, oe) :: pn)) (b₀ :: suite) (ts a cls d))
    (h0 : PSs X rest t0) (h1 : ∀ (a : Addr) (oe : Obj) (cls : Value) (d : Option Addr), Zc cls d oe → (∃ vs, oe.data = .fields vs) → PSs (withPin X (a, oe)) rest (tr a cls d)) :
    PSs X (.Try body [.ExceptHandler (some (.Name x np)) (some n) (b₀ :: suite) pos'] [] [] pos :: rest) (fun D σ H => tb (wKept X.K c i ts tr D) { D with nx := fun σ1 H1 => t0 D σ1 H1 } σ H) := by
  refine ⟨fun pins s σ H D I h => wpAny_execs_cons (try_look I hs hf hN hi hln hc (fun _ _ _ _ z => z.1) (fun a oe cls d σ1 H1 s1 hz hd na w S => ?_) (fun xe tk po => hb _ _ _ tk po) h fun f s1 q => ?_)⟩
  · refine wpAny_mono ((hsu a oe cls d (X.pn ++ pins) hz hd).run [] s1 _ H1 _ S (w.2 a na)) (fun f s2 q => ?_) fun _ _ z => z
    have go : ∀ {σ6 : St} {H6 : Hp} {Q : Shared → Prop}, Inv (X.suite a ((a, oe) :: (X.pn ++ pins))) [] σ6 H6 s2 → (∀ s7, Inv (withPin X (a, oe)) pins (σ6.set i none) H6 s7 → Q s7) →
        wpAny (model X.prog X.w) X.A (do bindName X.env n .none; unbindBehindTheSuite X.env n pos') (fun _ s7 => Q s7) X.xe s2 := fun S6 hq => gone_ok (X := withPin X (a, oe)) (inv_behind S6 I.ok) hN hi hln hq
    cases f with
    | next =>
      obtain ⟨σ6, H6, S6, z⟩ := q
      exact go S6 fun s7 J7 => wpAny_mono ((h1 a oe cls d hz hd).run pins s7 _ H6 D J7 z) (fun f s8 y => sp_forget I.ok y) fun _ _ y => y
    | brk =>
      obtain ⟨σ6, H6, S6, z⟩ := q
      exact go S6 fun s7 J7 => ⟨_, _, inv_forget J7 I.ok, z⟩
    | cont =>
      obtain ⟨σ6, H6, S6, z⟩ := q
      exact go S6 fun s7 J7 => ⟨_, _, inv_forget J7 I.ok, z⟩
    | ret u =>
      obtain ⟨v, σ6, H6, S6, r, z⟩ := q
      exact go S6 fun s7 J7 => ⟨v, _, _, inv_forget J7 I.ok, r, z⟩
  · cases f with
    | next =>
      obtain ⟨σ6, H6, J6, z⟩ := q
      exact h0.run pins s1 σ6 H6 D J6 z
    | brk => exact q
    | cont => exact q
    | ret u => exact q

/-- e.value, e the exception that is known -/
def tValP (K : PySem.W.Frag) (a : Addr) (cls : Value) (d : Option Addr) (te : TE) : TE := fun σ H Q => te σ H fun y H1 => ∃ (C dd : Addr) (v : V), cls = .ref C ∧ d = some dd ∧ XF K C ∧ y = .ref a ∧ H1 dd = some (exd dd [(("value" : Str), v)]) ∧ Q v H1
theorem pe_valP {a : Addr} {oe : Obj} {cls : Value} {d : Option Addr} {e : Expr} {te : TE} {pos : Pos} (hp : (a, oe) ∈ X.pn) (hz : Zc cls d oe) (hd : ∃ vs, oe.data = .fields vs) (he : PE X e te)
    (hb : attributeBase e "value" X.env (eval e X.env) = eval e X.env := by rfl) : PE X (.Attribute e "value" pos) (tValP X.K a cls d te) := by
  refine ⟨fun pins s σ H Q I h => attr_of hb (thn (he.run pins s σ H _ I h) fun u s1 hh => ?_)⟩
  obtain ⟨y, H1, J, ry, C, dd, v, rfl, rfl, T, rfl, ed, q⟩ := hh
  cases ry
  have stands : s1.heap.get? a = some oe := (J.pin (a, oe) (List.mem_append.mpr (.inl hp))).1
  obtain ⟨mA, hns, rel⟩ := exd_at J.hok ed
  obtain ⟨od, hod, hl⟩ := lookIn_ns hns
  have r := rel "value"
  rw [show List.lookup ("value" : Str) [(("value" : Str), v)] = some v by simp [List.lookup]] at r
  obtain ⟨u, hu, ru⟩ := RelO.some_of r
  obtain ⟨vs, hvs⟩ := hd
  have at_ : PySem.W.InstAt s1.heap a oe C (some od) := ⟨stands, hz.1, by unfold PySem.W.notCls; rw [hvs], by rw [hz.2]; exact hod⟩
  exact HandSPX.exc_get J.kIn at_ T.ga T.gg T.ox.exC (PySem.W.findObj_own T.hd T.nV rfl (by rw [hl, hu])) (handed_of ru) ⟨v, H1, J.tok _, ru, q⟩
end
end X1
end L2
/-! sorted(d.items()), d a dict of texts -/
namespace L2
namespace X2
open PySem PySem.Spec PyProof.Rows
/-- two texts in a tuple -/
def TwoT (h : Heap) (v : Value) (y : Str × Str) : Prop := ∃ (a : Addr) (o : Obj) (t u : Tok) (n : Nat), v = .ref a ∧ h.get? a = some o ∧ o.cls = .type "tuple" ∧ o.data = .seq #[.str y.1 t, .str y.2 u] n
theorem TwoT.uniq {h : Heap} {v : Value} {y z : Str × Str} (p : TwoT h v y) (q : TwoT h v z) : y = z := by
  obtain ⟨a, o, t, u, n, e, ho, hc, hd⟩ := p
  obtain ⟨b, o', t', u', n', e', ho', hc', hd'⟩ := q
  rw [e] at e'
  cases e'
  rw [ho] at ho'
  cases ho'
  rw [hd] at hd'
  cases y; cases z
  simp at hd'
  obtain ⟨⟨⟨e1, _⟩, e2, _⟩, _⟩ := hd'
  rw [e1, e2]
theorem TwoT.keeps {h h' : Heap} {v : Value} {y : Str × Str} (p : TwoT h v y) (k : ∀ b o, v = .ref b → h.get? b = some o → o.cls = .type "tuple" → h'.get? b = some o) : TwoT h' v y := by
  obtain ⟨a, o, t, u, n, e, ho, hc, hd⟩ := p
  exact ⟨a, o, t, u, n, e, k a o e ho hc, hc, hd⟩
instance : Nonempty (Str × Str) := ⟨⟨"", ""⟩⟩
noncomputable def twoOf (h : Heap) (v : Value) : Str × Str := Classical.epsilon fun y => TwoT h v y
theorem TwoT.two {h : Heap} {v : Value} {y : Str × Str} (p : TwoT h v y) : twoOf h v = y := TwoT.uniq (show TwoT h v (twoOf h v) from Classical.epsilon_spec (p := fun y => TwoT h v y) ⟨y, p⟩) p
/-- by the first of the two -/
def ltY (k : Value → Str × Str) (v u : Value) : Bool := ltCps (k v).1.cps.toList (k u).1.cps.toList
section
variable {prog : Program} {w : World} {A : Around} {E : Value → Shared → Prop} {s : Shared} {vs : List Value} {k : Value → Str × Str}
theorem two_cmp (hp : ∀ v ∈ vs, TwoT s.heap v (k v)) (one : ∀ v ∈ vs, ∀ u ∈ vs, (k v).1 = (k u).1 → (k v).2 = (k u).2) : SrtO.Cmp prog w A s (tuples' true) (fun p => p.1 ∈ vs) (SrtO.lt2 (ltY k)) := by
  intro p q hm hm'
  have h1 := hp _ hm
  have h2 := hp _ hm'
  have h3 := one _ hm _ hm'
  show wpAny (model prog w) A (keyLt' (tuples' true) p.1 q.1) (fun r s' => s' = s ∧ r = ltCps (k p.1).1.cps.toList (k q.1).1.cps.toList) (fun _ _ => False) s
  generalize k p.1 = x at h1 h3 ⊢
  generalize k q.1 = z at h2 h3 ⊢
  obtain ⟨a, o, t, u, n, e, ho, hc, hd⟩ := h1
  obtain ⟨b, oo, t', u', n', e', ho', hc', hd'⟩ := h2
  rw [e, e']
  refine PySem.W.kat_lt ho hd ho' hd' ?_
  show PySem.W.KatLex prog w A true (decide (2 < 2)) _ [(.str x.1 t, .str z.1 t'), (.str x.2 u, .str z.2 u')] 0 s
  refine PySem.W.kat_cons (SeqAt.EqAt.str_str x.1 t z.1 t' prog w _ _ ?_)
  refine PySem.W.kat_go (fun same => ?_) (fun apart => ?_)
  · have ex : x.1 = z.1 := by simpa using same
    have ey := h3 ex
    have irr : ltCps x.1.cps.toList z.1.cps.toList = false := by rw [ex, ltCps_eq]; exact decide_eq_false (List.lt_irrefl _)
    refine PySem.W.kat_yes (PySem.W.kat_cons (SeqAt.EqAt.str_str x.2 u z.2 u' prog w _ _ ?_))
    exact PySem.W.kat_go (fun _ => PySem.W.kat_yes (PySem.W.kat_nil ⟨rfl, irr.symm⟩)) fun no => by rw [ey] at no; simp at no
  · exact PySem.W.kat_no (oneLt_str ⟨rfl, (ltCps_eq _ _).symm⟩)
theorem first_ts {h : Heap} : ∀ {vs : List Value}, (∀ v ∈ vs, ∃ y, TwoT h v y) → ∃ fs : List Value, PySem.W.KatTups h vs fs ∧ fs.length = vs.length ∧ ∀ f ∈ fs, ∃ x t, f = Value.str x t
  | [], _ => ⟨[], .nil, rfl, nofun⟩
  | v :: vs, hp => by
    obtain ⟨fs, h1, h2, h3⟩ := first_ts (vs := vs) fun u hu => hp u (.tail _ hu)
    obtain ⟨y, a, o, t, u, n, rfl, ho, hc, hd⟩ := hp v (.head _)
    exact ⟨.str y.1 t :: fs, .cons ho hc hd rfl h1, congrArg (· + 1) h2, fun f hf => (List.mem_cons.mp hf).elim (fun z => ⟨_, _, z⟩) (h3 f)⟩
theorem two_sortable {a : Addr} (h0 : 0 < vs.length) (hp : ∀ v ∈ vs, TwoT s.heap v (k v)) (one : ∀ v ∈ vs, ∀ u ∈ vs, (k v).1 = (k u).1 → (k v).2 = (k u).2) (ha : ∀ v ∈ vs, v ≠ .ref a) : SrtO.SortableO prog w A s a vs (ltY k) := by
  intro h' keep
  have hp' : ∀ v ∈ vs, TwoT h' v (k v) := fun v hv => (hp v hv).keeps fun b o e q _ => keep b o (fun z => ha v hv (by rw [e, z])) q
  obtain ⟨fs, h1, h2, h3⟩ := first_ts fun v hv => ⟨_, hp' v hv⟩
  refine ⟨tuples' true, fun Q E hq => PySem.W.kat_kind (T := .type "str") h1 (by omega) (fun f hf => ?_) (by rfl) ?_, two_cmp (s := { s with heap := h' }) hp' one⟩
  · obtain ⟨x, t, rfl⟩ := h3 f hf
    exact PySem.W.Looks.now
  · rw [show (Value.type "str" != Value.type "tuple") = true by first | decide +kernel | rfl | decide]
    exact hq
end
/-- a dict of texts -/
def txtK (ts : List (Str × Str)) : List (L2.Key × V) := ts.map fun t => (Sum.inr t.1, V.str t.2)
section
variable {P : Program} {w : World} {H : Hp} {h : Heap} {a : Addr}
theorem raw_of {kvs : List (L2.Key × V)} (ok : HOk P w H h) (e : H a = some (.dK kvs)) : ∃ (es : Array DictEntry) (ep : Nat) (vs : List (L2.Key × Value)), kvs.length ≤ sizeLine ∧ (a == sysModules) = false ∧ DT.Raw h a es ep ∧ KV kvs vs ∧ Pairs (mixKind P w) es.toList vs := by
  obtain ⟨z, hd, vs, rel, o, es, ep, ho, hx, hdat, _, prs, _⟩ := dk_of ok e
  exact ⟨es, ep, vs, z, hd, ⟨o, ho, hx, hdat⟩, rel, prs⟩
theorem ents : ∀ {ts : List (Str × Str)} {vs : List (L2.Key × Value)} {es : List DictEntry}, KV (txtK ts) vs → Pairs (mixKind P w) es vs → Paired (fun (e : DictEntry) (y : Str × Str) => ∃ t u, e.key = .str y.1 t ∧ e.val = .str y.2 u) es ts
  | [], _, _, h1, h2 => by
    cases h1
    cases h2
    exact .nil
  | y :: ts, _, _, h1, h2 => by
    cases h1 with
    | @cons _ q _ _ r t =>
      cases h2 with
      | @cons e _ _ _ k1 k2 k3 =>
        obtain ⟨rk, rv⟩ := r
        obtain ⟨u, hu⟩ : ∃ u, q.2 = Value.str y.2 u := rv
        refine .cons ?_ (ents t k3)
        rcases keyIs_shape (show keyIs q.1 e.key = true from k1) with ⟨i, t, z, _⟩ | ⟨x, t, z, zk⟩
        · rw [← rk] at z
          cases z
        · rw [← rk] at z
          cases z
          exact ⟨t, u, zk, k2.trans hu⟩
theorem paired_get {α β : Type} {F : α → β → Prop} : ∀ {l : List α} {m : List β}, Paired F l m → ∀ (j : Nat) (x : α), l[j]? = some x → ∃ y, m[j]? = some y ∧ F x y
  | _, _, .nil, j, x, z => by simp at z
  | _, _, .cons r t, 0, x, z => by
    simp at z
    subst z
    exact ⟨_, rfl, r⟩
  | _, _, .cons r t, j + 1, x, z => paired_get t j x (by simpa using z)
end
section
variable {X : Cx}
/-- d.items() as a value -/
def rItemsK : V → List V → Hp → VK → Prop := fun x xs H Q => ∃ (a : Addr) (kvs : List (L2.Key × V)), x = .ref a ∧ xs = [] ∧ H a = some (.dK kvs) ∧ ∀ p, H p = none → Q (.ref p) (upd H p (DX.itemsO p a))
theorem mt_itemsK : MtR X "dict.items" rItemsK := by
  intro pins s σ H x xs v us Q I rx rxs h
  obtain ⟨a, kvs, rfl, rfl, ha, q⟩ := h
  cases rx
  cases rxs
  obtain ⟨es, ep, vs, z, hd, raw, _, _⟩ := raw_of I.hok ha
  exact DT.callItems hd raw ⟨.ref s.heap.objs.size, upd H s.heap.objs.size (DX.itemsO s.heap.objs.size a), I.laid (t' := s.toks) (fun b u e => Heap.get?_push_of_some _ e) (Nat.le_refl _) (DX.itemsO_ok (Heap.get?_push_size _ rfl)), rfl, q _ (I.hok.fresh (Nat.le_refl _))⟩
/-- sorted(d.items()) -/
def rSortTx : List V → Hp → VK → Prop := fun vs H Q => ∃ (p a : Addr) (ts : List (Str × Str)), vs = [.ref p] ∧ H p = some (DX.itemsO p a) ∧ H a = some (.dK (txtK ts)) ∧ (ts.map (·.1)).Nodup ∧
  ∀ (H' : Hp) (l : Addr) (ps : List (Addr × Str × Str)), (∀ b o, H b = some o → H' b = some o) → (ps.map (·.2)).Perm ts → (ps.map (·.2)).Pairwise (fun e f => ltCps f.1.cps.toList e.1.cps.toList = false) → H' l = some (.lst (ps.map fun z => V.ref z.1)) →
    (∀ z ∈ ps, H' z.1 = some (.tup [.str z.2.1, .str z.2.2])) → Q (.ref l) H'
theorem cr_sortTx (O : ∀ k, SrtO.Swo (ltY k)) (hc : X.calm = true) : CallR X (.builtin "sorted") rSortTx := by
  intro pins s σ H xs us Q I r h
  obtain ⟨p, a, ts, rfl, hp, ha, nd, q⟩ := h
  obtain rfl := Vals.ref1 r
  have view : s.heap.IsItemsView p a := (show ObjOk X.prog X.w H s.heap p (DX.itemsO p a) from I.hok p _ hp).1
  obtain ⟨es, ep, vs, z, hd, raw, rel, prs⟩ := raw_of I.hok ha
  have en := ents rel prs
  have len : es.size = ts.length := by rw [← Array.length_toList]; exact Paired.length en
  have lts : ts.length ≤ sizeLine := by rw [txtK, List.length_map] at z; exact z
  refine DT.sortedI (I.ok.hd hc) view raw (by omega) fun h' tk as hk hlt hl hG => ?_
  have las : as.length = ts.length := by omega
  have ndA : as.Nodup := List.Pairwise.imp (fun z => Nat.ne_of_lt z) hG.rise
  have made : ∀ (j : Nat) (b : Addr), as[j]? = some b → ∃ (y : Str × Str) (t u : Tok), ts[j]? = some y ∧ h'.get? b = some { cls := .type "tuple", data := .seq #[.str y.1 t, .str y.2 u] } := fun j b hj => by
    obtain ⟨e, he, hg⟩ := hG.pairs j b hj
    obtain ⟨y, hy, t, u, k1, k2⟩ := paired_get en j e (by rw [Array.getElem?_toList]; exact he)
    rw [k1, k2] at hg
    exact ⟨y, t, u, hy, hg⟩
  have lst : (h'.push { cls := .type "list", data := .seq (as.map Value.ref).toArray }).get? h'.objs.size = some (seqObj "list" (as.map Value.ref).toArray 0) := Heap.get?_push_size _ rfl
  have old : ∀ b o, h'.get? b = some o → (h'.push { cls := .type "list", data := .seq (as.map Value.ref).toArray }).get? b = some o := fun b o e => Heap.get?_push_of_some _ e
  have off : ∀ b o, h'.get? b = some o → b ≠ h'.objs.size := fun b o e => Nat.ne_of_lt (Heap.lt_size e)
  generalize h'.push { cls := .type "list", data := .seq (as.map Value.ref).toArray } = h2 at lst old ⊢
  have two : ∀ (j : Nat) (b : Addr), as[j]? = some b → ∃ y, ts[j]? = some y ∧ TwoT h2 (.ref b) y := fun j b hj => by
    obtain ⟨y, t, u, hy, hg⟩ := made j b hj
    exact ⟨y, hy, b, _, t, u, 0, rfl, old _ _ hg, rfl, rfl⟩
  have all : ∀ v ∈ as.map Value.ref, ∃ (j : Nat) (b : Addr) (y : Str × Str), v = .ref b ∧ as[j]? = some b ∧ ts[j]? = some y ∧ TwoT h2 v y ∧ twoOf h2 v = y := fun v hv => by
    obtain ⟨b, hb, rfl⟩ := List.mem_map.mp hv
    obtain ⟨j, hj⟩ := List.mem_iff_getElem?.mp hb
    obtain ⟨y, hy, t⟩ := two j b hj
    exact ⟨j, b, y, rfl, hj, hy, t, t.two⟩
  have lv : (as.map Value.ref).length ≤ sizeLine := by rw [List.length_map]; omega
  refine wpAny_call_entry PyProof.Rows.slot_list_sort ⟨_, lst, rfl⟩ PyProof.Rows.entry_list_sort (SrtO.list_sort_ord (s := { s with heap := h2, toks := tk }) (O (twoOf h2)) lst lv (fun two' => ?_) fun out srtd stb => ⟨.none, rfl, ?_⟩) (PyProof.Rows.args_list_sort _)
  · refine two_sortable (s := { s with heap := h2, toks := tk }) (by omega) (fun v hv => ?_) (fun v hv u hu e => ?_) fun v hv => ?_
    · obtain ⟨j, b, y, _, _, _, t, ey⟩ := all v hv
      rw [ey]
      exact t
    · obtain ⟨j, b, y, _, _, hy, t, ey⟩ := all v hv
      obtain ⟨i, b', y', _, _, hy', t', ey'⟩ := all u hu
      rw [ey, ey'] at e ⊢
      have k1 : (ts.map (·.1))[j]? = some y.1 := by rw [List.getElem?_map, hy]; rfl
      have k2 : (ts.map (·.1))[i]? = some y'.1 := by rw [List.getElem?_map, hy']; rfl
      have ij : j = i := (List.getElem?_inj (List.getElem?_eq_some_iff.mp k1).1 nd).mp (by rw [k1, k2, e])
      rw [ij, hy'] at hy
      cases hy
      rfl
    · obtain ⟨j, b, y, rfl, hj, _⟩ := all v hv
      obtain ⟨_, _, _, _, hg⟩ := made j b hj
      intro z
      exact off _ _ hg (Value.ref.inj z)
  · show EP X pins σ Q (.ref h'.objs.size) { s with heap := sortedHeap h2 h'.objs.size (as.map Value.ref) out.toArray, toks := tk }
    have m1 : (as.zip ts).map (fun z => Value.ref z.1) = as.map Value.ref := by
      rw [show (fun z : Addr × Str × Str => Value.ref z.1) = Value.ref ∘ Prod.fst from rfl, ← List.map_map, List.map_fst_zip (by omega)]
    obtain ⟨zs, pz, ez⟩ := perm_lift (fun z : Addr × Str × Str => Value.ref z.1) stb.perm (as.zip ts) m1
    have idx : ∀ x ∈ zs, ∃ j : Nat, as[j]? = some x.1 ∧ ts[j]? = some x.2 := fun x hx => by
      obtain ⟨j, hj⟩ := List.mem_iff_getElem?.mp (pz.mem_iff.mp hx)
      exact ⟨j, List.getElem?_zip_eq_some.mp hj⟩
    have tw : ∀ x ∈ zs, twoOf h2 (.ref x.1) = x.2 := fun x hx => by
      obtain ⟨j, j1, j2⟩ := idx x hx
      obtain ⟨y, hy, t⟩ := two j _ j1
      rw [j2] at hy
      cases hy
      exact t.two
    have hperm : (zs.map (·.2)).Perm ts := by
      have e := pz.map (·.2)
      rw [List.map_snd_zip (by omega)] at e
      exact e
    have hsort : (zs.map (·.2)).Pairwise (fun e f => ltCps f.1.cps.toList e.1.cps.toList = false) := by
      rw [← ez] at srtd
      rw [List.pairwise_map]
      refine List.Pairwise.imp_of_mem (fun {x y} hx hy e => ?_) (List.pairwise_map.mp srtd)
      have e' : ltCps (twoOf h2 (.ref y.1)).1.cps.toList (twoOf h2 (.ref x.1)).1.cps.toList = false := e
      rw [tw x hx, tw y hy] at e'
      exact e'
    have kF : ∀ b o, h'.get? b = some o → (sortedHeap h2 h'.objs.size (as.map Value.ref) out.toArray).get? b = some o := fun b o e => (PyProof.Rows.sortedHeap_old (off b o e) (Heap.lt_size (old b o e))).trans (old b o e)
    obtain ⟨eF, heF⟩ := PyProof.Rows.sortedHeap_at (vs := as.map Value.ref) (out := out.toArray) lst
    have I1 : Inv X pins σ H { s with heap := sortedHeap h2 h'.objs.size (as.map Value.ref) out.toArray, toks := tk } := I.kept (t' := tk) fun b o e => kF b o (hk b o e)
    have hn0 : H h'.objs.size = none := I.hok.fresh (Nat.le_of_lt hlt)
    have lz : (zs.map fun z => V.ref z.1).length ≤ sizeLine := by
      have e := hperm.length_eq
      rw [List.length_map] at e ⊢
      omega
    have rv : Vals (zs.map fun z => V.ref z.1) out := by
      rw [← ez]
      exact vals_maps (fun z : Addr × Str × Str => V.ref z.1) (fun z => Value.ref z.1) zs fun _ _ => rfl
    have I2 : Inv X pins σ (upd H h'.objs.size (.lst (zs.map fun z => V.ref z.1))) { s with heap := sortedHeap h2 h'.objs.size (as.map Value.ref) out.toArray, toks := tk } :=
      I1.take (h' := sortedHeap h2 h'.objs.size (as.map Value.ref) out.toArray) (t' := tk) (fun b ob _ e => e) (I.fpOk (Nat.le_of_lt hlt) hn0) ⟨lz, out, eF, rv, heF⟩
    obtain ⟨H2, I3, g, qt⟩ := DX.takeT (P := fun b vs => ∃ (j : Nat) (y : Str × Str), as[j]? = some b ∧ ts[j]? = some y ∧ vs = [.str y.1, .str y.2]) I as _ I2 ndA fun b hb => by
      obtain ⟨j, hj⟩ := List.mem_iff_getElem?.mp hb
      obtain ⟨y, t, u, hy, hg⟩ := made j b hj
      have hbl : s.heap.objs.size ≤ b := Nat.le_of_lt (hG.above b hb)
      refine ⟨hbl, ?_, [.str y.1, .str y.2], ⟨j, y, hj, hy, rfl⟩, fun H3 => ⟨by show 2 ≤ sizeLine; decide, [.str y.1 t, .str y.2 u], .cons ⟨t, rfl⟩ (.cons ⟨u, rfl⟩ .nil), ⟨_, kF _ _ hg, rfl, 0, rfl⟩⟩⟩
      rw [upd_ne (off _ _ hg)]
      exact I.hok.fresh hbl
    refine ⟨.ref h'.objs.size, H2, I3, rfl, q H2 h'.objs.size zs (fun b o e => g b o (by rw [upd_ne (ne_of_none e hn0)]; exact e)) hperm hsort (g _ _ upd_same) fun x hx => ?_⟩
    obtain ⟨i, i1, i2⟩ := idx x hx
    obtain ⟨vs', ⟨j, y, j1, j2, ev⟩, hH⟩ := qt x.1 (List.mem_of_getElem? i1)
    have eij : i = j := (List.getElem?_inj (List.getElem?_eq_some_iff.mp i1).1 ndA).mp (i1.trans j1.symm)
    subst eij
    rw [i2] at j2
    cases j2
    rw [ev] at hH
    exact hH
end
end X2
end L2
/-! refused -/
namespace L2
namespace D1
open PySem PySem.Spec PyProof.Rows X1
section
variable {P : Program} {w : World} {K : PySem.W.Frag} {mg : Str → Option Value} {base : Heap} {C CI : Addr}
abbrev CVery (P : Program) (w : World) (K : PySem.W.Frag) (mg : Str → Option Value) (base : Heap) := Cal P w K mg base "_law_is_very" 3 ["_law_told", "_law_thing"] spVery
theorem scRf : FnScope ["_law_way", "_law_desk_here", "_law_talk", "_law_caught", "_law_before", "error"] ["_law_way", "_law_desk_here", "_law_talk"] (defScope sRefused) := ⟨rfl, rfl, rfl, by decide +kernel, rfl, by decide +kernel, by decide +kernel⟩
theorem ok_refused {f : Addr} {fd : FuncData} (F : Fun K "_law_refused" "_law_refused" sRefused f fd) (T : Free3 mg) (CT : CalX P w K mg base "turns_behind" 7 ["desk", "talk"] (spHadX C CI)) (CS : CalX P w K mg base "spoken" 7 ["desk", "talk"] (spHadX C CI)) (CV : CVery P w K mg base)
    (gI : mg "InvalidTalk" = some (.ref CI)) (xf : XF K CI) (fit : PySem.W.exmOne K (.ref CI) (.ref CI) = some true) : FnOk P w K mg base CX0 10 f fd ["_law_way", "_law_desk_here", "_law_talk"] (spRefused C) := by
  obtain ⟨fT, fdT, gT, kT', FT, bT⟩ := CT.ex
  obtain ⟨fS, fdS, gS, kS, FS, bS⟩ := CS.ex
  refine F.ok scRf (fun vs H Q E h => ?_) (fun cdv A outer s H vs Q E hr h => ?_)
  · obtain ⟨q, L, bk, st, way, m, rfl, _⟩ := h; rfl
  · obtain ⟨q, L, bk, st, way, m, rfl, hm, hq, ok, hL, ll, aw, ew, k⟩ := h
    refine ⟨_, pss_cons (ps_par (i := 3) (j := 4) rfl scRf.nd rfl rfl (by decide) rfl rfl (pa_cons pe_non (pa_cons (pe_callTy call_list_of (by rfl) T.list (by decide +kernel) (pa_cons (pv 2) pa_nil)) pa_nil)) (by rfl))
      (pss_try_kept (i := 5) (n := "error") (tb := fun W => tIfS (tTest (tOp rEq (tVar 0) (tC (.int 0)))) (tDrop (tCallS (spHadX C CI) (WE W) (tCons (tVar 1) (tCons (tVar 2) tNil)))) (tDrop (tCallS (spHadX C CI) (WE W) (tCons (tVar 1) (tCons (tVar 2) tNil)))))
        (ts := fun _ _ _ => tAsg (tVar 5) (gName 3)) (tr := fun a cls d => tRet (tAndV (tNotN (tVar 3)) (tAndV (tOp (rEqD K) (tVar 2) (tVar 4)) (tCall spVery [] E0 (tCons (tValP K a cls d (tVar 3)) (tCons (tVar 2) tNil)))))) rfl rfl scRf.nd rfl rfl ⟨rfl, by decide +kernel, .inl gI⟩
        (fun W pn xe tk po => pss_one (ps_if (pt_cmpR op_eq (pv 0) pe_int (nomark _)) (pss_one (ps_expr (pe_callS FT (hr.mono (by decide)) rfl gT kT' bT (passAt tk) (pa_cons (pv 1) (pa_cons (pv 2) pa_nil))))) (pss_one (ps_expr (pe_callS FS (hr.mono (by decide)) rfl gS kS bS (passAt tk) (pa_cons (pv 1) (pa_cons (pv 2) pa_nil)))))))
        (fun a oe cls d pn hz hd => pss_one (ps_set (i := 3) scRf.nd rfl (Or.inl rfl) (pv 5)))
        pss_never
        (fun a oe cls d hz hd => pss_one (ps_ret (pe_and (pe_cmp (pc_notN (pv 3)) rfl) (pe_and (pe_cmpR (op_eqD hr.units) (pv 2) (pv 4) (nomark _)) (pe_one (pe_cal CV (hr.mono (by decide)) rfl (pa_cons (pe_valP (by exact List.mem_cons_self) hz hd (pv 3)) (pa_cons (pv 2) pa_nil))))))))), ?_⟩
    refine ⟨_, rfl, L, _, rfl, .inl hL.sq, fun M hM => ⟨_, _, rfl, ?_⟩⟩
    have hM1 : SL (L2.upd H M (.lst (way.map V.str))) M way := upd_same
    have s1 := Same.new (o := .lst (way.map V.str)) hM
    generalize L2.upd H M (.lst (way.map V.str)) = H1 at hM1 s1
    have caught : ∀ (d : Addr) (H' : Hp), Same H1 H' → H1 d = none → H' d = some (exd d [(("value" : Str), .ref L)]) → ∀ a, H' a = none →
        tRet (tAndV (tNotN (tVar 3)) (tAndV (tOp (rEqD K) (tVar 2) (tVar 4)) (tCall spVery [] E0 (tCons (tValP K a (.ref CI) (some d) (tVar 3)) (tCons (tVar 2) tNil))))) { nx := fun _ H' => Q .non H', rt := Q } [some (.int m), some (.ref q), some (.ref L), some (.ref a), some (.ref M), none] H' := by
      intro d H' s' nd hd a na
      have s2 := Same.trans s1 s'
      have hS := shaped_strs aw
      refine ⟨_, rfl, true, rfl, iteT ⟨_, rfl, _, rfl, _, _, dp_strs (hL.same s2), dp_strs (hM1.same s'), hS, hS, ?_⟩⟩
      rw [SeqAt.eqv_refl _ (SeqAt.canLay_of_shaped hS)]
      exact ⟨true, rfl, iteT ⟨_, rfl, CI, d, .ref L, rfl, rfl, xf, rfl, hd, _, rfl, L, way, rfl, hL.same s2, ll, fun H3 s3 => k H3 (Same.trans s2 s3)⟩⟩
    rcases hm with rfl | rfl
    · refine ⟨_, rfl, rfl, _, rfl, ?_⟩
      refine (if_pos (by decide)).mpr ?_
      exact ⟨_, rfl, _, rfl, q, L, bk, st, way, rfl, hq.same s1, ok, hL.same s1, ll, aw, ew, fun d H' s' nd hd => ⟨fit, fun a na => ⟨_, rfl, caught d H' s' nd hd a na⟩⟩⟩
    · refine ⟨_, rfl, rfl, _, rfl, ?_⟩
      refine (if_neg (by decide)).mpr ?_
      exact ⟨_, rfl, _, rfl, q, L, bk, st, way, rfl, hq.same s1, ok, hL.same s1, ll, aw, ew, fun d H' s' nd hd => ⟨fit, fun a na => ⟨_, rfl, caught d H' s' nd hd a na⟩⟩⟩
end
end D1
end L2
/-! InvalidTalk's __init__ -/
namespace L2
namespace X1
open PySem PySem.Spec PyProof.Rows
def iArgs (p1 p2 p3 : Pos) : Arguments := { posonlyargs := [], args := [{ arg := "self", annotation := none, pos := p1 }, { arg := "value", annotation := none, pos := p2 }], vararg := none, kwonlyargs := [], kw_defaults := [], kwarg := none, defaults := [.Constant .none 0 p3] }
def iBody (q1 q2 q3 q4 : Pos) : List Stmt := [.Assign [.Attribute (.Name "self" q1) "value" q2] (.Name "value" q3) q4]
def iSc : Scope := { kind := .function, names := [(PySem.Str.ofString "self", .local), (PySem.Str.ofString "value", .local)], isGenerator := false, isCoroutine := false, more := [] }
/-- what the top has written of such a class -/
structure CF (K : PySem.W.Frag) (mg : Str → Option Value) (x : Str) (C : Addr) : Prop where
  gC : mg x = some (.ref C)
  xf : XF K C
  fn : ∃ (fI : Addr) (fd : FuncData) (p1 p2 p3 q1 q2 q3 q4 : Pos) (qn : Str), PySem.W.findIn K (.ref C) "__init__" = some (some (.ref fI)) ∧ PySem.W.typeIn K (.ref fI) = some (.type "function") ∧ FunD K "__init__" qn (iArgs p1 p2 p3) (iBody q1 q2 q3 q4) iSc [.non] [] fI fd
section
variable {P : Program} {w : World} {K : PySem.W.Frag} {mg : Str → Option Value} {base : Heap}
theorem scI : FnScope ["self", "value"] ["self", "value"] iSc := ⟨rfl, rfl, rfl, by decide +kernel, rfl, by decide +kernel, by decide +kernel⟩
theorem ok_init {C fI : Addr} {fd : FuncData} {p1 p2 p3 q1 q2 q3 q4 : Pos} {qn : Str} (xf : XF K C) (F : FunD K "__init__" qn (iArgs p1 p2 p3) (iBody q1 q2 q3 q4) iSc [.non] [] fI fd) : FnOk P w K mg base CX0 1 fI fd ["self", "value"] (spInit C) := by
  refine F.ok scI (fun vs H Q E h => ?_) (fun cdv A outer s H vs Q E hr h => ?_)
  · obtain ⟨a, v, rfl, _⟩ := h; rfl
  · obtain ⟨a, v, rfl, ha, k⟩ := h
    exact ⟨_, pss_one (ps_ost (pv 0) (pv 1)), _, rfl, _, rfl, a, C, rfl, xf.ox, xf.nV, .inl ⟨ha, fun d nd da => k d nd da⟩⟩
theorem CF.ini {x : Str} {C : Addr} (c : CF K mg x C) : Ini P w K mg base x C := by
  obtain ⟨fI, fd, p1, p2, p3, q1, q2, q3, q4, qn, iC, tI, F⟩ := c.fn
  obtain ⟨d1, r1, b1⟩ := F.binds1 (ps := ["self", "value"]) 2 1 (by simp) rfl fun T kV doc pm an cdv ct us its h1 h2 => match us, its, h1, h2 with | [_, _], [_], _, _ => ⟨_, rfl, rfl⟩
  have e1 : d1 = [] := Vals.zero r1
  subst e1
  exact ⟨c.gC, c.xf, fI, fd, iC, tI, ok_init c.xf F, b1⟩
end
end X1
end L2
/-! unspoilt -/
namespace L2
namespace D1
open PySem PySem.Spec PyProof.Rows
theorem swoT (k : Value → Str × Str) : SrtO.Swo (X2.ltY k) := by
  refine ⟨fun x y h => ?_, fun x y z h1 h2 => leC_trans (a := tl (k x).1) (b := tl (k y).1) (c := tl (k z).1) h1 h2⟩
  rcases leC_total (tl (k x).1) (tl (k y).1) with z | z
  · exact z
  · exact absurd (h.symm.trans z) (by decide)
theorem goal_self {ts : List (Str × Str)} (nd : (ts.map (·.1)).Nodup) {y : Str × Str} (hy : y ∈ ts) : goalT ts y.1 = y.2 := by
  obtain ⟨t, e, e1, e2⟩ := find_some (List.mem_map_of_mem (f := (·.1)) hy)
  rw [goalT, e]
  show t.2 = y.2
  obtain ⟨i, hi⟩ := List.mem_iff_getElem?.mp e2
  obtain ⟨j, hj⟩ := List.mem_iff_getElem?.mp hy
  have k1 : (ts.map (·.1))[i]? = some t.1 := by rw [List.getElem?_map, hi]; rfl
  have k2 : (ts.map (·.1))[j]? = some y.1 := by rw [List.getElem?_map, hj]; rfl
  have ij : i = j := (List.getElem?_inj (List.getElem?_eq_some_iff.mp k1).1 nd).mp (by rw [k1, k2, e1])
  rw [ij, hj] at hi
  cases hi
  rfl
theorem ord_of {ts ys : List (Str × Str)} (nd : (ts.map (·.1)).Nodup) (p : ys.Perm ts) (s : ys.Pairwise (fun e f => ltCps f.1.cps.toList e.1.cps.toList = false)) : ys = ordT ts := by
  have k : ys.map (·.1) = srt (ts.map (·.1)) := pw_unique ((p.map _).trans (srt_perm _).symm) (List.pairwise_map.mpr s) (srt_pw _)
  rw [ordT, ← k, List.map_map]
  refine ((List.map_congr_left fun y hy => ?_).trans (List.map_id ys)).symm
  show (y.1, goalT ts y.1) = y
  rw [goal_self nd (p.mem_iff.mp hy)]
section
variable {P : Program} {w : World} {K : PySem.W.Frag} {mg : Str → Option Value} {base : Heap} {C : Addr}
abbrev CMEq (P : Program) (w : World) (K : PySem.W.Frag) (mg : Str → Option Value) (base : Heap) (C : Addr) : Prop := ∃ f fd, PySem.W.findIn K (.ref C) "__eq__" = some (some (.ref f)) ∧ PySem.W.isFn K (.ref f) = true ∧ FnOk P w K mg base CX0 1 f fd ["self", "other"] (spEq (REq C)) ∧ Binds K fd ["self", "other"] []
theorem scUn : FnScope ["_law_desk_here", "_law_world_here", "_law_book", "_law_state"] ["_law_desk_here", "_law_world_here"] (defScope sUnsp) := ⟨rfl, rfl, rfl, by decide +kernel, rfl, by decide +kernel, by decide +kernel⟩
theorem ok_unsp {f : Addr} {fd : FuncData} (F : Fun K "_law_unspoilt" "_law_unspoilt" sUnsp f fd) (T : Free3 mg) (D : DTxt K mg C) (MB : CMBook P w K mg base C) (MS : CMStart P w K mg base C) (CE : ∀ n, CExact P w K mg base n) (CLd : CLDesk P w K mg base C) (ME : CMEq P w K mg base C) :
    FnOk P w K mg base CX0 11 f fd ["_law_desk_here", "_law_world_here"] (spUnsp C) := by
  obtain ⟨fB, fdB, mB, FB, bB⟩ := MB.ex
  obtain ⟨fS, fdS, mS, FS, bS⟩ := MS.ex
  obtain ⟨fE, fdE, iE, kE, FE, bE⟩ := ME
  refine F.ok scUn (fun vs H Q E h => ?_) (fun cdv A outer s H vs Q E hr h => ?_)
  · obtain ⟨q, W, bk, st, rfl, _⟩ := h; rfl
  · obtain ⟨q, W, bk, st, rfl, hq, hW, ok, k⟩ := h
    have hu := hu_of hr
    refine ⟨_, pss_cons (ps_set (i := 2) scUn.nd rfl (Or.inl rfl) (pe_callTy (call_dictP rfl) (by rfl) T.dict (by decide +kernel) (pa_cons (pe_lc (own := [("_law_state", 3)]) (g := gName 3) (tt := tYes)
          (te := tTup (tCons (tVar 3) (tCons (tTup (tCons (tOp (rIxT K) (tDGet (tOp (rIxL K) (tVar 1) (tC (.int 0))) (tVar 3)) (tC (.int 0)))
            (tCons (tCB (fun xs H Q => ∃ (a : Addr) (ps : List Addr) (kvs : List (Key × V)), xs = [.ref a] ∧ SqL K H a (ps.map V.ref) ∧ Paired (fun p kv => SqT K H p [kV kv.1, kv.2]) ps kvs ∧ ∀ p, H p = none → Q (.ref p) (L2.upd H p (.dK (mergeK [] kvs))))
              (tCons (tCB X2.rSortTx (tCons (tBM0 K "dict" X2.rItemsK (tOp (rIxT K) (tDGet (tOp (rIxL K) (tVar 1) (tC (.int 0))) (tVar 3)) (tC (.int 1)))) tNil)) tNil)) tNil))) tNil)))
          rfl scUn.nd (pi_list (pe_callB (call_sortedD rfl) (by rfl) T.sorted (by decide +kernel) (pa_cons (pe_ix ix_list (pv 1) pe_int (fun _ _ => rfl)) pa_nil)))
          (blkOk_by (N := ["_law_desk_here", "_law_world_here", "_law_book", "_law_state"]) (sc := defScope sUnsp) (by decide +kernel)) (fun _ _ _ _ _ => pg_name (i := 3) scUn.nd rfl (Or.inl rfl)) (fun _ _ _ _ _ => pts_nil)
          (fun _ _ _ _ _ => pe_tup (pa_cons (pv 3) (pa_cons (pe_tup (pa_cons (pe_ix ix_tup (pe_dget hu (pe_ix ix_list (pv 1) pe_int (fun _ _ => rfl)) (pv 3) (fun _ _ => rfl)) pe_int (fun _ _ => rfl))
            (pa_cons (pe_callTy (call_dictP rfl) (by rfl) T.dict (by decide +kernel) (pa_cons (pe_callB (X2.cr_sortTx swoT rfl) (by rfl) T.sorted (by decide +kernel) (pa_cons (pe_bm0 PySem.F.plainAttrs_dict PySem.F.slot_dict_items PySem.F.type_dict_items X2.mt_itemsK (pe_ix ix_tup (pe_dget hu (pe_ix ix_list (pv 1) pe_int (fun _ _ => rfl)) (pv 3) (fun _ _ => rfl)) pe_int (fun _ _ => rfl))) pa_nil)) pa_nil)) pa_nil))) pa_nil)))) pa_nil)))
      (pss_one (ps_ret (pe_and (pe_cal (CE 5) (hr.mono (by decide)) rfl (pa_cons (pe_lst (pa_cons (pe_meth0 (pv 0) D.cl mB FB (hr.mono (by decide)) bB .nil pass0) (pa_cons (pe_meth0 (pv 0) D.cl mS FS (hr.mono (by decide)) bS .nil pass0) pa_nil))) (pa_cons (pe_lst (pa_cons (pv 2) (pa_cons (pe_ix ix_list (pv 1) pe_int (fun _ _ => rfl)) pa_nil))) pa_nil)))
        (pe_one (pe_cmpR (op_eqG (rcG_ins FE iE kE bE pass0) (hr.mono (by decide))) (pv 0) (pe_cal CLd (hr.mono (by decide)) rfl (pa_cons (pv 1) pa_nil)) (nomark _)))))), ?_⟩
    obtain ⟨b, hWl, kvs, hk, hR⟩ := id hW
    have lb := ok.len
    have ek : kvs.map (·.1) = (bk.map (·.1)).map Sum.inr := by rw [hR.keys, List.map_map]; rfl
    refine ⟨_, rfl, W, _, _, _, rfl, rfl, SqL.of hWl, atI_nat (j := 0) rfl, b, kvs, bk.map (·.1), rfl, .inl hk, ek, by rw [List.length_map]; omega, fun ys S0 pm so hS0 => ?_⟩
    have ey := srt_of pm so
    have ndy : ys.Nodup := pm.nodup_iff.mpr ok.nd
    have g0 := Same.new (o := .lst (ys.map V.str)) hS0
    have eS0 : SL (L2.upd H S0 (.lst (ys.map V.str))) S0 ys := upd_same
    generalize L2.upd H S0 (.lst (ys.map V.str)) = H0 at g0 eS0
    refine ⟨S0, rfl, ⟨_, eS0.sq⟩, fun M hM => ?_⟩
    have hMH : H M = none := g0.free hM
    have nM : S0 ≠ M := fun e => by rw [← e, eS0] at hM; cases hM
    have lys : ys.length = bk.length := by rw [pm.length_eq, List.length_map]
    have ob : ordB bk = ys.map fun s => (s, (rowOf bk s).1, ordT (rowOf bk s).2) := by rw [ordB, ey]
    refine lc_list (K := K) (a := S0) (xs := ys.map V.str) (fun i H' => Same H0 H' ∧ ∃ (ps : List Addr) (kv2 : List (Key × V)), H' M = some (.lst (ps.map V.ref)) ∧ Paired (fun p (kv : Key × V) => (cut [M] H') p = some (.tup [kV kv.1, kv.2])) ps kv2 ∧ Rows (cut [M] H') kv2 ((ordB bk).take i)) ⟨Same.new hM, [], [], upd_same, .nil, .nil⟩ (fun i H' _ z => (eS0.same z.1).sq) ?_ ?_
    · rintro i x H3 hx ⟨sm, ps, kv2, hM2, hp, hR2⟩
      obtain ⟨z, hz, rfl⟩ := get_map hx
      have hil : i < ys.length := (List.getElem?_eq_some_iff.mp hz).1
      have hzm : z ∈ bk.map (·.1) := pm.mem_iff.mp (List.mem_of_getElem? hz)
      have hrow := row_mem hzm
      have ndt := (ok.bok.rs _ hrow).1
      have sH := Same.trans g0 sm
      have row : ∀ {H' : Hp}, Same H3 H' → ∃ t a, DGet H' b (V.str z) (some (.ref t)) ∧ H' t = some (.tup [.str (rowOf bk z).1, .ref a]) ∧ TurnsAt H' a (rowOf bk z).2 := fun {H'} s => by
        obtain ⟨v, ev, ⟨t, a, rfl, ht, ha⟩, _⟩ := (hR.same (Same.trans sH s)).look hzm
        exact ⟨t, a, .inl ⟨kvs, .inr z, .inl ((Same.trans sH s) _ _ hk), rfl, ev.symm⟩, ht, ha⟩
      obtain ⟨t, a, r1, r2, r3⟩ := row (Same.refl _)
      have hW3 : SqL K H3 W [.ref b, .str st] := SqL.of (sH _ _ hWl)
      refine ⟨rfl, ?_⟩
      dsimp only [tYes]
      rw [if_pos rfl]
      refine ⟨_, rfl, _, rfl, W, _, _, _, rfl, rfl, hW3, atI_nat (j := 0) rfl, _, rfl, b, _, rfl, r1, t, _, _, _, rfl, rfl, SqT.of r2, atI_nat (j := 0) rfl, ?_⟩
      refine ⟨_, rfl, W, _, _, _, rfl, rfl, hW3, atI_nat (j := 0) rfl, _, rfl, b, _, rfl, r1, t, _, _, _, rfl, rfl, SqT.of r2, atI_nat (j := 1) rfl, .inr (.inr (.inl ⟨rfl, .inl ⟨_, r3⟩⟩)), a, _, rfl, rfl, r3, fun p hp0 => ?_⟩
      have gp := Same.new (o := DX.itemsO p a) hp0
      refine ⟨p, a, (rowOf bk z).2, rfl, upd_same, gp _ _ r3, ndt, fun H4 l zs k4 zp zw hl hz4 => ?_⟩
      have s34 : Same H3 H4 := Same.trans gp k4
      have ezs := ord_of ndt zp zw
      have nd2 : ((kT (ordT (rowOf bk z).2)).map (·.1)).Nodup := by
        rw [kT, List.map_map]
        have := inr_nd' (ordT_nd ndt)
        rw [List.map_map] at this
        exact this
      have pz : Paired (fun p (kv : Key × V) => SqT K H4 p [kV kv.1, kv.2]) (zs.map (·.1)) (kT (ordT (rowOf bk z).2)) := by
        rw [← ezs, kT, List.map_map]
        clear ezs zp zw hl
        induction zs with
        | nil => exact .nil
        | cons y r ih => exact .cons (SqT.of (hz4 y (.head _))) (ih fun u hu => hz4 u (.tail _ hu))
      refine ⟨l, zs.map (·.1), kT (ordT (rowOf bk z).2), rfl, SqL.of (by rw [List.map_map]; exact hl), pz, fun E1 hE1 => ?_⟩
      rw [merge_id2 nd2]
      refine ⟨by show 2 ≤ sizeLine; decide, fun T1 hT1 => ⟨by show 2 ≤ sizeLine; decide, fun T2 hT2 => ?_⟩⟩
      have g1 := Same.new (o := .dK (kT (ordT (rowOf bk z).2))) hE1
      have g2 := Same.new (o := .tup [.str (rowOf bk z).1, .ref E1]) hT1
      have g3 := Same.new (o := .tup [.str z, .ref T1]) hT2
      have hM4 := s34 _ _ hM2
      have g := Same.trans (Same.trans g1 g2) g3
      have g34 := Same.trans s34 g
      have nE : E1 ≠ M := fun e => by rw [e, hM4] at hE1; cases hE1
      have nT : T1 ≠ M := fun e => by rw [e, g1 _ _ hM4] at hT1; cases hT1
      have nT2 : T2 ≠ M := fun e => by rw [e, g2 _ _ (g1 _ _ hM4)] at hT2; cases hT2
      have lps : ps.length = kv2.length := paired_len hp
      have lo := ordB_len bk
      have lkv : kv2.length = i := by rw [hR2.len, List.length_take]; omega
      refine ⟨_, g34 _ _ hM2, by rw [List.length_map, lps, lkv, sizeLine_eq]; omega, fun c u e => ?_, ps ++ [T2], kv2 ++ [(.inr z, .ref T1)], by rw [upd_same, List.map_append]; rfl, ?_, ?_⟩
      · rw [upd_ne (ne_of_none e hM)]; exact g34 _ _ (sm _ _ e)
      · rw [cut_upd (by simp)]
        have hp' := paired_imp (R' := fun p (kv : Key × V) => (cut [M] (L2.upd (L2.upd (L2.upd H4 E1 (.dK (kT (ordT (rowOf bk z).2)))) T1 (.tup [.str (rowOf bk z).1, .ref E1])) T2 (.tup [.str z, .ref T1]))) p = some (.tup [kV kv.1, kv.2])) (fun p kv e => cut_same g34 _ _ e) hp
        exact pair_app hp' (by rw [cut_out (by simpa using nT2)]; exact upd_same)
      · have hoz : (ordB bk)[i]? = some (z, (rowOf bk z).1, ordT (rowOf bk z).2) := by rw [ob, List.getElem?_map, hz]; rfl
        rw [cut_upd (by simp), take_succ_get hoz]
        refine (hR2.same (cut_same g34)).app ⟨T1, E1, rfl, ?_, ?_⟩
        · rw [cut_out (by simpa using nT)]; exact g3 _ _ upd_same
        · rw [TurnsAt, cut_out (by simpa using nE)]; exact g3 _ _ (g2 _ _ upd_same)
    · rintro H2 ⟨sm, ps, kv2, hM2, hp, hR2⟩
      have hlo : (ys.map V.str).length = (ordB bk).length := by rw [List.length_map, ordB_len]; exact lys
      rw [hlo, List.take_length] at hR2
      have hp3 : Paired (fun p (kv : Key × V) => SqT K H2 p [kV kv.1, kv.2]) ps kv2 := paired_imp (fun p kv e => SqT.of (cut_le _ _ e)) hp
      refine ⟨M, ps, kv2, rfl, SqL.of hM2, hp3, fun B hB => ?_⟩
      have e1 : kv2.map (·.1) = ((ordB bk).map (·.1)).map Sum.inr := by rw [hR2.keys, List.map_map]; rfl
      have ndo : ((ordB bk).map (·.1)).Nodup := ok.ond
      rw [merge_id2 (by rw [e1]; exact inr_nd' ndo)]
      have s3 := Same.new (o := .dK kv2) hB
      have hBk : BookAt (L2.upd H2 B (.dK kv2)) B (ordB bk) := ⟨kv2, upd_same, (hR2.same cut_le).same s3⟩
      generalize L2.upd H2 B (.dK kv2) = H3 at s3 hBk
      have s03 := Same.trans g0 (Same.trans sm s3)
      obtain ⟨dx, bb, e0, hb0⟩ := id (hq.same s03)
      refine ⟨_, rfl, q, dx, _, rfl, e0, dflds_no _ _ (by decide +kernel) (by decide +kernel), q, bk, st, rfl, hq.same s03, ok, fun H4 R s4 hR0 hBR => ?_⟩
      have s04 := Same.trans s03 s4
      refine ⟨_, rfl, q, dx, _, rfl, s4 _ _ e0, dflds_no _ _ (by decide +kernel) (by decide +kernel), q, bk, st, rfl, hq.same s04, ?_⟩
      refine ⟨by show 2 ≤ sizeLine; decide, fun A1 hA1 => ?_⟩
      have g1 := Same.new (o := .lst [.ref R, .str st]) hA1
      have eA1 := upd_same (H := H4) (a := A1) (o := .lst [.ref R, .str st])
      generalize L2.upd H4 A1 (.lst [.ref R, .str st]) = H5 at g1 eA1
      have s05 := Same.trans s04 g1
      refine ⟨_, rfl, _, rfl, W, _, _, _, rfl, rfl, SqL.of (s05 _ _ hWl), atI_nat (j := 1) rfl, by show 2 ≤ sizeLine; decide, fun A2 hA2 => ?_⟩
      have g2 := Same.new (o := .lst [.ref B, .str st]) hA2
      have eA2 := upd_same (H := H5) (a := A2) (o := .lst [.ref B, .str st])
      generalize L2.upd H5 A2 (.lst [.ref B, .str st]) = H6 at g2 eA2
      have s06 := Same.trans s05 g2
      have x1 : BookAt H6 R (ordB bk) := (hBR.same g1).same g2
      have x2 : BookAt H6 B (ordB bk) := ((hBk.same s4).same g1).same g2
      refine ⟨_, _, rfl, .inr (.inl ⟨A1, A2, _, _, rfl, rfl, g2 _ _ eA1, eA2, by show 2 ≤ 10000; decide, .cons (eqx_book x1 x2 ok.obok (ordB_ne ok.ne)) (.cons (eqx_str st) .nil)⟩), fun H7 s7 => ⟨true, rfl, iteT ?_⟩⟩
      have s07 := Same.trans s06 s7
      refine ⟨_, rfl, _, rfl, W, bk, st, rfl, hW.same s07, ok, fun H8 q2 s8 hq2 hD2 => ?_⟩
      have s08 := Same.trans s07 s8
      obtain ⟨dx2, bb2, e2, hb2⟩ := id hD2
      obtain ⟨dx1, bb1, e1', hb1⟩ := id (hq.same s08)
      exact ⟨⟨q, q2, dx1, dx2, _, _, rfl, rfl, e1', e2, bk, st, hq.same s08, hD2, ok⟩, fun H9 s9 => k H9 fun c o e => s9 _ _ (s08 _ _ e)⟩
end
end D1
end L2
/-! the rows of the text, the law's promise -/
namespace L2
namespace D1
open PySem PySem.Spec PyProof.Rows X1
section
variable {K : PySem.W.Frag} {h : Heap} {mg : Str → Option Value}
/-- a def of the text (veB: what stands over ValueError) -/
abbrev veB : List Value := [.type "ValueError", .type "Exception", .type "BaseException", .type "object"]
def RowF (K : PySem.W.Frag) (mg : Str → Option Value) (x : Str) (st : Stmt) : Prop := ∃ f fd, mg x = some (.ref f) ∧ Fun K x x st f fd
theorem rowF (X : K.In h) (G : h.Ns mainGlobals mg) {x : Str} {st : Stmt} {f : Addr} {oc kV doc pm cdv ct : Value} {od an : Option Addr} {osl : Array (Option Value)} (a : PySem.W.nsIn K mainGlobals x = some (some (.ref f)))
    (l : K.lookup f = some ⟨oc, od, .func (PySem.W.fnOf x x (defArgs st) (defBody st) (defScope st) .none kV doc pm an cdv ct), osl⟩) (c : PySem.W.codeIn K cdv x = true) (k : PySem.W.keepIn K (.ref f) = true) : RowF K mg x st :=
  ⟨f, _, PySem.W.mg_of X G a, fun_mk l c k⟩
/-- a method of the class at C -/
def RowM (K : PySem.W.Frag) (C : Addr) (m q : Str) (st : Stmt) : Prop := ∃ f fd, PySem.W.findIn K (.ref C) m = some (some (.ref f)) ∧ PySem.W.isFn K (.ref f) = true ∧ Fun K m q st f fd
theorem rowM (_ : K.In h) {C : Addr} {m q : Str} {st : Stmt} {f : Addr} {oc kV doc pm cdv ct : Value} {od an : Option Addr} {osl : Array (Option Value)} (a : PySem.W.findIn K (.ref C) m = some (some (.ref f))) (i : PySem.W.isFn K (.ref f) = true)
    (l : K.lookup f = some ⟨oc, od, .func (PySem.W.fnOf m q (defArgs st) (defBody st) (defScope st) .none kV doc pm an cdv ct), osl⟩) (c : PySem.W.codeIn K cdv q = true) (k : PySem.W.keepIn K (.ref f) = true) : RowM K C m q st :=
  ⟨f, _, a, i, fun_mk l c k⟩
/-- the class Desk -/
structure DeskRow (K : PySem.W.Frag) (mg : Str → Option Value) (C : Addr) : Prop where
  txt : DTxt K mg C
  ins : C8.InsC K C
  mkD : PySem.W.makesIn K C = true
  kp : PySem.W.keepIn K (.ref C) = true
  m0 : RowM K C "__init__" "Desk.__init__" sDInit
  m1 : RowM K C "__eq__" "Desk.__eq__" sDEq
  m2 : RowM K C "book" "Desk.book" sDBook
  m3 : RowM K C "start" "Desk.start" sDStart
theorem deskRow (X : K.In h) (G : h.Ns mainGlobals mg) {C : Addr} (aC : PySem.W.nsIn K mainGlobals "Desk" = some (some (.ref C)))
    (pg : PySem.W.plainGet K C Str.empty = true) (hd : PySem.W.hasDictIn K C = true) (po : PySem.W.plainOver K C = true) (sa : PySem.W.findIn K (.ref C) "__setattr__" = some (some (.builtin "object.__setattr__")))
    (nB : PySem.W.findIn K (.ref C) "_book" = some none) (nS : PySem.W.findIn K (.ref C) "_start" = some none)
    (ca : PySem.W.findIn K (.ref C) "__class__" = some (some (.builtin "object.__class__"))) (gs : PySem.W.specialIn K (.builtin "object.__class__") "__get__" = some (some (.builtin "getset_descriptor.__get__"))) (ss : PySem.W.takesIn K (.builtin "object.__class__") = some true)
    (mo : PySem.W.mroIn K C (.type "object") = some true) (mk : PySem.W.makesIn K C = true) (kp : PySem.W.keepIn K (.ref C) = true)
    (m0 : RowM K C "__init__" "Desk.__init__" sDInit) (m1 : RowM K C "__eq__" "Desk.__eq__" sDEq) (m2 : RowM K C "book" "Desk.book" sDBook) (m3 : RowM K C "start" "Desk.start" sDStart) : ∃ C, DeskRow K mg C :=
  ⟨C, ⟨⟨pg, hd, po, sa⟩, nB, nS, PySem.W.mg_of X G aC⟩, ⟨⟨pg, hd, po, sa⟩, ca, gs, ss, mo, by unfold PySem.W.kitOne; rw [if_pos (beq_self_eq_true _)]⟩, mk, kp, m0, m1, m2, m3⟩
/-- InvalidTalk -/
structure TalkRow (K : PySem.W.Frag) (mg : Str → Option Value) (CI : Addr) : Prop where
  cf : CF K mg "InvalidTalk" CI
  fit : PySem.W.exmOne K (.ref CI) (.ref CI) = some true
  bC : PySem.W.subIn K (.ref CI) (.type "BaseException") = some true
  tC : PySem.W.typeIn K (.ref CI) = some (.type "type")
theorem refs_one' (D : Addr) : PySem.HandSPX.refsVE (.ref D :: veB) = true := by rfl
theorem talkRow (X : K.In h) (G : h.Ns mainGlobals mg) {C D fI T : Addr} {p1 p2 p3 q1 q2 q3 q4 : Pos} {qn : Str} {oc kV doc pm cdv ct ot : Value} {od an dt : Option Addr} {osl st : Array (Option Value)} {n : Nat}
    {q : Str} {N : Addr} {bs : List Value} {sn : List Str} {sub : List Value} {ab : Bool} {col : Option Bool} {dd : Option Addr} {k0 k1 k2 k3 k5 : Option Value}
    (gs : PySem.W.specialIn K (.builtin "object.__class__") "__get__" = some (some (.builtin "getset_descriptor.__get__"))) (ss : PySem.W.takesIn K (.builtin "object.__class__") = some true)
    (aC : PySem.W.nsIn K mainGlobals "InvalidTalk" = some (some (.ref C)))
    (l : K.lookup C = some (excClassObj "InvalidTalk" q C N bs (.ref D :: veB) true sn sub ab col dd k0 k1 k2 k3 k5 "ValueError.__new__"))
    (sa : PySem.W.findIn K (.ref C) "__setattr__" = some (some (.builtin "object.__setattr__"))) (exC : PySem.W.subIn K (.ref C) (.type "BaseException") = some true) (tyC : PySem.W.typeIn K (.ref C) = some (.type "type")) (kC : PySem.W.keepIn K (.ref C) = true)
    (nV : PySem.W.findIn K (.ref C) "value" = some none) (ga : PySem.W.findIn K (.ref C) "__getattribute__" = some (some (.builtin "BaseException.__getattribute__"))) (gg : PySem.W.findIn K (.ref C) "__getattr__" = some none) (hd : PySem.W.hasDictIn K C = true)
    (ca : PySem.W.findIn K (.ref C) "__class__" = some (some (.builtin "object.__class__"))) (mo : PySem.W.mroIn K C (.type "object") = some true)
    (iC : PySem.W.findIn K (.ref C) "__init__" = some (some (.ref fI))) (tI : PySem.W.typeIn K (.ref fI) = some (.type "function"))
    (lI : K.lookup fI = some ⟨oc, od, .func (PySem.W.fnOf "__init__" qn (iArgs p1 p2 p3) (iBody q1 q2 q3 q4) iSc (.ref T) kV doc pm an cdv ct), osl⟩) (cI : PySem.W.codeIn K cdv qn = true) (kI : PySem.W.keepIn K (.ref fI) = true)
    (lT : K.lookup T = some ⟨ot, dt, .seq #[.none] n, st⟩) : ∃ CI, TalkRow K mg CI := by
  have xf : XF K C := ⟨⟨⟨"InvalidTalk", q, N, bs, _, sn, sub, ab, col, dd, k0, k1, k2, k3, k5, l, refs_one' D⟩, sa, exC, tyC, kC⟩, nV, ga, gg, hd, ca, gs, ss, mo⟩
  have me : PySem.W.subIn K (.ref C) (.ref C) = some true := by
    have cl : ∃ cd, PySem.W.clsIn K C = some cd ∧ cd.mro = .ref C :: .ref D :: veB := by
      unfold PySem.W.clsIn
      rw [l]
      exact ⟨_, rfl, rfl⟩
    obtain ⟨cd, h1, h2⟩ := cl
    show PySem.W.mroIn K C (.ref C) = _
    unfold PySem.W.mroIn
    rw [h1, Option.bind_some, h2, List.contains_cons, beq_self_eq_true, Bool.true_or]
    rfl
  exact ⟨C, ⟨PySem.W.mg_of X G aC, xf, fI, _, p1, p2, p3, q1, q2, q3, q4, qn, iC, tI, ⟨⟨oc, od, .ref T, kV, doc, pm, an, cdv, ct, osl, rfl, lI, cI, .inr ⟨by simp, T, _, [.none], n, rfl, lT, rfl, .cons rfl .nil⟩, .inl rfl⟩, kI⟩⟩, PySem.W.exm_ref exC hd tyC me, exC, tyC⟩
theorem bind1 {x : Str} {st : Stmt} {f : Addr} {fd : FuncData} {a : Str} (F : Fun K x x st f fd) (e : ∀ (kV doc pm : Value) (an : Option Addr) (cdv ct u : Value), bindArgs (PySem.W.fnOf x x (defArgs st) (defBody st) (defScope st) .none kV doc pm an cdv ct) ⟨[u], []⟩ = pure [(a, u)]) (s : Shared) (u : Value) : BindsTo s fd ⟨[u], []⟩ [(a, u)] := by
  obtain ⟨oc, od, kV, doc, pm, an, cdv, ct, osl, rfl, lk, hcd⟩ := F.ex
  exact .of_eq (e kV doc pm an cdv ct u)

theorem law_of {P : Program} {w : World} {fa : Addr} (hfa : mg "law" = some (.ref fa)) (T : Free3 mg) (dr : ∃ C, DeskRow K mg C) (tr : ∃ CI, TalkRow K mg CI)
    (r0 : RowF K mg "is_name" sIsName)
    (r1 : RowF K mg "is_names" sIsNames)
    (r2 : RowF K mg "is_row" sIsRow)
    (r3 : RowF K mg "is_state_of" sIsState)
    (r4 : RowF K mg "node_behind" sNode)
    (r5 : RowF K mg "is_book" sIsBook)
    (r6 : RowF K mg "ordered_turns" sOrdT)
    (r7 : RowF K mg "ordered_book" sOrdB)
    (r8 : RowF K mg "need_desk" sNeed)
    (r9 : RowF K mg "graph_of" sGraph)
    (r10 : RowF K mg "is_talk" sIsTalk)
    (r11 : RowF K mg "need_talk" sNeedT)
    (r12 : RowF K mg "done_states" sDone)
    (r13 : RowF K mg "state_behind" sSB)
    (r14 : RowF K mg "state_had" sHad)
    (r15 : RowF K mg "turns_behind" sTB)
    (r16 : RowF K mg "spoken" sSpoken)
    (r17 : RowF K mg "is_whole" sWhole)
    (r18 : RowF K mg "_law_purse" sPurse)
    (r19 : RowF K mg "_law_mixed" sMixed)
    (r20 : RowF K mg "_law_draw" sDraw)
    (r21 : RowF K mg "_law_purses" sPurses)
    (r22 : RowF K mg "_law_one_of" sOneOf)
    (r23 : RowF K mg "_law_shuffled" sShuf)
    (r24 : RowF K mg "_law_exact" sExact)
    (r25 : RowF K mg "_law_word" sWord)
    (r26 : RowF K mg "_law_words" sWords)
    (r27 : RowF K mg "_law_pool" sPool)
    (r28 : RowF K mg "_law_turns" sTurns)
    (r29 : RowF K mg "_law_world" sWorld)
    (r30 : RowF K mg "_law_shape" sShape)
    (r31 : RowF K mg "_law_desk" sLDesk)
    (r32 : RowF K mg "_law_talks" sTalks)
    (r33 : RowF K mg "_law_behind" sBehind)
    (r34 : RowF K mg "_law_row_of" sRowOf)
    (r35 : RowF K mg "_law_is_very" sVery)
    (r36 : RowF K mg "_law_unspoilt" sUnsp)
    (r37 : RowF K mg "_law_talk_of" sTalkOf)
    (r38 : RowF K mg "_law_long" sLong)
    (r39 : RowF K mg "_law_rich" sRich)
    (r40 : RowF K mg "_law_spoken" sLSpoken)
    (r41 : RowF K mg "_law_refused" sRefused)
    (r42 : RowF K mg "_law_talk_right" sTRight)
    (r43 : RowF K mg "_law_right" sRight)
    (r44 : RowF K mg "law" sLaw)
    : ∃ fd : FuncData, (∀ (s : Shared) (u : Value), BindsTo s fd ⟨[u], []⟩ [("_law_script", u)]) ∧ ∀ base : Heap, K.In base → base.Ns mainGlobals mg → FnOk P w K mg base CX0 13 fa fd ["_law_script"] (spLaw K) := by
  obtain ⟨C, R⟩ := dr
  obtain ⟨CI, RI⟩ := tr
  obtain ⟨f0, d0, g0, F0⟩ := r0
  obtain ⟨f1, d1, g1, F1⟩ := r1
  obtain ⟨f2, d2, g2, F2⟩ := r2
  obtain ⟨f3, d3, g3, F3⟩ := r3
  obtain ⟨f4, d4, g4, F4⟩ := r4
  obtain ⟨f5, d5, g5, F5⟩ := r5
  obtain ⟨f6, d6, g6, F6⟩ := r6
  obtain ⟨f7, d7, g7, F7⟩ := r7
  obtain ⟨f8, d8, g8, F8⟩ := r8
  obtain ⟨f9, d9, g9, F9⟩ := r9
  obtain ⟨f10, d10, g10, F10⟩ := r10
  obtain ⟨f11, d11, g11, F11⟩ := r11
  obtain ⟨f12, d12, g12, F12⟩ := r12
  obtain ⟨f13, d13, g13, F13⟩ := r13
  obtain ⟨f14, d14, g14, F14⟩ := r14
  obtain ⟨f15, d15, g15, F15⟩ := r15
  obtain ⟨f16, d16, g16, F16⟩ := r16
  obtain ⟨f17, d17, g17, F17⟩ := r17
  obtain ⟨f18, d18, g18, F18⟩ := r18
  obtain ⟨f19, d19, g19, F19⟩ := r19
  obtain ⟨f20, d20, g20, F20⟩ := r20
  obtain ⟨f21, d21, g21, F21⟩ := r21
  obtain ⟨f22, d22, g22, F22⟩ := r22
  obtain ⟨f23, d23, g23, F23⟩ := r23
  obtain ⟨f24, d24, g24, F24⟩ := r24
  obtain ⟨f25, d25, g25, F25⟩ := r25
  obtain ⟨f26, d26, g26, F26⟩ := r26
  obtain ⟨f27, d27, g27, F27⟩ := r27
  obtain ⟨f28, d28, g28, F28⟩ := r28
  obtain ⟨f29, d29, g29, F29⟩ := r29
  obtain ⟨f30, d30, g30, F30⟩ := r30
  obtain ⟨f31, d31, g31, F31⟩ := r31
  obtain ⟨f32, d32, g32, F32⟩ := r32
  obtain ⟨f33, d33, g33, F33⟩ := r33
  obtain ⟨f34, d34, g34, F34⟩ := r34
  obtain ⟨f35, d35, g35, F35⟩ := r35
  obtain ⟨f36, d36, g36, F36⟩ := r36
  obtain ⟨f37, d37, g37, F37⟩ := r37
  obtain ⟨f38, d38, g38, F38⟩ := r38
  obtain ⟨f39, d39, g39, F39⟩ := r39
  obtain ⟨f40, d40, g40, F40⟩ := r40
  obtain ⟨f41, d41, g41, F41⟩ := r41
  obtain ⟨f42, d42, g42, F42⟩ := r42
  obtain ⟨f43, d43, g43, F43⟩ := r43
  obtain ⟨f44, d44, g44, F44⟩ := r44
  rw [hfa] at g44
  cases g44
  obtain ⟨fM0, dM0, aM0, iM0, FM0⟩ := R.m0
  obtain ⟨fM1, dM1, aM1, iM1, FM1⟩ := R.m1
  obtain ⟨fM2, dM2, aM2, iM2, FM2⟩ := R.m2
  obtain ⟨fM3, dM3, aM3, iM3, FM3⟩ := R.m3
  have b0 := F0.binds (ps := ["value"]) fun _ _ _ _ _ _ us hl => match us, hl with | [_], _ => rfl
  have b1 := F1.binds (ps := ["value"]) fun _ _ _ _ _ _ us hl => match us, hl with | [_], _ => rfl
  have b2 := F2.binds (ps := ["value"]) fun _ _ _ _ _ _ us hl => match us, hl with | [_], _ => rfl
  have b3 := F3.binds (ps := ["book", "value"]) fun _ _ _ _ _ _ us hl => match us, hl with | [_, _], _ => rfl
  have b4 := F4.binds (ps := ["graph", "start", "way"]) fun _ _ _ _ _ _ us hl => match us, hl with | [_, _, _], _ => rfl
  have b5 := F5.binds (ps := ["value"]) fun _ _ _ _ _ _ us hl => match us, hl with | [_], _ => rfl
  have b6 := F6.binds (ps := ["turns"]) fun _ _ _ _ _ _ us hl => match us, hl with | [_], _ => rfl
  have b7 := F7.binds (ps := ["book"]) fun _ _ _ _ _ _ us hl => match us, hl with | [_], _ => rfl
  have b8 := F8.binds (ps := ["desk"]) fun _ _ _ _ _ _ us hl => match us, hl with | [_], _ => rfl
  have b9 := F9.binds (ps := ["desk"]) fun _ _ _ _ _ _ us hl => match us, hl with | [_], _ => rfl
  have b10 := F10.binds (ps := ["value"]) fun _ _ _ _ _ _ us hl => match us, hl with | [_], _ => rfl
  have b11 := F11.binds (ps := ["talk"]) fun _ _ _ _ _ _ us hl => match us, hl with | [_], _ => rfl
  have b12 := F12.binds (ps := ["desk"]) fun _ _ _ _ _ _ us hl => match us, hl with | [_], _ => rfl
  have b13 := F13.binds (ps := ["desk", "talk"]) fun _ _ _ _ _ _ us hl => match us, hl with | [_, _], _ => rfl
  have b14 := F14.binds (ps := ["desk", "talk"]) fun _ _ _ _ _ _ us hl => match us, hl with | [_, _], _ => rfl
  have b15 := F15.binds (ps := ["desk", "talk"]) fun _ _ _ _ _ _ us hl => match us, hl with | [_, _], _ => rfl
  have b16 := F16.binds (ps := ["desk", "talk"]) fun _ _ _ _ _ _ us hl => match us, hl with | [_, _], _ => rfl
  have b17 := F17.binds (ps := ["desk", "talk"]) fun _ _ _ _ _ _ us hl => match us, hl with | [_, _], _ => rfl
  have b18 := F18.binds (ps := ["_law_script", "_law_at"]) fun _ _ _ _ _ _ us hl => match us, hl with | [_, _], _ => rfl
  have b19 := F19.binds (ps := ["_law_seed", "_law_turn", "_law_at"]) fun _ _ _ _ _ _ us hl => match us, hl with | [_, _, _], _ => rfl
  have b20 := F20.binds (ps := ["_law_purse_here", "_law_many"]) fun _ _ _ _ _ _ us hl => match us, hl with | [_, _], _ => rfl
  have b21 := F21.binds (ps := ["_law_script", "_law_few"]) fun _ _ _ _ _ _ us hl => match us, hl with | [_, _], _ => rfl
  have b22 := F22.binds (ps := ["_law_purse_here", "_law_some"]) fun _ _ _ _ _ _ us hl => match us, hl with | [_, _], _ => rfl
  have b23 := F23.binds (ps := ["_law_purse_here", "_law_some"]) fun _ _ _ _ _ _ us hl => match us, hl with | [_, _], _ => rfl
  have b24 := F24.binds (ps := ["_law_mine", "_law_theirs"]) fun _ _ _ _ _ _ us hl => match us, hl with | [_, _], _ => rfl
  have b25 := F25.binds (ps := ["_law_purse_here"]) fun _ _ _ _ _ _ us hl => match us, hl with | [_], _ => rfl
  have b26 := F26.binds (ps := ["_law_purse_here", "_law_many"]) fun _ _ _ _ _ _ us hl => match us, hl with | [_, _], _ => rfl
  have b27 := F27.binds (ps := ["_law_purse_here"]) fun _ _ _ _ _ _ us hl => match us, hl with | [_], _ => rfl
  have b28 := F28.binds (ps := ["_law_purse_here", "_law_states", "_law_words_here", "_law_at", "_law_top"]) fun _ _ _ _ _ _ us hl => match us, hl with | [_, _, _, _, _], _ => rfl
  have b29 := F29.binds (ps := ["_law_purse_here", "_law_many", "_law_words_here", "_law_top"]) fun _ _ _ _ _ _ us hl => match us, hl with | [_, _, _, _], _ => rfl
  have b30 := F30.binds (ps := ["_law_purse_here", "_law_words_here"]) fun _ _ _ _ _ _ us hl => match us, hl with | [_, _], _ => rfl
  have b31 := F31.binds (ps := ["_law_world_here"]) fun _ _ _ _ _ _ us hl => match us, hl with | [_], _ => rfl
  have b32 := F32.binds (ps := ["_law_words_here", "_law_size"]) fun _ _ _ _ _ _ us hl => match us, hl with | [_, _], _ => rfl
  have b33 := F33.binds (ps := ["_law_world_here", "_law_talk"]) fun _ _ _ _ _ _ us hl => match us, hl with | [_, _], _ => rfl
  have b34 := F34.binds (ps := ["_law_purse_here", "_law_top"]) fun _ _ _ _ _ _ us hl => match us, hl with | [_, _], _ => rfl
  have b35 := F35.binds (ps := ["_law_told", "_law_thing"]) fun _ _ _ _ _ _ us hl => match us, hl with | [_, _], _ => rfl
  have b36 := F36.binds (ps := ["_law_desk_here", "_law_world_here"]) fun _ _ _ _ _ _ us hl => match us, hl with | [_, _], _ => rfl
  have b37 := F37.binds (ps := ["_law_purse_here", "_law_world_here", "_law_size"]) fun _ _ _ _ _ _ us hl => match us, hl with | [_, _, _], _ => rfl
  have b38 := F38.binds (ps := ["_law_purse_here", "_law_words_here", "_law_most"]) fun _ _ _ _ _ _ us hl => match us, hl with | [_, _, _], _ => rfl
  have b39 := F39.binds (ps := ["_law_purse_here", "_law_most"]) fun _ _ _ _ _ _ us hl => match us, hl with | [_, _], _ => rfl
  have b40 := F40.binds (ps := ["_law_world_here", "_law_talk"]) fun _ _ _ _ _ _ us hl => match us, hl with | [_, _], _ => rfl
  have b41 := F41.binds (ps := ["_law_way", "_law_desk_here", "_law_talk"]) fun _ _ _ _ _ _ us hl => match us, hl with | [_, _, _], _ => rfl
  have b42 := F42.binds (ps := ["_law_world_here", "_law_desk_here", "_law_talk"]) fun _ _ _ _ _ _ us hl => match us, hl with | [_, _, _], _ => rfl
  have b43 := F43.binds (ps := ["_law_purse_here"]) fun _ _ _ _ _ _ us hl => match us, hl with | [_], _ => rfl
  have bM0 := FM0.binds (ps := ["self", "book", "start"]) fun _ _ _ _ _ _ us hl => match us, hl with | [_, _, _], _ => rfl
  have bM1 := FM1.binds (ps := ["self", "other"]) fun _ _ _ _ _ _ us hl => match us, hl with | [_, _], _ => rfl
  have bM2 := FM2.binds (ps := ["self"]) fun _ _ _ _ _ _ us hl => match us, hl with | [_], _ => rfl
  have bM3 := FM3.binds (ps := ["self"]) fun _ _ _ _ _ _ us hl => match us, hl with | [_], _ => rfl
  refine ⟨d44, bind1 F44 fun _ _ _ _ _ _ _ => rfl, fun base _ _ => ?_⟩
  have T2 := T.toFree2
  have T1 := T2.toFree
  have D := R.txt
  have GD : FnOk P w K mg base CX0 2 f20 d20 ["_law_purse_here", "_law_many"] spDraw := ok_draw F20 T1 F19 b19 g19
  have cDraw : CDraw P w K mg base := ⟨⟨f20, d20, g20, F20.kp, GD, b20⟩⟩
  have cPurses : CPurses P w K mg base := ⟨⟨f21, d21, g21, F21.kp, ok_purses F21 T1 F18 b18 g18, b21⟩⟩
  have cOne : COne P w K mg base := ⟨⟨f22, d22, g22, F22.kp, ok_oneof F22 T1 F20.kp GD b20 g20, b22⟩⟩
  have cWord : CWord P w K mg base := ⟨⟨f25, d25, g25, F25.kp, ok_word F25 T1 F20.kp GD b20 g20, b25⟩⟩
  have cShuf : CShuf P w K mg base := ⟨⟨f23, d23, g23, F23.kp, ok_shuf F23 T1 F20.kp GD b20 g20, b23⟩⟩
  have cWords : CWords P w K mg base := ⟨⟨f26, d26, g26, F26.kp, ok_words F26 T2 cDraw cWord, b26⟩⟩
  have cPool : CPool P w K mg base := ⟨⟨f27, d27, g27, F27.kp, ok_pool F27 T2 cDraw cWords cShuf, b27⟩⟩
  have cTurns : CTurns P w K mg base := ⟨⟨f28, d28, g28, F28.kp, ok_turns F28 T2 cDraw cOne cShuf, b28⟩⟩
  have cWorld : CWorld P w K mg base := ⟨⟨f29, d29, g29, F29.kp, ok_world F29 T2 cDraw cWords cShuf cTurns, b29⟩⟩
  have cShape : CShape P w K mg base := ⟨⟨f30, d30, g30, F30.kp, ok_shape F30 T2 cDraw cWords, b30⟩⟩
  have cLong : CLong P w K mg base := ⟨⟨f38, d38, g38, F38.kp, ok_long F38 T2 cDraw cWords cShuf cOne, b38⟩⟩
  have cRow : CRow P w K mg base := ⟨⟨f34, d34, g34, F34.kp, ok_row F34 T2 cDraw cPool cWorld cShape, b34⟩⟩
  have cRich : CRich P w K mg base := ⟨⟨f39, d39, g39, F39.kp, ok_rich F39 T2 cDraw cPool cLong cRow, b39⟩⟩
  have cIsName : CIsName P w K mg base := ⟨⟨f0, d0, g0, F0.kp, ok_isname F0 T, b0⟩⟩
  have cIsNames : CIsNames P w K mg base := ⟨⟨f1, d1, g1, F1.kp, ok_isnames F1 T cIsName, b1⟩⟩
  have cIsState : CIsState P w K mg base := ⟨⟨f3, d3, g3, F3.kp, ok_isstate F3 T, b3⟩⟩
  have cIsRow : CIsRow P w K mg base := ⟨⟨f2, d2, g2, F2.kp, ok_isrow F2 T cIsName, b2⟩⟩
  have cOrdT : COrdT P w K mg base := ⟨⟨f6, d6, g6, F6.kp, ok_ordT F6 T, b6⟩⟩
  have cOrdB : COrdB P w K mg base := ⟨⟨f7, d7, g7, F7.kp, ok_ordB F7 T cOrdT, b7⟩⟩
  have cIsBook : CIsBook P w K mg base := ⟨⟨f5, d5, g5, F5.kp, ok_isbook F5 T cIsName cIsRow, b5⟩⟩
  have MI : CMInit P w K mg base C := ⟨fM0, dM0, ⟨R.mkD, aM0, iM0, R.kp⟩, ok_dinit FM0 D cIsBook cIsState cOrdB, bM0⟩
  have ME : CMEq P w K mg base C := ⟨fM1, dM1, aM1, iM1, ok_deq FM1 T D R.ins, bM1⟩
  have MB : CMBook P w K mg base C := ⟨⟨fM2, dM2, ⟨aM2, iM2, FM2.kp⟩, ok_dbook FM2 D cOrdB, bM2⟩⟩
  have MS : CMStart P w K mg base C := ⟨⟨fM3, dM3, ⟨aM3, iM3, FM3.kp⟩, ok_dstart FM3 D, bM3⟩⟩
  have cNeed : CNeed P w K mg base C := ⟨⟨f8, d8, g8, F8.kp, ok_need F8 T D R.ins, b8⟩⟩
  have cNode : CNode P w K mg base := ⟨⟨f4, d4, g4, F4.kp, ok_node F4, b4⟩⟩
  have cGraph : CGraph P w K mg base C := ⟨⟨f9, d9, g9, F9.kp, ok_graph F9 D MB, b9⟩⟩
  have cIsTalk : CIsTalk P w K mg base := ⟨⟨f10, d10, g10, F10.kp, ok_istalk F10 cIsNames, b10⟩⟩
  have cNeedT : CNeedT P w K mg base := ⟨⟨f11, d11, g11, F11.kp, ok_needt F11 cIsTalk, b11⟩⟩
  have cSB : CSB P w K mg base C := ⟨⟨f13, d13, g13, F13.kp, ok_sb F13 D MS cNeed cNeedT cGraph cNode, b13⟩⟩
  have cDone : CDone P w K mg base C := ⟨⟨f12, d12, g12, F12.kp, ok_done F12 D MB, b12⟩⟩
  have cWhole : CWhole P w K mg base C := ⟨⟨f17, d17, g17, F17.kp, ok_whole F17 cSB cDone, b17⟩⟩
  have cHad : CHad P w K mg base C := ⟨⟨f14, d14, g14, F14.kp, ok_had F14 cSB, b14⟩⟩
  have cTB : CTB P w K mg base C := ⟨⟨f15, d15, g15, F15.kp, ok_tb F15 T D MB cHad, b15⟩⟩
  have cSpoken : CSpoken P w K mg base C := ⟨⟨f16, d16, g16, F16.kp, ok_spoken F16 D MB MS cHad, b16⟩⟩
  have xHad : CalX P w K mg base "state_had" 6 ["desk", "talk"] (spHadX C CI) := ⟨⟨f14, d14, g14, F14.kp, ok_hadX F14 cSB RI.cf.ini RI.bC RI.tC, b14⟩⟩
  have xTB : CalX P w K mg base "turns_behind" 7 ["desk", "talk"] (spHadX C CI) := ⟨⟨f15, d15, g15, F15.kp, ok_tbX F15 xHad, b15⟩⟩
  have xSpoken : CalX P w K mg base "spoken" 7 ["desk", "talk"] (spHadX C CI) := ⟨⟨f16, d16, g16, F16.kp, ok_spokenX F16 xHad, b16⟩⟩
  have cE : ∀ n, CExact P w K mg base n := fun n => ⟨⟨f24, d24, g24, F24.kp, ok_exact F24 T g24 b24 n, b24⟩⟩
  have cLDesk : CLDesk P w K mg base C := ⟨⟨f31, d31, g31, F31.kp, ok_ldesk F31 T D MI, b31⟩⟩
  have cBehind : CBehind P w K mg base := ⟨⟨f33, d33, g33, F33.kp, ok_behind F33, b33⟩⟩
  have cLSpoken : CLSpoken P w K mg base := ⟨⟨f40, d40, g40, F40.kp, ok_lspoken F40, b40⟩⟩
  have cVery : CVery P w K mg base := ⟨⟨f35, d35, g35, F35.kp, ok_very F35 T (cE 1), b35⟩⟩
  have cTalkOf : CTalkOf P w K mg base := ⟨⟨f37, d37, g37, F37.kp, ok_talkof F37 T cOne, b37⟩⟩
  have cTalks : CTalks P w K mg base := ⟨⟨f32, d32, g32, F32.kp, ok_talks F32 T, b32⟩⟩
  have cRefused : CRefused P w K mg base C := ⟨⟨f41, d41, g41, F41.kp, ok_refused F41 T xTB xSpoken cVery RI.cf.gC RI.cf.xf RI.fit, b41⟩⟩
  have cTRight : CTRight P w K mg base C := ⟨⟨f42, d42, g42, F42.kp, ok_tright F42 T cE cBehind cSB cIsTalk cWhole cRefused cTB cSpoken cLSpoken, b42⟩⟩
  have cUnsp : CUnsp P w K mg base C := ⟨⟨f36, d36, g36, F36.kp, ok_unsp F36 T D MB MS cE cLDesk ME, b36⟩⟩
  have cRight : CRight P w K mg base := ⟨⟨f43, d43, g43, F43.kp, ok_right F43 T cDraw cOne cRich cLDesk cTalks cTalkOf cTRight cUnsp cE cBehind cSB cWhole cRefused cTB cSpoken cLSpoken, b43⟩⟩
  exact ok_law F44 cPurses cRight
end
/-- what the head asks -/
theorem law_walk {l : PySem.W.OpenLaw} {q : Program} {loose : List Str} {XP : (Str → Option Value) → Heap → Prop} {YP : World → Heap → Prop} {d : DefRec} {K : Params → PySem.W.Frag} (hn : l.most = some 63) (hdf : d.params.defaults = []) (hY : ∀ (w : World) (h : Heap), YP w h → (K w.params).In h)
    (F : ∀ (w : World) (mg : Str → Option Value) (fa : Addr) (h : Heap), (K w.params).In h → h.Ns mainGlobals mg → mg d.name = some (.ref fa) →
      ∃ fd : FuncData, (∀ (s : Shared) (u : Value), BindsTo s fd ⟨[u], []⟩ [("_law_script", u)]) ∧ ∀ base : Heap, (K w.params).In base → base.Ns mainGlobals mg → FnOk l.prog w (K w.params) mg base CX0 13 fa fd ["_law_script"] (spLaw (K w.params))) :
    PySem.W.WalkO q loose XP YP l.row.toRowW d [] (fun f vs => PySem.call f vs) :=
  L2.walk_of (n := 63) (k := 13) (x := "_law_script") (CX := fun _ => CX0) (sp := fun w => spLaw (K w.params)) hn (by decide) hdf ⟨rfl, by decide, by decide⟩ hY F (fun _ _ a ns hl _ hS => ⟨a, ns, rfl, hS, hl, fun _ => rfl⟩) fun _ _ _ _ _ z => z
end D1
end L2
open PySem PySem.W PyProof.Rows in
set_option maxRecDepth 100000 in
set_option maxHeartbeats 0 in
theorem PySem.Challenge.cw_endswell_k08_whole_talks_of_books_holds : PySem.Challenge.rw_endswell_k08_whole_talks_of_books.Holds :=
  head (by
  k_fill
  refine L2.D1.law_walk (l := PySem.Challenge.rw_endswell_k08_whole_talks_of_books) rfl rfl (fun w h Y => PySem.W.kIn_of Y) ?F
  intro w mg fa h KX G hmg
  have f0 : L2.D1.RowF (L2.KOf KX) mg "is_name" L2.D1.sIsName := by
    dsimp only [L2.KOf]
    refine' L2.D1.rowF KX G ?a ?l ?c ?k
    (case a => k_is)
    (case l => k_is)
    (case c => k_is)
    (case k => k_is)
  have f1 : L2.D1.RowF (L2.KOf KX) mg "is_names" L2.D1.sIsNames := by
    dsimp only [L2.KOf]
    refine' L2.D1.rowF KX G ?a ?l ?c ?k
    (case a => k_is)
    (case l => k_is)
    (case c => k_is)
    (case k => k_is)
  have f2 : L2.D1.RowF (L2.KOf KX) mg "is_row" L2.D1.sIsRow := by
    dsimp only [L2.KOf]
    refine' L2.D1.rowF KX G ?a ?l ?c ?k
    (case a => k_is)
    (case l => k_is)
    (case c => k_is)
    (case k => k_is)
  have f3 : L2.D1.RowF (L2.KOf KX) mg "is_state_of" L2.D1.sIsState := by
    dsimp only [L2.KOf]
    refine' L2.D1.rowF KX G ?a ?l ?c ?k
    (case a => k_is)
    (case l => k_is)
    (case c => k_is)
    (case k => k_is)
  have f4 : L2.D1.RowF (L2.KOf KX) mg "node_behind" L2.D1.sNode := by
    dsimp only [L2.KOf]
    refine' L2.D1.rowF KX G ?a ?l ?c ?k
    (case a => k_is)
    (case l => k_is)
    (case c => k_is)
    (case k => k_is)
  have f5 : L2.D1.RowF (L2.KOf KX) mg "is_book" L2.D1.sIsBook := by
    dsimp only [L2.KOf]
    refine' L2.D1.rowF KX G ?a ?l ?c ?k
    (case a => k_is)
    (case l => k_is)
    (case c => k_is)
    (case k => k_is)
  have f6 : L2.D1.RowF (L2.KOf KX) mg "ordered_turns" L2.D1.sOrdT := by
    dsimp only [L2.KOf]
    refine' L2.D1.rowF KX G ?a ?l ?c ?k
    (case a => k_is)
    (case l => k_is)
    (case c => k_is)
    (case k => k_is)
  have f7 : L2.D1.RowF (L2.KOf KX) mg "ordered_book" L2.D1.sOrdB := by
    dsimp only [L2.KOf]
    refine' L2.D1.rowF KX G ?a ?l ?c ?k
    (case a => k_is)
    (case l => k_is)
    (case c => k_is)
    (case k => k_is)
  have f8 : L2.D1.RowF (L2.KOf KX) mg "need_desk" L2.D1.sNeed := by
    dsimp only [L2.KOf]
    refine' L2.D1.rowF KX G ?a ?l ?c ?k
    (case a => k_is)
    (case l => k_is)
    (case c => k_is)
    (case k => k_is)
  have f9 : L2.D1.RowF (L2.KOf KX) mg "graph_of" L2.D1.sGraph := by
    dsimp only [L2.KOf]
    refine' L2.D1.rowF KX G ?a ?l ?c ?k
    (case a => k_is)
    (case l => k_is)
    (case c => k_is)
    (case k => k_is)
  have f10 : L2.D1.RowF (L2.KOf KX) mg "is_talk" L2.D1.sIsTalk := by
    dsimp only [L2.KOf]
    refine' L2.D1.rowF KX G ?a ?l ?c ?k
    (case a => k_is)
    (case l => k_is)
    (case c => k_is)
    (case k => k_is)
  have f11 : L2.D1.RowF (L2.KOf KX) mg "need_talk" L2.D1.sNeedT := by
    dsimp only [L2.KOf]
    refine' L2.D1.rowF KX G ?a ?l ?c ?k
    (case a => k_is)
    (case l => k_is)
    (case c => k_is)
    (case k => k_is)
  have f12 : L2.D1.RowF (L2.KOf KX) mg "done_states" L2.D1.sDone := by
    dsimp only [L2.KOf]
    refine' L2.D1.rowF KX G ?a ?l ?c ?k
    (case a => k_is)
    (case l => k_is)
    (case c => k_is)
    (case k => k_is)
  have f13 : L2.D1.RowF (L2.KOf KX) mg "state_behind" L2.D1.sSB := by
    dsimp only [L2.KOf]
    refine' L2.D1.rowF KX G ?a ?l ?c ?k
    (case a => k_is)
    (case l => k_is)
    (case c => k_is)
    (case k => k_is)
  have f14 : L2.D1.RowF (L2.KOf KX) mg "state_had" L2.D1.sHad := by
    dsimp only [L2.KOf]
    refine' L2.D1.rowF KX G ?a ?l ?c ?k
    (case a => k_is)
    (case l => k_is)
    (case c => k_is)
    (case k => k_is)
  have f15 : L2.D1.RowF (L2.KOf KX) mg "turns_behind" L2.D1.sTB := by
    dsimp only [L2.KOf]
    refine' L2.D1.rowF KX G ?a ?l ?c ?k
    (case a => k_is)
    (case l => k_is)
    (case c => k_is)
    (case k => k_is)
  have f16 : L2.D1.RowF (L2.KOf KX) mg "spoken" L2.D1.sSpoken := by
    dsimp only [L2.KOf]
    refine' L2.D1.rowF KX G ?a ?l ?c ?k
    (case a => k_is)
    (case l => k_is)
    (case c => k_is)
    (case k => k_is)
  have f17 : L2.D1.RowF (L2.KOf KX) mg "is_whole" L2.D1.sWhole := by
    dsimp only [L2.KOf]
    refine' L2.D1.rowF KX G ?a ?l ?c ?k
    (case a => k_is)
    (case l => k_is)
    (case c => k_is)
    (case k => k_is)
  have f18 : L2.D1.RowF (L2.KOf KX) mg "_law_purse" L2.D1.sPurse := by
    dsimp only [L2.KOf]
    refine' L2.D1.rowF KX G ?a ?l ?c ?k
    (case a => k_is)
    (case l => k_is)
    (case c => k_is)
    (case k => k_is)
  have f19 : L2.D1.RowF (L2.KOf KX) mg "_law_mixed" L2.D1.sMixed := by
    dsimp only [L2.KOf]
    refine' L2.D1.rowF KX G ?a ?l ?c ?k
    (case a => k_is)
    (case l => k_is)
    (case c => k_is)
    (case k => k_is)
  have f20 : L2.D1.RowF (L2.KOf KX) mg "_law_draw" L2.D1.sDraw := by
    dsimp only [L2.KOf]
    refine' L2.D1.rowF KX G ?a ?l ?c ?k
    (case a => k_is)
    (case l => k_is)
    (case c => k_is)
    (case k => k_is)
  have f21 : L2.D1.RowF (L2.KOf KX) mg "_law_purses" L2.D1.sPurses := by
    dsimp only [L2.KOf]
    refine' L2.D1.rowF KX G ?a ?l ?c ?k
    (case a => k_is)
    (case l => k_is)
    (case c => k_is)
    (case k => k_is)
  have f22 : L2.D1.RowF (L2.KOf KX) mg "_law_one_of" L2.D1.sOneOf := by
    dsimp only [L2.KOf]
    refine' L2.D1.rowF KX G ?a ?l ?c ?k
    (case a => k_is)
    (case l => k_is)
    (case c => k_is)
    (case k => k_is)
  have f23 : L2.D1.RowF (L2.KOf KX) mg "_law_shuffled" L2.D1.sShuf := by
    dsimp only [L2.KOf]
    refine' L2.D1.rowF KX G ?a ?l ?c ?k
    (case a => k_is)
    (case l => k_is)
    (case c => k_is)
    (case k => k_is)
  have f24 : L2.D1.RowF (L2.KOf KX) mg "_law_exact" L2.D1.sExact := by
    dsimp only [L2.KOf]
    refine' L2.D1.rowF KX G ?a ?l ?c ?k
    (case a => k_is)
    (case l => k_is)
    (case c => k_is)
    (case k => k_is)
  have f25 : L2.D1.RowF (L2.KOf KX) mg "_law_word" L2.D1.sWord := by
    dsimp only [L2.KOf]
    refine' L2.D1.rowF KX G ?a ?l ?c ?k
    (case a => k_is)
    (case l => k_is)
    (case c => k_is)
    (case k => k_is)
  have f26 : L2.D1.RowF (L2.KOf KX) mg "_law_words" L2.D1.sWords := by
    dsimp only [L2.KOf]
    refine' L2.D1.rowF KX G ?a ?l ?c ?k
    (case a => k_is)
    (case l => k_is)
    (case c => k_is)
    (case k => k_is)
  have f27 : L2.D1.RowF (L2.KOf KX) mg "_law_pool" L2.D1.sPool := by
    dsimp only [L2.KOf]
    refine' L2.D1.rowF KX G ?a ?l ?c ?k
    (case a => k_is)
    (case l => k_is)
    (case c => k_is)
    (case k => k_is)
  have f28 : L2.D1.RowF (L2.KOf KX) mg "_law_turns" L2.D1.sTurns := by
    dsimp only [L2.KOf]
    refine' L2.D1.rowF KX G ?a ?l ?c ?k
    (case a => k_is)
    (case l => k_is)
    (case c => k_is)
    (case k => k_is)
  have f29 : L2.D1.RowF (L2.KOf KX) mg "_law_world" L2.D1.sWorld := by
    dsimp only [L2.KOf]
    refine' L2.D1.rowF KX G ?a ?l ?c ?k
    (case a => k_is)
    (case l => k_is)
    (case c => k_is)
    (case k => k_is)
  have f30 : L2.D1.RowF (L2.KOf KX) mg "_law_shape" L2.D1.sShape := by
    dsimp only [L2.KOf]
    refine' L2.D1.rowF KX G ?a ?l ?c ?k
    (case a => k_is)
    (case l => k_is)
    (case c => k_is)
    (case k => k_is)
  have f31 : L2.D1.RowF (L2.KOf KX) mg "_law_desk" L2.D1.sLDesk := by
    dsimp only [L2.KOf]
    refine' L2.D1.rowF KX G ?a ?l ?c ?k
    (case a => k_is)
    (case l => k_is)
    (case c => k_is)
    (case k => k_is)
  have f32 : L2.D1.RowF (L2.KOf KX) mg "_law_talks" L2.D1.sTalks := by
    dsimp only [L2.KOf]
    refine' L2.D1.rowF KX G ?a ?l ?c ?k
    (case a => k_is)
    (case l => k_is)
    (case c => k_is)
    (case k => k_is)
  have f33 : L2.D1.RowF (L2.KOf KX) mg "_law_behind" L2.D1.sBehind := by
    dsimp only [L2.KOf]
    refine' L2.D1.rowF KX G ?a ?l ?c ?k
    (case a => k_is)
    (case l => k_is)
    (case c => k_is)
    (case k => k_is)
  have f34 : L2.D1.RowF (L2.KOf KX) mg "_law_row_of" L2.D1.sRowOf := by
    dsimp only [L2.KOf]
    refine' L2.D1.rowF KX G ?a ?l ?c ?k
    (case a => k_is)
    (case l => k_is)
    (case c => k_is)
    (case k => k_is)
  have f35 : L2.D1.RowF (L2.KOf KX) mg "_law_is_very" L2.D1.sVery := by
    dsimp only [L2.KOf]
    refine' L2.D1.rowF KX G ?a ?l ?c ?k
    (case a => k_is)
    (case l => k_is)
    (case c => k_is)
    (case k => k_is)
  have f36 : L2.D1.RowF (L2.KOf KX) mg "_law_unspoilt" L2.D1.sUnsp := by
    dsimp only [L2.KOf]
    refine' L2.D1.rowF KX G ?a ?l ?c ?k
    (case a => k_is)
    (case l => k_is)
    (case c => k_is)
    (case k => k_is)
  have f37 : L2.D1.RowF (L2.KOf KX) mg "_law_talk_of" L2.D1.sTalkOf := by
    dsimp only [L2.KOf]
    refine' L2.D1.rowF KX G ?a ?l ?c ?k
    (case a => k_is)
    (case l => k_is)
    (case c => k_is)
    (case k => k_is)
  have f38 : L2.D1.RowF (L2.KOf KX) mg "_law_long" L2.D1.sLong := by
    dsimp only [L2.KOf]
    refine' L2.D1.rowF KX G ?a ?l ?c ?k
    (case a => k_is)
    (case l => k_is)
    (case c => k_is)
    (case k => k_is)
  have f39 : L2.D1.RowF (L2.KOf KX) mg "_law_rich" L2.D1.sRich := by
    dsimp only [L2.KOf]
    refine' L2.D1.rowF KX G ?a ?l ?c ?k
    (case a => k_is)
    (case l => k_is)
    (case c => k_is)
    (case k => k_is)
  have f40 : L2.D1.RowF (L2.KOf KX) mg "_law_spoken" L2.D1.sLSpoken := by
    dsimp only [L2.KOf]
    refine' L2.D1.rowF KX G ?a ?l ?c ?k
    (case a => k_is)
    (case l => k_is)
    (case c => k_is)
    (case k => k_is)
  have f41 : L2.D1.RowF (L2.KOf KX) mg "_law_refused" L2.D1.sRefused := by
    dsimp only [L2.KOf]
    refine' L2.D1.rowF KX G ?a ?l ?c ?k
    (case a => k_is)
    (case l => k_is)
    (case c => k_is)
    (case k => k_is)
  have f42 : L2.D1.RowF (L2.KOf KX) mg "_law_talk_right" L2.D1.sTRight := by
    dsimp only [L2.KOf]
    refine' L2.D1.rowF KX G ?a ?l ?c ?k
    (case a => k_is)
    (case l => k_is)
    (case c => k_is)
    (case k => k_is)
  have f43 : L2.D1.RowF (L2.KOf KX) mg "_law_right" L2.D1.sRight := by
    dsimp only [L2.KOf]
    refine' L2.D1.rowF KX G ?a ?l ?c ?k
    (case a => k_is)
    (case l => k_is)
    (case c => k_is)
    (case k => k_is)
  have f44 : L2.D1.RowF (L2.KOf KX) mg "law" L2.D1.sLaw := by
    dsimp only [L2.KOf]
    refine' L2.D1.rowF KX G ?a ?l ?c ?k
    (case a => k_is)
    (case l => k_is)
    (case c => k_is)
    (case k => k_is)
  have tr : ∃ CI, L2.D1.TalkRow (L2.KOf KX) mg CI := by
    dsimp only [L2.KOf]
    refine' L2.D1.talkRow (p1 := ⟨40, 17, 40, 21⟩) (p2 := ⟨40, 23, 40, 28⟩) (p3 := ⟨40, 29, 40, 33⟩) (q1 := ⟨41, 8, 41, 12⟩) (q2 := ⟨41, 8, 41, 18⟩) (q3 := ⟨41, 21, 41, 26⟩) (q4 := ⟨41, 8, 41, 26⟩) KX G ?gs ?ss ?aC ?l ?sa ?exC ?tyC ?kC ?nV ?ga ?gg ?hd ?ca ?mo ?iC ?tI ?lI ?cI ?kI ?lT
    (case gs => k_is)
    (case ss => k_is)
    (case aC => k_is)
    (case l => k_is)
    (case sa => k_is)
    (case exC => k_is)
    (case tyC => k_is)
    (case kC => k_is)
    (case nV => k_is)
    (case ga => k_is)
    (case gg => k_is)
    (case hd => k_is)
    (case ca => k_is)
    (case mo => k_is)
    (case iC => k_is)
    (case tI => k_is)
    (case lI => k_is)
    (case cI => k_is)
    (case kI => k_is)
    (case lT => k_is)
  have dr : ∃ C, L2.D1.DeskRow (L2.KOf KX) mg C := by
    dsimp only [L2.KOf]
    refine' L2.D1.deskRow KX G ?aC ?pg ?hd ?po ?sa ?nB ?nS ?ca ?gs ?ss ?mo ?mk ?kp ?m0 ?m1 ?m2 ?m3
    (case aC => k_is)
    (case pg => k_is)
    (case hd => k_is)
    (case po => k_is)
    (case sa => k_is)
    (case nB => k_is)
    (case nS => k_is)
    (case ca => k_is)
    (case gs => k_is)
    (case ss => k_is)
    (case mo => k_is)
    (case mk => k_is)
    (case kp => k_is)
    (case m0 => refine' L2.D1.rowM KX ?a ?i ?l ?c ?k; (case a => k_is); (case i => k_is); (case l => k_is); (case c => k_is); (case k => k_is))
    (case m1 => refine' L2.D1.rowM KX ?a ?i ?l ?c ?k; (case a => k_is); (case i => k_is); (case l => k_is); (case c => k_is); (case k => k_is))
    (case m2 => refine' L2.D1.rowM KX ?a ?i ?l ?c ?k; (case a => k_is); (case i => k_is); (case l => k_is); (case c => k_is); (case k => k_is))
    (case m3 => refine' L2.D1.rowM KX ?a ?i ?l ?c ?k; (case a => k_is); (case i => k_is); (case l => k_is); (case c => k_is); (case k => k_is))
  have T : L2.D1.Free3 mg := ⟨⟨⟨PySem.W.mg_none_of KX G (by k_is), PySem.W.mg_none_of KX G (by k_is), PySem.W.mg_none_of KX G (by k_is), PySem.W.mg_none_of KX G (by k_is), PySem.W.mg_none_of KX G (by k_is), PySem.W.mg_none_of KX G (by k_is), PySem.W.mg_none_of KX G (by k_is), PySem.W.mg_none_of KX G (by k_is), PySem.W.mg_none_of KX G (by k_is)⟩, PySem.W.mg_none_of KX G (by k_is), PySem.W.mg_none_of KX G (by k_is), PySem.W.mg_none_of KX G (by k_is), PySem.W.mg_none_of KX G (by k_is), PySem.W.mg_none_of KX G (by k_is), PySem.W.mg_none_of KX G (by k_is), PySem.W.mg_none_of KX G (by k_is)⟩, ⟨_, PySem.W.mg_of KX G (by k_is)⟩, ⟨_, PySem.W.mg_of KX G (by k_is)⟩⟩
  exact L2.D1.law_of hmg T dr tr f0 f1 f2 f3 f4 f5 f6 f7 f8 f9 f10 f11 f12 f13 f14 f15 f16 f17 f18 f19 f20 f21 f22 f23 f24 f25 f26 f27 f28 f29 f30 f31 f32 f33 f34 f35 f36 f37 f38 f39 f40 f41 f42 f43 f44)
