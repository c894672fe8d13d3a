import PyProof.Rows.All
import Wide.All
import OpenK.AllK
import Wide.FinOn
import HandS.ForMost
import HandS.Wide
import HandS.WideBits
import HandS.WideMore
import HandS.More
import HandS.DictComp
import HandS.Walk
import HandS.Conv
import HandS.Flow
import HandS.TryOnly
import HandS.IsInst
import HandS.Zip
import HandS.Codes
import HandS.OwnEq
import KE.KEqNest
import HandS.Style
import HandS.Set
import HandS.SetTxt0
import HandS.SortOrd
import HandS.Keys
import KE.KSortAsk
import HandS.SetBool
import HandS.Comp
import KE.GoesSet
import HandS.Strs
import HandS.Sort
import HandS.ListItems
import HandS.Finally
import HandS.Defaults
import HandS.ExcInit
import HandS.ExcValue
import HandS.MakeKw
import HandS.WordsExc
import PySem.Challenge.RW_endswell_k05_whole_trimmed_turned_rename
set_option Elab.async false
set_option linter.all false
set_option maxRecDepth 100000
set_option exponentiation.threshold 4000
section
open PySem PySem.W PyProof.Rows
set_option maxHeartbeats 0
open_top head for PySem.Challenge.rw_endswell_k05_whole_trimmed_turned_rename
end
set_option maxHeartbeats 8100000
/-! the law's draws: a purse, mixed, draw -/
namespace L2
namespace D1
open PySem PySem.Spec PyProof.Rows
def top (i : Nat) : Stmt := PySem.Challenge.pw_endswell_k05_whole_trimmed_turned_rename.main.body.getD i (.Pass ⟨0, 0, 0, 0⟩)
abbrev sPurse : Stmt := top 35
abbrev sMixed : Stmt := top 36
abbrev sDraw : Stmt := top 37
abbrev sPurses : Stmt := top 38
abbrev sOneOf : Stmt := top 39
abbrev sWord : Stmt := top 42
/-- the built-ins' names are free -/
structure Free (mg : Str → Option Value) : Prop where
  sum : mg "sum" = none
  int : mg "int" = none
  max : mg "max" = none
  min : mg "min" = none
  len : mg "len" = none
  range : mg "range" = none
  repr : mg "repr" = none
  isi : mg "isinstance" = none
  all : mg "all" = none
/-- a purse: what is left of a great number, a seed, turns taken, its place -/
def Purse (H : Hp) (p : Addr) (t : Int) : Prop := ∃ g b z : Int, H p = some (.lst [.int g, .int b, .int t, .int z]) ∧ 0 ≤ g ∧ g < 10 ^ 480 ∧ 0 ≤ b ∧ b < 2147483629 ∧ 0 ≤ z ∧ z < 64 ∧ 0 ≤ t
theorem Purse.same {H H' : Hp} {p : Addr} {t : Int} (h : Purse H p t) (s : Same H H') : Purse H' p t := by
  obtain ⟨g, b, z, e, r⟩ := h; exact ⟨g, b, z, s _ _ e, r⟩
def spPurse (K : PySem.W.Frag) : Sp := fun vs H Q _ => ∃ (a : Addr) (ns : List Int) (z : Int), vs = [.ref a, .int z] ∧ SqL K H a (ns.map V.int) ∧ 0 ≤ z ∧ z < 64 ∧ ∀ H' p, Same H H' → H p = none → Purse H' p 0 → Q (.ref p) H'
def spMixed : Sp := fun vs H Q _ => ∃ (s t z : Int), vs = [.int s, .int t, .int z] ∧ 0 ≤ t ∧ t < 2 ^ 40 ∧ ∀ r : Int, 0 ≤ r → r < 2 ^ 31 → Q (.int r) H
def spDraw : Sp := fun vs H Q _ => ∃ (p : Addr) (m t : Int), vs = [.ref p, .int m] ∧ Purse H p t ∧ 1 ≤ m ∧ m < 2 ^ 27 ∧ t < 2 ^ 30 ∧ ∀ (r t' : Int) (o : HO), 0 ≤ r → r < m → t' ≤ t + 1 → Purse (upd H p o) p t' → Q (.int r) (upd H p o)
theorem op_powW {X : Cx} : OpR X (binaryOp .Pow) (rI (fun i j => 0 ≤ j ∧ (Builtin.Int.intBits i : Int) * j ≤ 2 ^ 27) fun i j => .int (i ^ j.toNat)) := opI fun _ _ _ _ _ _ _ hc q => pow_int hc.1 hc.2 q
theorem cut_ints (ns : List Int) (lo hi : Option Int) : ∃ ms : List Int, cutV (ns.map V.int) lo hi = ms.map V.int :=
  ⟨(ns.drop (HT.sIx ns.length 0 lo)).take (HT.sIx ns.length ns.length hi - HT.sIx ns.length 0 lo), by simp [cutV, List.map_drop, List.map_take]⟩
section
variable {P : Program} {w : World} {K : PySem.W.Frag} {mg : Str → Option Value} {base : Heap}
theorem scP : FnScope ["_law_script", "_law_at", "_law_seed"] ["_law_script", "_law_at"] (defScope sPurse) := ⟨rfl, rfl, rfl, by decide +kernel, rfl, by decide +kernel, by decide +kernel⟩
theorem ok_purse {f : Addr} {fd : FuncData} (F : Fun K "_law_purse" "_law_purse" sPurse f fd) (T : Free mg) : FnOk P w K mg base CX0 1 f fd ["_law_script", "_law_at"] (spPurse K) := by
  refine F.ok scP (fun vs H Q E h => ?_) (fun cdv A outer s H vs Q E hr h => ?_)
  · obtain ⟨a, ns, z, rfl, _⟩ := h; rfl
  · obtain ⟨a, ns, z, rfl, hS, z0, z1, k⟩ := h
    refine ⟨_, pss_cons (ps_set (i := 2) scP.nd rfl (Or.inl rfl) (pe_callB (cr_sum rfl) (by rfl) T.sum (by decide +kernel) (pa_cons (pe_slice sl_list (pv 0) (po_some (pv 1)) (po_some (pe_op op_add (pv 1) pe_int))) pa_nil)))
      (pss_one (ps_ret (pe_lst (pa_cons (pe_op op_mod (pe_callTy call_int1 (by rfl) T.int (by decide +kernel) (pa_cons (pe_callB (call_max2 rfl) (by rfl) T.max (by decide +kernel) (pa_cons (pe_op op_sub (pv 2) (pe_op op_pow pe_int pe_int)) (pa_cons pe_int pa_nil))) pa_nil)) (pe_op op_powW (pe_op op_pow pe_int pe_int) pe_int))
        (pa_cons (pe_op op_mod (pe_callTy call_int1 (by rfl) T.int (by decide +kernel) (pa_cons (pv 2) pa_nil)) pe_int) (pa_cons pe_int (pa_cons (pv 1) pa_nil))))))), ?_⟩
    obtain ⟨ms, em⟩ := cut_ints ns (some z) (some (z + 1))
    refine ⟨_, rfl, _, rfl, _, rfl, _, rfl, _, _, rfl, rfl, _, rfl, a, _, rfl, hS, fun q hq => ?_⟩
    refine ⟨q, ms, rfl, SqL.of (by rw [upd_same, em]), ?_⟩
    refine ⟨_, rfl, _, _, rfl, rfl, ⟨by decide, by decide, by decide⟩, _, _, rfl, rfl, _, _, rfl, .inl ⟨_, rfl, ?_⟩⟩
    refine ⟨_, _, rfl, rfl, ⟨by decide, by decide, by decide⟩, _, _, rfl, rfl, ⟨by decide, by decide +kernel⟩, _, _, rfl, rfl, (by show (0 : Int) < (10 ^ Int.toNat 60) ^ Int.toNat 8; decide +kernel), ?_⟩
    refine ⟨_, rfl, .inl ⟨_, rfl, _, _, rfl, rfl, (by show (0 : Int) < 2147483629; decide), _, rfl, by show 4 ≤ sizeLine; decide, fun p hp => ?_⟩⟩
    have hpq : p ≠ q := fun e => by rw [e, upd_same] at hp; cases hp
    have hp0 : H p = none := by rw [upd_ne hpq] at hp; exact hp
    refine k _ p (fun b o e => ?_) hp0 ⟨_, _, _, upd_same, ?_⟩
    · rw [upd_ne (ne_of_none e hp0), upd_ne (ne_of_none e hq)]; exact e
    · exact ⟨Int.emod_nonneg _ (by decide +kernel), Int.emod_lt_of_pos _ (by decide +kernel), Int.emod_nonneg _ (by decide), Int.emod_lt_of_pos _ (by decide), z0, z1, Int.le_refl _⟩
theorem scM : FnScope ["_law_seed", "_law_turn", "_law_at", "_law_mixed_here"] ["_law_seed", "_law_turn", "_law_at"] (defScope sMixed) := ⟨rfl, rfl, rfl, by decide +kernel, rfl, by decide +kernel, by decide +kernel⟩
theorem ok_mixed {f : Addr} {fd : FuncData} (F : Fun K "_law_mixed" "_law_mixed" sMixed f fd) (T : Free mg) : FnOk P w K mg base CX0 1 f fd ["_law_seed", "_law_turn", "_law_at"] spMixed := by
  refine F.ok scM (fun vs H Q E h => ?_) (fun cdv A outer s H vs Q E hr h => ?_)
  · obtain ⟨a, t, z, rfl, _⟩ := h; rfl
  · obtain ⟨a, t, z, rfl, t0, t1, k⟩ := h
    refine ⟨_, pss_cons (ps_set (i := 3) scM.nd rfl (Or.inl rfl) (pe_op op_add (pe_op op_mul (pv 0) pe_int) (pe_op op_mul (pe_op op_mul pe_int (pv 1)) (pv 1))))
      (pss_cons (ps_set (i := 3) scM.nd rfl (Or.inl rfl) (pe_op op_mod (pe_callTy call_int1 (by rfl) T.int (by decide +kernel) (pa_cons (pe_op op_add (pe_op op_add (pv 3) (pe_op op_mul pe_int (pv 2))) (pv 1)) pa_nil)) pe_int))
      (pss_cons (ps_set (i := 3) scM.nd rfl (Or.inl rfl) (pe_op op_mod (pe_callTy call_int1 (by rfl) T.int (by decide +kernel) (pa_cons (pe_op op_add (pe_op op_mul (pv 3) (pv 3)) pe_int) pa_nil)) pe_int))
      (pss_one (ps_ret (pe_op op_mod (pe_callTy call_int1 (by rfl) T.int (by decide +kernel) (pa_cons (pe_op op_mul (pv 3) pe_int) pa_nil)) pe_int))))), ?_⟩
    refine ⟨_, rfl, _, _, rfl, rfl, .inr ⟨by decide, by decide⟩, _, rfl, _, _, rfl, rfl, .inl ⟨by decide, by decide⟩, _, rfl, _, _, rfl, rfl, .inr ⟨by omega, by omega⟩, _, _, rfl, rfl, ?_⟩
    refine ⟨_, rfl, _, rfl, _, _, rfl, rfl, .inl ⟨by decide, by decide⟩, _, _, rfl, rfl, _, rfl, _, _, rfl, rfl, .inl ⟨_, rfl, _, _, rfl, rfl, (by show (0 : Int) < 2147483647; decide), ?_⟩⟩
    generalize hm : (a * 69069 + 104729 * t * t + 7919 * z + t) % 2147483647 = m
    have m0 : 0 ≤ m := by rw [← hm]; exact Int.emod_nonneg _ (by decide)
    have m1 : m < 2147483647 := by rw [← hm]; exact Int.emod_lt_of_pos _ (by decide)
    refine ⟨_, rfl, _, rfl, _, _, rfl, rfl, .inl ⟨by omega, by omega⟩, _, _, rfl, rfl, .inl ⟨_, rfl, _, _, rfl, rfl, (by show (0 : Int) < 2147483629; decide), ?_⟩⟩
    refine ⟨_, rfl, _, _, rfl, rfl, .inr ⟨by decide, by decide⟩, .inl ⟨_, rfl, _, _, rfl, rfl, (by show (0 : Int) < 2147483587; decide), ?_⟩⟩
    exact k _ (Int.emod_nonneg _ (by decide)) (Int.lt_trans (Int.emod_lt_of_pos _ (by decide)) (by decide))
theorem scD : FnScope ["_law_purse_here", "_law_many", "_law_drawn", "_law_found", "_law_piece"] ["_law_purse_here", "_law_many"] (defScope sDraw) := ⟨rfl, rfl, rfl, by decide +kernel, rfl, by decide +kernel, by decide +kernel⟩
theorem bits27 {m : Int} (h1 : 1 ≤ m) (h2 : m < 2 ^ 27) : ((Builtin.Int.intBits m : Nat) : Int) / 28 = 0 := by
  have h : Builtin.Int.intBits m ≤ 27 := PyProof.Rows.intBits_le (by omega)
  omega
theorem ok_draw {f fM : Addr} {fd fdM : FuncData} (F : Fun K "_law_draw" "_law_draw" sDraw f fd) (T : Free mg) (FM : Fun K "_law_mixed" "_law_mixed" sMixed fM fdM) (bM : Binds K fdM ["_law_seed", "_law_turn", "_law_at"] []) (gM : mg "_law_mixed" = some (.ref fM)) :
    FnOk P w K mg base CX0 2 f fd ["_law_purse_here", "_law_many"] spDraw := by
  have GM : FnOk P w K mg base CX0 1 fM fdM ["_law_seed", "_law_turn", "_law_at"] spMixed := ok_mixed FM T
  refine F.ok scD (fun vs H Q E h => ?_) (fun cdv A outer s H vs Q E hr h => ?_)
  · obtain ⟨p, m, t, rfl, _⟩ := h; rfl
  · obtain ⟨p, m, t, rfl, hp, m1, m2, t1, k⟩ := h
    refine ⟨_, pss_cons (ps_if (pt_cmpR op_gt (pe_ix ix_list (pv 0) pe_int (fun _ _ => rfl)) pe_int (nomark _))
        (pss_cons (ps_set (i := 2) scD.nd rfl (Or.inl rfl) (pe_op op_mod (pe_callTy call_int1 (by rfl) T.int (by decide +kernel) (pa_cons (pe_ix ix_list (pv 0) pe_int (fun _ _ => rfl)) pa_nil)) (pv 1)))
          (pss_cons (ps_asg (pe_op op_fdivW (pe_ix ix_list (pv 0) pe_int (fun _ _ => rfl)) (pv 1)) (pg_sub (pv 0) pe_int set_list)) (pss_one (ps_ret (pv 2))))) pss_nil)
      (pss_cons (ps_set (i := 3) scD.nd rfl (Or.inl rfl) pe_int)
      (pss_cons (ps_for PassesOwn.never rfl (pi_range1 rfl T.range (pa_cons (pe_op op_add pe_int (pe_op op_fdiv (pe_bits (pv 1)) pe_int)) pa_nil)) (pg_name (i := 4) scD.nd rfl (Or.inl rfl))
        (pss_cons (ps_asg (pe_op op_add (pe_ix ix_list (pv 0) pe_int (fun _ _ => rfl)) pe_int) (pg_sub (pv 0) pe_int set_list))
          (pss_one (ps_set (i := 3) scD.nd rfl (Or.inl rfl) (pe_op op_add (pe_op op_mul (pv 3) pe_int) (pe_call GM (hr.mono (by decide)) rfl gM FM.kp bM .nil pass0 (pa_cons (pe_ix ix_list (pv 0) pe_int (fun _ _ => rfl)) (pa_cons (pe_ix ix_list (pv 0) pe_int (fun _ _ => rfl)) (pa_cons (pe_ix ix_list (pv 0) pe_int (fun _ _ => rfl)) pa_nil)))))))))
      (pss_one (ps_ret (pe_op op_mod (pe_callTy call_int1 (by rfl) T.int (by decide +kernel) (pa_cons (pv 3) pa_nil)) (pv 1)))))), ?_⟩
    obtain ⟨g, b, z, hl, g0, g1, b0, b1, z0, z1, t0⟩ := hp
    refine ⟨_, rfl, p, _, 0, _, rfl, rfl, SqL.of hl, rfl, _, _, rfl, rfl, _, rfl, ?_⟩
    refine ite2 (fun c => ?_) (fun _ => ?_)
    · refine ⟨_, rfl, p, _, 0, _, rfl, rfl, SqL.of hl, rfl, .inl ⟨_, rfl, _, rfl, _, _, rfl, rfl, (by show (0 : Int) < m; omega), ?_⟩⟩
      refine ⟨_, rfl, p, _, 0, _, rfl, rfl, SqL.of hl, rfl, _, rfl, _, _, rfl, rfl, wide_div (b := 27) (by omega) (by omega) (by decide) (by decide), ?_⟩
      · refine ⟨_, rfl, p, _, 0, 0, rfl, rfl, hl, rfl, _, rfl, ?_⟩
        exact k _ t _ (Int.emod_nonneg _ (by omega)) (Int.emod_lt_of_pos _ (by omega)) (by omega) ⟨_, _, _, upd_same, Int.ediv_nonneg g0 (by omega), Int.lt_of_le_of_lt (Int.ediv_le_self _ g0) g1, b0, b1, z0, z1, t0⟩
    · have e1 := bits27 m1 m2
      refine ⟨_, rfl, m, rfl, _, _, rfl, rfl, ⟨by decide, by decide⟩, _, _, rfl, rfl, _, rfl, by rw [e1]; decide, by rw [e1]; decide, ?_⟩
      rw [e1]
      refine for_range (n := 1) (fun i σ H' => ∃ (fnd : Int) (v : Option V), σ = [some (.ref p), some (.int m), none, some (.int fnd), v] ∧ (i = 0 → H' = H) ∧ (0 < i → H' = upd H p (.lst [.int g, .int b, .int (t + 1), .int z]))) ⟨0, none, rfl, fun _ => rfl, fun c => absurd c (by decide)⟩ ?_ ?_
      · rintro i σ H' hi ⟨fnd, v, rfl, e0, _⟩
        obtain rfl : i = 0 := by omega
        obtain rfl := e0 rfl
        refine ⟨_, rfl, p, _, 2, _, rfl, rfl, SqL.of hl, rfl, _, _, rfl, rfl, _, rfl, p, _, 2, 2, rfl, rfl, hl, rfl, ?_⟩
        refine ⟨_, rfl, _, _, rfl, rfl, .inr ⟨by decide, by decide⟩, _, rfl, p, _, 1, _, rfl, rfl, SqL.of upd_same, rfl, _, rfl, p, _, 2, _, rfl, rfl, SqL.of upd_same, rfl, _, rfl, p, _, 3, _, rfl, rfl, SqL.of upd_same, rfl, ?_⟩
        refine ⟨_, _, _, rfl, by omega, by omega, fun r r0 r1 => ⟨_, _, rfl, rfl, _, _, rfl, fun c => absurd c (by decide), fun _ => rfl⟩⟩
      · rintro σ H' ⟨fnd, v, rfl, _, e2⟩
        obtain rfl := e2 (by decide)
        refine ⟨_, rfl, .inl ⟨_, rfl, _, rfl, _, _, rfl, rfl, (by show (0 : Int) < m; omega), ?_⟩⟩
        exact k _ (t + 1) _ (Int.emod_nonneg _ (by omega)) (Int.emod_lt_of_pos _ (by omega)) (Int.le_refl _) ⟨_, _, _, upd_same, g0, g1, b0, b1, z0, z1, by omega⟩
end
end D1
end L2
namespace L2
namespace D1
open PySem PySem.Spec PyProof.Rows
theorem Purse.upd {H : Hp} {p q : Addr} {t : Int} {o : HO} (h : Purse H p t) (n : p ≠ q) : Purse (upd H q o) p t := by
  obtain ⟨g, b, z, e, r⟩ := h; exact ⟨g, b, z, by rw [upd_ne n]; exact e, r⟩
theorem Purse.some {H : Hp} {p : Addr} {t : Int} (h : Purse H p t) : ∃ o, H p = some o := by
  obtain ⟨g, b, z, e, _⟩ := h; exact ⟨_, e⟩
/-- all that was tracked is as it was, but at p -/
def But (p : Addr) (H H' : Hp) : Prop := ∀ b o, b ≠ p → H b = some o → H' b = some o
theorem But.refl (p : Addr) (H : Hp) : But p H H := fun _ _ _ h => h
theorem But.upd (p : Addr) (H : Hp) (o : HO) : But p H (upd H p o) := fun b u n h => by rw [upd_ne n]; exact h
theorem But.trans {p : Addr} {H H1 H2 : Hp} (a : But p H H1) (b : But p H1 H2) : But p H H2 := fun c o n h => b c o n (a c o n h)
theorem But.of {p : Addr} {H H' : Hp} (s : Same H H') : But p H H' := fun b o _ h => s b o h
theorem Same.new {H : Hp} {a : Addr} {o : HO} (n : H a = none) : Same H (L2.upd H a o) := fun b u e => by rw [upd_ne (ne_of_none e n)]; exact e
def spPurses (K : PySem.W.Frag) : Sp := fun vs H Q _ => ∃ (a : Addr) (ns : List Int) (few : Int), vs = [.ref a, .int few] ∧ SqL K H a (ns.map V.int) ∧ ns.length ≤ 63 ∧ 1 ≤ few ∧ few ≤ 60 ∧
  ∀ (H' : Hp) (L : Addr) (ps : List Addr), Same H H' → H L = none → H' L = some (.lst (ps.map V.ref)) → (∀ p ∈ ps, H p = none ∧ Purse H' p 0) → ps.Nodup → L ∉ ps → ps.length ≤ 63 → Q (.ref L) H'
def spOneOf : Sp := fun vs H Q _ => ∃ (p L : Addr) (xs : List V) (t : Int), vs = [.ref p, .ref L] ∧ Purse H p t ∧ H L = some (.lst xs) ∧ L ≠ p ∧ 1 ≤ xs.length ∧ xs.length < 2 ^ 20 ∧ t < 2 ^ 30 ∧
  ∀ (i : Nat) (v : V) (t' : Int) (o : HO), xs[i]? = some v → t' ≤ t + 1 → Purse (L2.upd H p o) p t' → Q v (L2.upd H p o)
def spWord : Sp := fun vs H Q _ => ∃ (p : Addr) (t : Int), vs = [.ref p] ∧ Purse H p t ∧ t < 2 ^ 29 ∧
  ∀ (x : Str) (H' : Hp) (t' : Int), 1 ≤ x.length → x.length ≤ 8 → (∀ c ∈ x.cps.toList, 97 ≤ c ∧ c ≤ 122) → But p H H' → Purse H' p t' → t' ≤ t + 10 → Q (.str x) H'
section
variable {P : Program} {w : World} {K : PySem.W.Frag} {mg : Str → Option Value} {base : Heap}
theorem scPs : FnScope ["_law_script", "_law_few", "_law_at"] ["_law_script", "_law_few"] (defScope sPurses) := ⟨rfl, rfl, rfl, by decide +kernel, rfl, by decide +kernel, by decide +kernel⟩
theorem ok_purses {f fP : Addr} {fd fdP : FuncData} (F : Fun K "_law_purses" "_law_purses" sPurses f fd) (T : Free mg) (FP : Fun K "_law_purse" "_law_purse" sPurse fP fdP) (bP : Binds K fdP ["_law_script", "_law_at"] []) (gP : mg "_law_purse" = some (.ref fP)) :
    FnOk P w K mg base CX0 2 f fd ["_law_script", "_law_few"] (spPurses K) := by
  have GP : FnOk P w K mg base CX0 1 fP fdP ["_law_script", "_law_at"] (spPurse K) := ok_purse FP T
  refine F.ok scPs (fun vs H Q E h => ?_) (fun cdv A outer s H vs Q E hr h => ?_)
  · obtain ⟨a, ns, few, rfl, _⟩ := h; rfl
  · obtain ⟨a, ns, few, rfl, hS, l63, f1, f2, k⟩ := h
    refine ⟨_, pss_one (ps_ret (pe_lc (own := [("_law_at", 2)]) (g := gName 2) (tt := tYes) rfl scPs.nd
      (pi_range1 rfl T.range (pa_cons (pe_callB (call_max2 rfl) (by rfl) T.max (by decide +kernel) (pa_cons pe_int (pa_cons (pe_callB (call_min2 rfl) (by rfl) T.min (by decide +kernel) (pa_cons (pv 1) (pa_cons (pe_callB call_len_seq (by rfl) T.len PySem.boot_len (pa_cons (pv 0) pa_nil)) pa_nil))) pa_nil))) pa_nil))
      (blkOk_by (N := ["_law_script", "_law_few", "_law_at"]) (sc := defScope sPurses) (by decide +kernel)) (fun _ _ _ _ _ => pg_name (i := 2) scPs.nd rfl (Or.inl rfl)) (fun _ _ _ _ _ => pts_nil)
      (fun _ _ _ _ _ => pe_call GP (hr.mono (by decide)) rfl gP FP.kp bP .nil pass0 (pa_cons (pv 0) (pa_cons (pv 2) pa_nil))))), ?_⟩
    refine ⟨_, rfl, _, rfl, a, _, rfl, .inl hS, few, _, rfl, ?_⟩
    rw [List.length_map]
    generalize hm : (if (ns.length : Int) < few then (ns.length : Int) else few) = m
    have m0 : 0 ≤ m ∧ m ≤ 60 := by rw [← hm]; split <;> omega
    refine ⟨1, m, rfl, ?_⟩
    generalize hj : (if m > 1 then m else (1 : Int)) = j
    have j0 : 1 ≤ j ∧ j ≤ 60 := by rw [← hj]; split <;> omega
    refine ⟨j, rfl, by omega, by omega, fun D hD => ?_⟩
    refine lc_range (n := j.toNat) (fun i H' => ∃ ps : List Addr, ps.length = i ∧ Same H H' ∧ H' D = some (.lst (ps.map V.ref)) ∧ (∀ p ∈ ps, H p = none ∧ Purse H' p 0) ∧ ps.Nodup ∧ D ∉ ps)
      ⟨[], rfl, Same.new hD, upd_same, (fun p hp => by cases hp), List.nodup_nil, by simp⟩ ?_ ?_
    · rintro i H1 hi ⟨ps, lp, sm, hL, al, nd, nD⟩
      refine ⟨rfl, ?_⟩
      dsimp only [tYes]
      rw [if_pos rfl]
      refine ⟨_, rfl, _, rfl, a, ns, _, rfl, sm.seq hS, by omega, by omega, fun H2 p s2 np hp => ?_⟩
      have hD2 := s2 _ _ hL
      have npD : p ≠ D := fun e => by rw [e, hL] at np; cases np
      refine ⟨_, hD2, by rw [List.length_map, lp, sizeLine_eq]; omega, ps ++ [p], by rw [List.length_append, lp]; rfl, fun b o e => ?_, ?_, fun q hq => ?_, ?_, ?_⟩
      · rw [upd_ne (ne_of_none e hD)]; exact s2 _ _ (sm _ _ e)
      · rw [upd_same, List.map_append]; rfl
      · rcases List.mem_append.mp hq with hq | hq
        · obtain ⟨q0, qp⟩ := al q hq
          exact ⟨q0, (qp.same s2).upd fun e => nD (e ▸ hq)⟩
        · obtain rfl : q = p := by simpa using hq
          exact ⟨sm.free np, hp.upd npD⟩
      · refine List.nodup_append.mpr ⟨nd, by simp, fun x hx y hy e => ?_⟩
        obtain rfl : y = p := by simpa using hy
        obtain ⟨_, qp⟩ := al x hx
        obtain ⟨o, ho⟩ := qp.some
        rw [e, np] at ho; cases ho
      · intro z
        rcases List.mem_append.mp z with z | z
        · exact nD z
        · exact npD (by simpa using z : D = p).symm
    · rintro H1 ⟨ps, lp, sm, hL, al, nd, nD⟩
      exact k H1 D ps sm hD hL al nd nD (by omega)
theorem scO : FnScope ["_law_purse_here", "_law_some"] ["_law_purse_here", "_law_some"] (defScope sOneOf) := ⟨rfl, rfl, rfl, by decide +kernel, rfl, by decide +kernel, by decide +kernel⟩
theorem ok_oneof {f fD : Addr} {fd fdD : FuncData} (F : Fun K "_law_one_of" "_law_one_of" sOneOf f fd) (T : Free mg) (kD : PySem.W.keepIn K (.ref fD) = true) (GD : FnOk P w K mg base CX0 2 fD fdD ["_law_purse_here", "_law_many"] spDraw) (bD : Binds K fdD ["_law_purse_here", "_law_many"] []) (gD : mg "_law_draw" = some (.ref fD)) :
    FnOk P w K mg base CX0 3 f fd ["_law_purse_here", "_law_some"] spOneOf := by
  refine F.ok scO (fun vs H Q E h => ?_) (fun cdv A outer s H vs Q E hr h => ?_)
  · obtain ⟨p, L, xs, t, rfl, _⟩ := h; rfl
  · obtain ⟨p, L, xs, t, rfl, hp, hL, ne, l1, l2, t1, k⟩ := h
    refine ⟨_, pss_one (ps_ret (pe_ix ix_list (pv 1) (pe_call GD (hr.mono (by decide)) rfl gD kD bD .nil pass0 (pa_cons (pv 0) (pa_cons (pe_callB call_len_seq (by rfl) T.len PySem.boot_len (pa_cons (pv 1) pa_nil)) pa_nil))) (fun _ _ => rfl))), ?_⟩
    refine ⟨_, rfl, _, rfl, _, rfl, L, _, rfl, .inl (SqL.of hL), p, _, t, rfl, hp, by omega, by omega, t1, fun r t' o r0 r1 tt hp' => ?_⟩
    have hr2 : r.toNat < xs.length := by omega
    refine ⟨L, xs, r, xs[r.toNat], rfl, rfl, SqL.of (by rw [upd_ne ne]; exact hL), at_of (j := r.toNat) (by omega) (List.getElem?_eq_getElem hr2), ?_⟩
    exact k r.toNat _ t' o (List.getElem?_eq_getElem hr2) tt hp'
/-- single letters -/
def Let (y : Str) : Prop := ∃ c, 97 ≤ c ∧ c ≤ 122 ∧ y = ⟨#[c]⟩
theorem joinL_nil : ∀ ys : List (List Nat), (∀ y ∈ ys, ∃ c, 97 ≤ c ∧ c ≤ 122 ∧ y = [c]) → (TL.joinL [] ys).length = ys.length ∧ ∀ c ∈ TL.joinL [] ys, 97 ≤ c ∧ c ≤ 122
  | [], _ => ⟨rfl, fun c h => by cases h⟩
  | [p], h => by
    obtain ⟨c, c1, c2, rfl⟩ := h p (List.mem_singleton.mpr rfl)
    exact ⟨rfl, fun d hd => by obtain rfl : d = c := List.mem_singleton.mp hd; exact ⟨c1, c2⟩⟩
  | p :: q :: r, h => by
    obtain ⟨c, c1, c2, rfl⟩ := h p List.mem_cons_self
    obtain ⟨l, m⟩ := joinL_nil (q :: r) fun y hy => h y (List.mem_cons_of_mem _ hy)
    show ([c] ++ ([] ++ TL.joinL [] (q :: r))).length = _ ∧ ∀ d ∈ ([c] ++ ([] ++ TL.joinL [] (q :: r))), _
    refine ⟨by rw [List.length_append, List.nil_append, l]; simp; omega, fun d hd => ?_⟩
    rcases List.mem_append.mp hd with hd | hd
    · obtain rfl : d = c := List.mem_singleton.mp hd; exact ⟨c1, c2⟩
    · exact m d (by simpa using hd)
theorem word_of {ys : List Str} (h : ∀ y ∈ ys, Let y) : (Txt.join "" ys).length = ys.length ∧ ∀ c ∈ (Txt.join "" ys).cps.toList, 97 ≤ c ∧ c ≤ 122 := by
  have e : (Txt.join "" ys).cps.toList = TL.joinL [] (ys.map TL.tl) := by rw [TL.join_eq]; exact TL.tl_join "" ys
  obtain ⟨a, b⟩ := joinL_nil (ys.map TL.tl) fun y hy => by
    obtain ⟨z, hz, rfl⟩ := List.mem_map.mp hy
    obtain ⟨c, c1, c2, rfl⟩ := h z hz
    exact ⟨c, c1, c2, rfl⟩
  rw [List.length_map] at a
  refine ⟨?_, fun c hc => b c (e ▸ hc)⟩
  show (Txt.join "" ys).cps.size = _
  rw [← Array.length_toList, e, a]
theorem abc_at (r : Int) (r0 : 0 ≤ r) (r1 : r < 26) : ∃ c, atI (Str.ofString "abcdefghijklmnopqrstuvwxyz").cps.toList r = some c ∧ 97 ≤ c ∧ c ≤ 122 := by
  have h : ∀ j : Fin 26, ∃ c, (Str.ofString "abcdefghijklmnopqrstuvwxyz").cps.toList[j.val]? = some c ∧ 97 ≤ c ∧ c ≤ 122 := by
    intro j
    refine ⟨97 + j.val, ?_, by omega, by omega⟩
    revert j
    decide +kernel
  obtain ⟨c, e, q⟩ := h ⟨r.toNat, by omega⟩
  refine ⟨c, ?_, q⟩
  rw [show r = ((r.toNat : Nat) : Int) by omega]
  exact atI_nat e
theorem scW : FnScope ["_law_purse_here", "_law_size", "_law_turn"] ["_law_purse_here"] (defScope sWord) := ⟨rfl, rfl, rfl, by decide +kernel, rfl, by decide +kernel, by decide +kernel⟩
theorem ok_word {f fD : Addr} {fd fdD : FuncData} (F : Fun K "_law_word" "_law_word" sWord f fd) (T : Free mg) (kD : PySem.W.keepIn K (.ref fD) = true) (GD : FnOk P w K mg base CX0 2 fD fdD ["_law_purse_here", "_law_many"] spDraw) (bD : Binds K fdD ["_law_purse_here", "_law_many"] []) (gD : mg "_law_draw" = some (.ref fD)) :
    FnOk P w K mg base CX0 3 f fd ["_law_purse_here"] spWord := by
  refine F.ok scW (fun vs H Q E h => ?_) (fun cdv A outer s H vs Q E hr h => ?_)
  · obtain ⟨p, t, rfl, _⟩ := h; rfl
  · obtain ⟨p, t, rfl, hp, t1, k⟩ := h
    refine ⟨_, pss_cons (ps_set (i := 1) scW.nd rfl (Or.inl rfl) (pe_op op_add pe_int (pe_call GD (hr.mono (by decide)) rfl gD kD bD .nil pass0 (pa_cons (pv 0) (pa_cons (pe_ifExp (pt_cmpR op_eq (pe_call GD (hr.mono (by decide)) rfl gD kD bD .nil pass0 (pa_cons (pv 0) (pa_cons pe_int pa_nil))) pe_int (nomark _)) pe_int pe_int) pa_nil)))))
      (pss_one (ps_ret (pe_join pe_str (pe_lc (own := [("_law_turn", 2)]) (g := gName 2) (tt := tYes) rfl scW.nd (pi_range1 rfl T.range (pa_cons (pv 1) pa_nil))
        (blkOk_by (N := ["_law_purse_here", "_law_size", "_law_turn"]) (sc := defScope sWord) (by decide +kernel)) (fun _ _ _ _ _ => pg_name (i := 2) scW.nd rfl (Or.inl rfl)) (fun _ _ _ _ _ => pts_nil)
        (fun _ _ _ _ _ => pe_ix ix_str pe_str (pe_call GD (hr.mono (by decide)) rfl gD kD bD .nil pass0 (pa_cons (pv 0) (pa_cons pe_int pa_nil))) (fun _ _ => rfl)))))), ?_⟩
    refine ⟨_, rfl, _, rfl, p, 3, t, rfl, hp, by decide, by decide, by omega, fun r1 t2 o1 r10 r11 tt1 hp1 => ?_⟩
    refine ⟨rfl, _, rfl, ?_⟩
    refine ite2 (fun _ => ?_) (fun _ => ?_) <;> refine ⟨p, _, t2, rfl, hp1, by decide, by decide, by omega, fun r2 t3 o2 r20 r21 tt2 hp2 => ⟨_, _, rfl, rfl, ?_⟩⟩
    all_goals
      have rb : r2 < 8 := by omega
      clear r21
      have bt : But p H (L2.upd (L2.upd H p o1) p o2) := (But.upd p H o1).trans (But.upd p _ o2)
      generalize L2.upd (L2.upd H p o1) p o2 = H0 at hp2 bt
      refine ⟨⟨_, rfl⟩, _, rfl, _, rfl, by omega, by omega, fun D hD => ?_⟩
      have nD : p ≠ D := by obtain ⟨o, ho⟩ := hp2.some; exact ne_of_none ho hD
      refine lc_range (n := (1 + r2).toNat) (fun i H' => ∃ ys : List Str, ys.length = i ∧ (∀ y ∈ ys, Let y) ∧ H' D = some (.lst (ys.map V.str)) ∧ But p H0 H' ∧ ∃ t', Purse H' p t' ∧ t' ≤ t + 2 + i) ⟨[], rfl, (fun y hy => by cases hy), upd_same, But.of (Same.new hD), t3, hp2.upd nD, by omega⟩ ?_ ?_
      · rintro i H1 hi ⟨ys, ly, al, hL, b1, t', hp', tl'⟩
        refine ⟨rfl, ?_⟩
        dsimp only [tYes]
        rw [if_pos rfl]
        refine ⟨_, rfl, p, 26, t', rfl, hp', by decide, by decide, by omega, fun r t4 o r0 r1 tt hp4 => ?_⟩
        obtain ⟨c, ec, c1, c2⟩ := abc_at r r0 r1
        refine ⟨_, r, c, rfl, rfl, by decide +kernel, ec, _, by rw [upd_ne nD.symm]; exact hL, by rw [List.length_map, ly, sizeLine_eq]; omega, ys ++ [⟨#[c]⟩], by rw [List.length_append, ly]; rfl, fun y hy => ?_, ?_, ?_, t4, hp4.upd nD, by omega⟩
        · rcases List.mem_append.mp hy with hy | hy
          · exact al y hy
          · exact ⟨c, c1, c2, by simpa using hy⟩
        · rw [upd_same, List.map_append]; rfl
        · intro b u nb e
          have nbD : b ≠ D := ne_of_none e hD
          rw [upd_ne nbD, upd_ne nb]; exact b1 b u nb e
      · rintro H1 ⟨ys, ly, al, hL, b1, t', hp', tl'⟩
        obtain ⟨lw, cw⟩ := word_of al
        refine ⟨_, D, ys, rfl, rfl, .inl (SqL.of hL), ?_, ?_⟩
        · have one : (ys.map (·.length)).sum ≤ ys.length := by
            clear lw cw hL ly
            induction ys with
            | nil => exact Nat.le_refl _
            | cons y r ih =>
              obtain ⟨c, _, _, rfl⟩ := al y List.mem_cons_self
              have := ih fun z hz => al z (List.mem_cons_of_mem _ hz)
              simp only [List.map_cons, List.sum_cons, List.length_cons]
              show 1 + _ ≤ _
              omega
          have z0 : (Str.ofString "").length = 0 := rfl
          rw [z0]; omega
        · exact k _ H1 t' (by rw [lw]; omega) (by rw [lw]; omega) cw (bt.trans b1) hp' (by omega)
end
end D1
end L2
/-! what is hidden of a heap; shuffled -/
namespace L2
namespace D1
open PySem PySem.Spec PyProof.Rows
/-- the heap without what stands at S -/
def cut (S : List Addr) (H : Hp) : Hp := fun b => if b ∈ S then none else H b
section
variable {S : List Addr} {H H' : Hp} {p q D : Addr} {o : HO}
theorem cut_in (h : q ∈ S) : cut S H q = none := if_pos h
theorem cut_out (h : q ∉ S) : cut S H q = H q := if_neg h
theorem cut_some {u : HO} (h : cut S H q = some u) : q ∉ S ∧ H q = some u := by
  unfold cut at h
  split at h
  · cases h
  · exact ⟨by assumption, h⟩
theorem cut_le : Same (cut S H) H := fun _ _ h => (cut_some h).2
theorem cut_mono {S' : List Addr} (h : ∀ b ∈ S', b ∈ S) : Same (cut S H) (cut S' H) := fun b o e => by
  obtain ⟨n, e⟩ := cut_some e
  rw [cut_out fun z => n (h b z)]; exact e
theorem cut_upd (h : q ∈ S) : cut S (upd H q o) = cut S H := by
  funext b
  by_cases hb : b ∈ S
  · rw [cut_in hb, cut_in hb]
  · rw [cut_out hb, cut_out hb, upd_ne fun e => hb (by rw [e]; exact h)]
theorem cut_same (s : Same H H') : Same (cut S H) (cut S H') := fun b o e => by
  obtain ⟨n, e⟩ := cut_some e
  rw [cut_out n]; exact s _ _ e
theorem cut_but (s : But p H H') (h : p ∈ S) : Same (cut S H) (cut S H') := fun b o e => by
  obtain ⟨n, e⟩ := cut_some e
  rw [cut_out n]; exact s _ _ (fun z => n (z ▸ h)) e
theorem cut_new (n : H q = none) : Same (cut S H) (cut S (upd H q o)) := cut_same (Same.new n)
/-- what is new may be hidden -/
theorem cut_hide (n : H q = none) : Same (cut S H) (cut (q :: S) H) := fun b o e => by
  obtain ⟨m, e⟩ := cut_some e
  rw [cut_out fun z => by rcases List.mem_cons.mp z with z | z; exact absurd e (by rw [z, n]; exact fun y => by cases y); exact m z]; exact e
theorem cut_nil : Same H (cut [] H) := fun b o e => by rw [cut_out (by simp)]; exact e
theorem But.cut (s : But p H H') : Same (cut [p] H) (cut [p] H') := cut_but s (by simp)
theorem But.new (n : H q = none) : But p H (L2.upd H q o) := But.of (Same.new n)
/-- a list of texts -/
def SL (H : Hp) (a : Addr) (ss : List Str) : Prop := H a = some (.lst (ss.map V.str))
theorem SL.same {a : Addr} {ss : List Str} (h : SL H a ss) (s : Same H H') : SL H' a ss := s _ _ h
theorem SL.sq {K : PySem.W.Frag} {a : Addr} {ss : List Str} (h : SL H a ss) : SqL K H a (ss.map V.str) := SqL.of h
end
theorem perm_ins {α : Type} (xs : List α) (i : Nat) (y : α) : (xs.take i ++ [y] ++ xs.drop i).Perm (xs ++ [y]) := by
  have h : (xs.take i ++ ([y] ++ xs.drop i)).Perm (xs.take i ++ (xs.drop i ++ [y])) := (List.perm_append_comm).append_left _
  rw [List.append_assoc]
  refine h.trans ?_
  rw [← List.append_assoc, List.take_append_drop]
theorem take_succ_get {α : Type} {xs : List α} {i : Nat} {x : α} (h : xs[i]? = some x) : xs.take (i + 1) = xs.take i ++ [x] := by
  rw [List.take_succ, h]; rfl
abbrev sShuf : Stmt := top 40
def spShuf : Sp := fun vs H Q _ => ∃ (p L : Addr) (xs : List V) (t : Int), vs = [.ref p, .ref L] ∧ Purse H p t ∧ H L = some (.lst xs) ∧ L ≠ p ∧ xs.length ≤ 1000 ∧ t < 2 ^ 29 ∧
  ∀ (H' : Hp) (R : Addr) (ys : List V) (t' : Int), But p H H' → H R = none → H' R = some (.lst ys) → ys.Perm xs → Purse H' p t' → t' ≤ t + xs.length → Q (.ref R) H'
section
variable {P : Program} {w : World} {K : PySem.W.Frag} {mg : Str → Option Value} {base : Heap}
theorem scSh : FnScope ["_law_purse_here", "_law_some", "_law_found", "_law_item"] ["_law_purse_here", "_law_some"] (defScope sShuf) := ⟨rfl, rfl, rfl, by decide +kernel, rfl, by decide +kernel, by decide +kernel⟩
theorem ok_shuf {f fD : Addr} {fd fdD : FuncData} (F : Fun K "_law_shuffled" "_law_shuffled" sShuf f fd) (T : Free mg) (kD : PySem.W.keepIn K (.ref fD) = true) (GD : FnOk P w K mg base CX0 2 fD fdD ["_law_purse_here", "_law_many"] spDraw) (bD : Binds K fdD ["_law_purse_here", "_law_many"] []) (gD : mg "_law_draw" = some (.ref fD)) :
    FnOk P w K mg base CX0 3 f fd ["_law_purse_here", "_law_some"] spShuf := by
  refine F.ok scSh (fun vs H Q E h => ?_) (fun cdv A outer s H vs Q E hr h => ?_)
  · obtain ⟨p, L, xs, t, rfl, _⟩ := h; rfl
  · obtain ⟨p, L, xs, t, rfl, hp, hL, ne, l1, t1, k⟩ := h
    refine ⟨_, pss_cons (ps_set (i := 2) scSh.nd rfl (Or.inl rfl) (pe_lst pa_nil))
      (pss_cons (ps_for PassesOwn.never rfl (pi_list (pv 1)) (pg_name (i := 3) scSh.nd rfl (Or.inl rfl))
        (pss_one (ps_expr (pe_bm PySem.F.plainAttrs_list PySem.F.slot_list_insert PySem.F.type_list_insert mt_insert (pv 2)
          (pa_cons (pe_call GD (hr.mono (by decide)) rfl gD kD bD .nil pass0 (pa_cons (pv 0) (pa_cons (pe_op op_add (pe_callB call_len_seq (by rfl) T.len PySem.boot_len (pa_cons (pv 2) pa_nil)) pe_int) pa_nil))) (pa_cons (pv 3) pa_nil))))))
      (pss_one (ps_ret (pv 2)))), ?_⟩
    refine ⟨by decide, fun D hD => ?_⟩
    have nD : p ≠ D := by obtain ⟨o, ho⟩ := hp.some; exact ne_of_none ho hD
    have nL : L ≠ D := ne_of_none hL hD
    refine ⟨_, rfl, L, rfl, ⟨_, SqL.of (by rw [upd_ne nL]; exact hL)⟩, for_list (xs := xs) (K := K) (fun i σ H' => ∃ (v : Option V) (ys : List V) (t' : Int), σ = [some (.ref p), some (.ref L), some (.ref D), v] ∧ But p H H' ∧ H' D = some (.lst ys) ∧ ys.Perm (xs.take i) ∧ Purse H' p t' ∧ t' ≤ t + i) ⟨none, [], t, rfl, But.new hD, upd_same, by simp, hp.upd nD, by omega⟩ ?_ ?_ ?_⟩
    · rintro i σ H' hi ⟨v, ys, t', rfl, b, _⟩
      exact SqL.of (b _ _ ne hL)
    · rintro i x σ H' hx ⟨v, ys, t', rfl, b, hD', pm, hp', tt⟩
      have hi : i < xs.length := (List.getElem?_eq_some_iff.mp hx).1
      have ly : ys.length = i := by rw [pm.length_eq, List.length_take]; omega
      refine ⟨_, rfl, .inl ⟨rfl, _, SqL.of hD'⟩, _, rfl, _, rfl, D, _, rfl, .inl (SqL.of hD'), _, _, rfl, rfl, p, _, t', rfl, hp', by omega, by omega, by omega, fun r t2 o r0 r1 tt2 hp2 => ?_⟩
      refine ⟨_, rfl, D, ys, r, x, rfl, rfl, by rw [upd_ne nD.symm]; exact hD', by rw [sizeLine_eq]; omega, r0, by omega, ?_⟩
      refine ⟨_, _, t2, rfl, ?_, upd_same, ?_, hp2.upd nD, by omega⟩
      · intro b' u nb e
        rw [upd_ne (ne_of_none e hD), upd_ne nb]; exact b b' u nb e
      · rw [take_succ_get hx]
        exact (perm_ins ys _ x).trans (pm.append_right _)
    · rintro σ H' ⟨v, ys, t', rfl, b, hD', pm, hp', tt⟩
      rw [List.take_length] at pm
      exact ⟨_, rfl, k H' D ys t' b hD hD' pm hp' tt⟩
end
end D1
end L2
/-! calls told in one piece; list of a text; words -/
namespace L2
namespace D1
open PySem PySem.Spec PyProof.Rows
/-- the def that stands under the name x keeps a promise -/
structure Cal (P : Program) (w : World) (K : PySem.W.Frag) (mg : Str → Option Value) (base : Heap) (x : Str) (k : Nat) (ps : List Str) (sp : Sp) : Prop where
  ex : ∃ f fd, mg x = some (.ref f) ∧ PySem.W.keepIn K (.ref f) = true ∧ FnOk P w K mg base CX0 k f fd ps sp ∧ Binds K fd ps []
theorem pe_cal {X : Cx} {x : Str} {k : Nat} {ps : List Str} {sp : Sp} {e : Expr} {es : List Expr} {t : TA} {p pos : Pos} (C : Cal X.prog X.w X.K X.mg X.base x k ps sp) (hr : Room k X.A) (hg : Gl X x) (ha : PA X (e :: es) t)
    (hdb : (x == ("__debug__" : Str)) = false := by decide) (he : starEach (e :: es) X.env = (false, eval e X.env) :: starEach es X.env := by rfl) (hpl : (backTo pos (starEach es X.env)).any (·.1) = false := by rfl) :
    PE X (.Call (.Name x p) (e :: es) [] pos) (tCall sp [] E0 t) := by
  obtain ⟨f, fd, h1, h2, h3, h4⟩ := C.ex
  exact pe_call h3 hr hg h1 h2 h4 .nil pass0 ha hdb he hpl
theorem Cal.of {P : Program} {w : World} {K : PySem.W.Frag} {mg : Str → Option Value} {base : Heap} {x : Str} {k : Nat} {ps : List Str} {sp : Sp} {f : Addr} {fd : FuncData} (g : mg x = some (.ref f)) (kp : PySem.W.keepIn K (.ref f) = true) (F : FnOk P w K mg base CX0 k f fd ps sp) (b : Binds K fd ps []) : Cal P w K mg base x k ps sp := ⟨⟨f, fd, g, kp, F, b⟩⟩
def signs (z : Str) : List Str := z.cps.toList.map fun c => ⟨#[c]⟩
theorem call_listStr {X : Cx} (hc : X.calm = true) : CallR X (.type "list") (fun xs H Q => ∃ z : Str, xs = [.str z] ∧ z.cps.size ≤ sizeLine ∧ ∀ l, H l = none → Q (.ref l) (upd H l (.lst ((signs z).map V.str)))) := by
  intro pins s σ H xs us Q I r h
  obtain ⟨z, rfl, hz, q⟩ := h
  obtain ⟨u, rfl, t, rfl⟩ := vals1 r
  refine PySem.call_list_str (I.ok.hd hc) z t (fun h' tk acc' c' hkeep hS hacc => ?_) hz
  refine ⟨.ref s.heap.objs.size, upd H s.heap.objs.size (.lst ((signs z).map V.str)), I.laid hkeep (Nat.le_refl _) (show ObjOk X.prog X.w _ _ _ (.lst ((signs z).map V.str)) from ⟨?_, acc'.toList, c', ?_, ?_⟩), rfl, q _ (I.hok.fresh (Nat.le_refl _))⟩
  · rw [List.length_map, signs, List.length_map, Array.length_toList]; exact hz
  · have el : acc'.toList.length = acc'.size := by simp
    refine vals_of_at (by rw [List.length_map, signs, List.length_map, Array.length_toList, el, hacc.1]) fun j x w h1 h2 => ?_
    obtain ⟨c, v, hc, rfl⟩ := hacc.2 j w (by rw [← Array.getElem?_toList]; exact h2)
    rw [signs, List.map_map, List.getElem?_map, Array.getElem?_toList, hc] at h1
    cases h1
    exact ⟨v, rfl⟩
  · rw [Array.toArray_toList]; exact hS
def tl (x : Str) : List Nat := x.cps.toList
theorem tl_len (x : Str) : (tl x).length = x.length := Array.length_toList
theorem tl_app (x y : Str) : tl (x ++ y) = tl x ++ tl y := by
  show (x.cps ++ y.cps).toList = _
  rw [Array.toList_append]; rfl
theorem tl_ext {x y : Str} (h : tl x = tl y) : x = y := by
  cases x; cases y; exact congrArg _ (Array.toList_inj.mp h)
theorem tl_cut (z : Str) (lo hi : Option Int) : tl (cutS z lo hi) = ((tl z).drop (HT.sIx z.length 0 lo)).take (HT.sIx z.length z.length hi - HT.sIx z.length 0 lo) := rfl
/-- a word -/
structure Wd (x : Str) : Prop where
  lo : 1 ≤ x.length
  hi : x.length ≤ 8
  ok : ∀ c ∈ tl x, 97 ≤ c ∧ c ≤ 122
theorem wd_let {c : Nat} (h1 : 97 ≤ c) (h2 : c ≤ 122) : Wd ⟨#[c]⟩ := ⟨by show 1 ≤ 1; decide, by show 1 ≤ 8; decide, fun d hd => by obtain rfl : d = c := List.mem_singleton.mp hd; exact ⟨h1, h2⟩⟩
theorem sIx_of {n d : Nat} {r : Int} (h : 0 ≤ r) : HT.sIx n d (some r) = min r.toNat n := by
  show (if r < 0 then _ else _) = _
  rw [if_neg (by omega)]
theorem wd_bent {b : Str} {r : Int} {c : Nat} (h : Wd b) (r0 : 0 ≤ r) (r1 : r < b.length) (h1 : 97 ≤ c) (h2 : c ≤ 122) : Wd (cutS b none (some r) ++ ⟨#[c]⟩ ++ cutS b (some (r + 1)) none) := by
  have e : tl (cutS b none (some r) ++ ⟨#[c]⟩ ++ cutS b (some (r + 1)) none) = (tl b).take r.toNat ++ [c] ++ (tl b).drop (r + 1).toNat := by
    rw [tl_app, tl_app, tl_cut, tl_cut, HT.sIx_none, HT.sIx_none, sIx_of r0, sIx_of (by omega), Nat.min_eq_left (by omega), Nat.min_eq_left (by omega), Nat.sub_zero, List.drop_zero]
    congr 1
    refine List.take_of_length_le ?_
    rw [List.length_drop, tl_len]; omega
  have l : (cutS b none (some r) ++ ⟨#[c]⟩ ++ cutS b (some (r + 1)) none).length = b.length := by
    rw [← tl_len, e, List.length_append, List.length_append, List.length_take, List.length_drop, tl_len]
    simp only [List.length_singleton]
    omega
  refine ⟨by rw [l]; exact h.lo, by rw [l]; exact h.hi, fun d hd => ?_⟩
  rw [e] at hd
  rcases List.mem_append.mp hd with hd | hd
  · rcases List.mem_append.mp hd with hd | hd
    · exact h.ok d (List.mem_of_mem_take hd)
    · obtain rfl : d = c := List.mem_singleton.mp hd; exact ⟨h1, h2⟩
  · exact h.ok d (List.mem_of_mem_drop hd)
theorem inV_str (x : Str) : ∀ ss : List Str, inV (.str x) (ss.map V.str) = decide (x ∈ ss)
  | [] => by simp [inV]
  | y :: r => by
    have ih := inV_str x r
    unfold inV at ih ⊢
    rw [List.map_cons, List.any_cons, ih]
    show (y == x || decide (x ∈ r)) = _
    by_cases h : y = x
    · subst h; simp
    · have h1 : (y == x) = false := beq_eq_false_iff_ne.mpr h
      have h2 : ¬ x = y := fun e => h e.symm
      rw [h1, Bool.false_or]
      by_cases h3 : x ∈ r <;> simp [h2, h3]
theorem flat_strs (ss : List Str) : (ss.map V.str).all flatV = true := by
  induction ss with
  | nil => rfl
  | cons a r ih => rw [List.map_cons, List.all_cons, ih]; rfl
theorem pigeon {α : Type} [DecidableEq α] : ∀ (l m : List α), l.Nodup → (∀ x ∈ l, x ∈ m) → l.length ≤ m.length
  | [], _, _, _ => Nat.zero_le _
  | x :: r, m, nd, h => by
    have nd' := List.nodup_cons.mp nd
    have hx := h x List.mem_cons_self
    have ih := pigeon r (m.erase x) nd'.2 fun y hy => (List.mem_erase_of_ne fun e => nd'.1 (by rw [← e]; exact hy)).mpr (h y (List.mem_cons_of_mem _ hy))
    rw [List.length_erase_of_mem hx] at ih
    have : 0 < m.length := List.length_pos_of_mem hx
    rw [List.length_cons]; omega
def abc : Str := Str.ofString "abcdefghijklmnopqrstuvwxyz"
theorem abc_len : (signs abc).length = 26 := by decide +kernel
theorem abc_nd : (signs abc).Nodup := by decide +kernel
theorem abc_wd : ∀ x ∈ signs abc, Wd x := by
  have h : ∀ c ∈ tl abc, 97 ≤ c ∧ c ≤ 122 := by decide +kernel
  intro x hx
  obtain ⟨c, hc, rfl⟩ := List.mem_map.mp hx
  exact wd_let (h c hc).1 (h c hc).2
theorem abc_left {ss : List Str} (h : ss.length < 26) : ∃ x r, (signs abc).filter (fun x => decide (x ∉ ss)) = x :: r ∧ x ∉ ss ∧ Wd x := by
  cases e : (signs abc).filter (fun x => decide (x ∉ ss)) with
  | nil =>
    exfalso
    have := pigeon (signs abc) ss abc_nd fun x hx => Classical.byContradiction fun n => by
      have : x ∈ (signs abc).filter (fun x => decide (x ∉ ss)) := List.mem_filter.mpr ⟨hx, by simpa using n⟩
      rw [e] at this; cases this
    rw [abc_len] at this; omega
  | cons x r =>
    have h1 : x ∈ (signs abc).filter (fun x => decide (x ∉ ss)) := by rw [e]; exact List.mem_cons_self
    obtain ⟨h2, h3⟩ := List.mem_filter.mp h1
    exact ⟨x, r, rfl, by simpa using h3, abc_wd x h2⟩
end D1
end L2
/-! words, pool -/
namespace L2
namespace D1
open PySem PySem.Spec PyProof.Rows
structure Free2 (mg : Str → Option Value) : Prop extends Free mg where
  list : mg "list" = none
  dict : mg "dict" = none
  tuple : mg "tuple" = none
  str : mg "str" = none
  bool : mg "bool" = none
  zip : mg "zip" = none
  sorted : mg "sorted" = none
abbrev sWords : Stmt := top 43
abbrev sPool : Stmt := top 44
def spWords : Sp := fun vs H Q _ => ∃ (p : Addr) (n t : Int), vs = [.ref p, .int n] ∧ Purse H p t ∧ 0 ≤ n ∧ n ≤ 20 ∧ t < 2 ^ 28 ∧
  ∀ (H' : Hp) (R : Addr) (ss : List Str) (t' : Int), But p H H' → H R = none → SL H' R ss → ss.length = n.toNat → ss.Nodup → (∀ x ∈ ss, Wd x) → Purse H' p t' → t' ≤ t + 300 → Q (.ref R) H'
theorem upd_none' {H : Hp} {a b : Addr} {o : HO} (e : L2.upd H a o b = none) : H b = none := by
  by_cases h : b = a
  · rw [h, upd_same] at e; cases e
  · rw [upd_ne h] at e; exact e
theorem But.fr {p b : Addr} {H H' : Hp} (h : But p H H') (e : H' b = none) (n : b ≠ p) : H b = none := by
  cases z : H b with
  | none => rfl
  | some o => rw [h b o n z] at e; cases e
theorem But.ofL {p L : Addr} {H0 H : Hp} {o : HO} (n : H0 L = Option.none) : But p H0 H → But p H0 (L2.upd H L o) := fun s b u nb e => by
  rw [upd_ne (ne_of_none e n)]; exact s b u nb e
theorem get_map {α β : Type} {f : α → β} {l : List α} {i : Nat} {y : β} (h : (l.map f)[i]? = some y) : ∃ x, l[i]? = some x ∧ y = f x := by
  rw [List.getElem?_map] at h
  obtain ⟨x, h1, h2⟩ := Option.map_eq_some_iff.mp h
  exact ⟨x, h1, h2.symm⟩
theorem nodup_app {α : Type} {l : List α} {x : α} (h : l.Nodup) (n : x ∉ l) : (l ++ [x]).Nodup :=
  List.nodup_append.mpr ⟨h, by simp, fun a ha b hb e => by obtain rfl : b = x := List.mem_singleton.mp hb; exact n (e ▸ ha)⟩
theorem wd_app {l : List Str} {x : Str} (h : ∀ y ∈ l, Wd y) (w : Wd x) : ∀ y ∈ l ++ [x], Wd y := fun y hy => by
  rcases List.mem_append.mp hy with hy | hy
  · exact h y hy
  · obtain rfl : y = x := List.mem_singleton.mp hy; exact w
theorem filt_yes {α : Type} {l : List α} {j : Nat} {z : α} {f : α → Bool} (h : l[j]? = some z) (b : f z = true) : (l.take (j + 1)).filter f = (l.take j).filter f ++ [z] := by
  rw [take_succ_get h, List.filter_append]; simp [List.filter, b]
theorem filt_no {α : Type} {l : List α} {j : Nat} {z : α} {f : α → Bool} (h : l[j]? = some z) (b : f z = false) : (l.take (j + 1)).filter f = (l.take j).filter f := by
  rw [take_succ_get h, List.filter_append]; simp [List.filter, b]
theorem cut_len (z : Str) (lo hi : Option Int) : (cutS z lo hi).length ≤ z.length := by
  rw [← tl_len, tl_cut, List.length_take, List.length_drop, tl_len]; omega
theorem bent_len1 {b : Str} {r : Int} {c : Nat} (h : Wd b) : (cutS b none (some r)).length + (⟨#[c]⟩ : Str).length ≤ sizeLine := by
  have := cut_len b none (some r); have := h.hi; rw [sizeLine_eq]; show _ + 1 ≤ _; omega
theorem bent_len2 {b : Str} {r r2 : Int} {c : Nat} (h : Wd b) : (cutS b none (some r) ++ ⟨#[c]⟩).length + (cutS b (some r2) none).length ≤ sizeLine := by
  have h1 := cut_len b none (some r); have h2 := cut_len b (some r2) none; have := h.hi
  rw [← tl_len, tl_app, List.length_append, tl_len, sizeLine_eq]
  show _ + 1 + _ ≤ _; omega
section
variable {P : Program} {w : World} {K : PySem.W.Frag} {mg : Str → Option Value} {base : Heap}
abbrev CDraw (P : Program) (w : World) (K : PySem.W.Frag) (mg : Str → Option Value) (base : Heap) := Cal P w K mg base "_law_draw" 2 ["_law_purse_here", "_law_many"] spDraw
abbrev CWord (P : Program) (w : World) (K : PySem.W.Frag) (mg : Str → Option Value) (base : Heap) := Cal P w K mg base "_law_word" 3 ["_law_purse_here"] spWord
abbrev CShuf (P : Program) (w : World) (K : PySem.W.Frag) (mg : Str → Option Value) (base : Heap) := Cal P w K mg base "_law_shuffled" 3 ["_law_purse_here", "_law_some"] spShuf
abbrev CWords (P : Program) (w : World) (K : PySem.W.Frag) (mg : Str → Option Value) (base : Heap) := Cal P w K mg base "_law_words" 4 ["_law_purse_here", "_law_many"] spWords
theorem scWs : FnScope ["_law_purse_here", "_law_many", "_law_base", "_law_near", "_law_spot", "_law_found", "_law_turn", "_law_word_here", "_law_letter"] ["_law_purse_here", "_law_many"] (defScope sWords) := ⟨rfl, rfl, rfl, by decide +kernel, rfl, by decide +kernel, by decide +kernel⟩
theorem ok_words {f : Addr} {fd : FuncData} (F : Fun K "_law_words" "_law_words" sWords f fd) (T : Free2 mg) (CD : CDraw P w K mg base) (CW : CWord P w K mg base) :
    FnOk P w K mg base CX0 4 f fd ["_law_purse_here", "_law_many"] spWords := by
  refine F.ok scWs (fun vs H Q E h => ?_) (fun cdv A outer s H vs Q E hr h => ?_)
  · obtain ⟨p, n, t, rfl, _⟩ := h; rfl
  · obtain ⟨p, n, t, rfl, hp, n0, n1, t1, k⟩ := h
    refine ⟨_, pss_cons (ps_par (i := 2) (j := 3) rfl scWs.nd rfl rfl (by decide) rfl rfl (pa_cons (pe_cal CW (hr.mono (by decide)) rfl (pa_cons (pv 0) pa_nil)) (pa_cons (pe_cmpR op_eq (pe_cal CD (hr.mono (by decide)) rfl (pa_cons (pv 0) (pa_cons pe_int pa_nil))) pe_int (nomark _)) pa_nil)) (by rfl))
      (pss_cons (ps_asg (pe_tup (pa_cons (pe_cal CD (hr.mono (by decide)) rfl (pa_cons (pv 0) (pa_cons (pe_callB call_len_str (by rfl) T.len PySem.boot_len (pa_cons (pv 2) pa_nil)) pa_nil))) (pa_cons (pe_lst pa_nil) pa_nil))) (pg_tup rfl (pgs_cons (pg_name (i := 4) scWs.nd rfl (Or.inl rfl)) (pgs_cons (pg_name (i := 5) scWs.nd rfl (Or.inr rfl)) pgs_nil))))
      (pss_cons (ps_for PassesOwn.never rfl (pi_range1 rfl T.range (pa_cons (pv 1) pa_nil)) (pg_name (i := 6) scWs.nd rfl (Or.inl rfl))
        (pss_cons (ps_set (i := 7) scWs.nd rfl (Or.inl rfl) (pe_op op_add_str (pe_op op_add_str (pe_slice sl_str (pv 2) po_none (po_some (pv 4))) (pe_ix ix_str pe_str (pe_cal CD (hr.mono (by decide)) rfl (pa_cons (pv 0) (pa_cons pe_int pa_nil))) (fun _ _ => rfl))) (pe_slice sl_str (pv 2) (po_some (pe_op op_add (pv 4) pe_int)) po_none)))
        (pss_cons (ps_if (pt_not (pt_truth (pv 3) (by intro _; rfl))) (pss_one (ps_set (i := 7) scWs.nd rfl (Or.inl rfl) (pe_cal CW (hr.mono (by decide)) rfl (pa_cons (pv 0) pa_nil)))) pss_nil)
        (pss_cons (ps_if (pt_cmpR op_in_seq (pv 7) (pv 5) rfl) (pss_one (ps_set (i := 7) scWs.nd rfl (Or.inl rfl) (pe_ix ix_list (pe_lc (own := [("_law_letter", 8)]) (g := gName 8) (tt := tTest (tOp (rIn K true) (tVar 8) (tVar 5))) rfl scWs.nd
            (pi_list (pe_callTy (call_listStr rfl) (by rfl) T.list (by decide +kernel) (pa_cons pe_str pa_nil)))
            (blkOk_by (N := ["_law_purse_here", "_law_many", "_law_base", "_law_near", "_law_spot", "_law_found", "_law_turn", "_law_word_here", "_law_letter"]) (sc := defScope sWords) (by decide +kernel)) (fun _ _ _ _ _ => pg_name (i := 8) scWs.nd rfl (Or.inl rfl))
            (fun _ _ _ _ _ => pts_one (pt_cmpR op_notIn_seq (pv 8) (pv 5) rfl)) (fun _ _ _ _ _ => pv 8)) pe_int (fun _ _ => rfl)))) pss_nil)
        (pss_one (ps_expr (pe_bm PySem.F.plainAttrs_list PySem.F.slot_list_append PySem.F.type_list_append mt_append (pv 5) (pa_cons (pv 7) pa_nil))))))))
      (pss_one (ps_ret (pv 5))))), ?_⟩
    refine ⟨_, rfl, p, t, rfl, hp, by omega, fun base' H1 t2 b1 b2 b3 bt1 hp1 tt1 => ?_⟩
    refine ⟨_, rfl, p, 3, t2, rfl, hp1, by decide, by decide, by omega, fun r t3 o r0 r1 tt2 hp2 => ?_⟩
    refine ⟨rfl, _, _, rfl, ?_⟩
    refine ⟨_, rfl, _, rfl, base', rfl, by have := sizeLine_eq; omega, p, _, t3, rfl, hp2, by omega, by omega, by omega, fun spot t4 o4 s0 s1 tt4 hp4 => ?_⟩
    refine ⟨Nat.zero_le _, fun L hL => ?_⟩
    refine ⟨by show 2 ≤ sizeLine; decide, fun T1 hT1 => ?_⟩
    have hL0 : H L = none := by
      have z := upd_none' (upd_none' hL)
      exact bt1.fr z (fun e => by obtain ⟨u, hu⟩ := hp1.some; rw [← e, z] at hu; cases hu)
    have npL : p ≠ L := by obtain ⟨u, hu⟩ := hp4.some; exact ne_of_none hu hL
    have nTL : L ≠ T1 := fun e => by rw [← e, upd_same] at hT1; cases hT1
    have npT : p ≠ T1 := by
      obtain ⟨u, hu⟩ := (hp4.upd (o := .lst []) npL).some
      exact ne_of_none hu hT1
    refine ⟨T1, _, rfl, SqT.of upd_same, rfl, _, _, rfl, _, _, rfl, rfl, ?_⟩
    have wb : Wd base' := ⟨b1, b2, b3⟩
    refine ⟨_, rfl, n, rfl, by omega, by omega, ?_⟩
    refine for_range (n := n.toNat) (fun i σ H' => ∃ (v6 v7 : Option V) (ss : List Str) (t' : Int), σ = [some (.ref p), some (.int n), some (.str base'), some (.bl (decide (V.int r = V.int 0))), some (.int spot), some (.ref L), v6, v7, none] ∧ But p H H' ∧ SL H' L ss ∧ ss.length = i ∧ ss.Nodup ∧ (∀ x ∈ ss, Wd x) ∧ Purse H' p t' ∧ t' ≤ t + 12 + 12 * i)
      ⟨none, none, [], t4, rfl, ?_, ?_, rfl, List.nodup_nil, (fun x hx => by cases hx), (hp4.upd npL).upd npT, by omega⟩ ?_ ?_
    · exact ((bt1.trans (But.upd p _ o)).trans (But.upd p _ o4)).trans ((But.new hL).trans (But.new hT1))
    · rw [SL, upd_ne nTL, upd_same]; rfl
    · rintro i σ HX hi ⟨v6, v7, ss, tX, rfl, bX, hLX, ls, nd, aw, hpX, ttX⟩
      have li : i < 20 := by omega
      refine ⟨_, rfl, _, rfl, _, rfl, base', rfl, by rw [sizeLine_eq]; omega, _, rfl, p, 26, tX, rfl, hpX, by decide, by decide, by omega, fun rc tY oY y0 y1 ttY hpY => ?_⟩
      obtain ⟨cc, ec, c1, c2⟩ := abc_at rc y0 y1
      refine ⟨_, rc, cc, rfl, rfl, by decide +kernel, ec, _, _, rfl, rfl, ?_, _, rfl, _, rfl, _, _, rfl, rfl, _, rfl, base', rfl, by rw [sizeLine_eq]; omega, _, _, rfl, rfl, ?_, ?_⟩
      · exact bent_len1 wb
      · exact bent_len2 wb
      have wwX := wd_bent wb s0 s1 c1 c2
      generalize cutS base' none (some spot) ++ ⟨#[cc]⟩ ++ cutS base' (some (spot + 1)) none = wX at wwX
      replace bX := bX.trans (But.upd p HX oY)
      replace hLX : SL (L2.upd HX p oY) L ss := by rw [SL, upd_ne npL.symm]; exact hLX
      replace hpX := hpY
      generalize L2.upd HX p oY = HX at bX hLX hpX
      clear hpY
      refine ⟨_, rfl, _, rfl, ?_⟩
      refine ite2 (fun _ => ?_) (fun _ => ?_)
      · refine ⟨_, rfl, p, tY, rfl, hpX, by omega, fun wX HX2 tX2 w1 w2 w3 btX hpX2 ttX2 => ?_⟩
        have wwX : Wd wX := ⟨w1, w2, w3⟩
        replace bX := bX.trans btX
        replace hLX : SL HX2 L ss := btX _ _ npL.symm hLX
        replace hpX := hpX2
        refine ⟨_, rfl, _, rfl, L, _, rfl, .inl hLX.sq, rfl, flat_strs ss, ?_⟩
        refine ⟨_, rfl, ?_⟩
        rw [if_neg (by decide), inV_str]
        refine ite2 (fun c => ?_) (fun c => ?_)
        · refine ⟨_, rfl, by decide +kernel, fun q hq => ⟨q, rfl, ⟨_, SqL.of upd_same⟩, fun D hD => ?_⟩⟩
          have nqL : L ≠ q := ne_of_none hLX hq
          have hDX : HX2 D = none := upd_none' hD
          have nDL : L ≠ D := ne_of_none hLX hDX
          have nDq : q ≠ D := fun e => by rw [e, upd_same] at hD; cases hD
          refine lc_list (K := K) (a := q) (xs := (signs abc).map V.str) (fun j H' => Same HX2 H' ∧ SL H' q (signs abc) ∧ SL H' D (((signs abc).take j).filter fun x => decide (x ∉ ss)))
            ⟨fun b u e => by rw [upd_ne (ne_of_none e hDX), upd_ne (ne_of_none e hq)]; exact e, by rw [SL, upd_ne nDq, upd_same]; rfl, by rw [SL, upd_same]; rfl⟩ (fun j H' _ z => z.2.1.sq) ?_ ?_
          · rintro j x H' hx ⟨sm, hq', hD'⟩
            obtain ⟨z, hz, rfl⟩ := get_map hx
            refine ⟨rfl, _, rfl, _, rfl, L, _, rfl, .inl (hLX.same sm).sq, rfl, flat_strs ss, ?_⟩
            refine ⟨_, rfl, ?_⟩
            rw [if_pos rfl, inV_str]
            have lj : j < 26 := by rw [← abc_len]; exact (List.getElem?_eq_some_iff.mp hz).1
            by_cases hzs : z ∈ ss
            · have e1 : decide (z ∈ ss) = true := decide_eq_true hzs
              rw [e1]
              refine iteF ?_
              refine ⟨sm, hq', ?_⟩
              rw [filt_no hz (by simpa using hzs)]
              exact hD'
            · have e1 : decide (z ∈ ss) = false := decide_eq_false hzs
              rw [e1]
              refine iteT ?_
              refine ⟨_, rfl, _, hD', by rw [List.length_map, sizeLine_eq]; exact Nat.lt_of_le_of_lt (List.length_filter_le _ _) (by rw [List.length_take]; omega), fun b u e => ?_, ?_, ?_⟩
              · rw [upd_ne (ne_of_none e hDX)]; exact sm _ _ e
              · rw [SL, upd_ne nDq]; exact hq'
              · rw [SL, upd_same, filt_yes hz (by simpa using hzs), List.map_append]
                rfl
          · rintro H' ⟨sm, hq', hD'⟩
            have lf : ((signs abc).map V.str).length = (signs abc).length := List.length_map _
            rw [lf, List.take_length] at hD'
            obtain ⟨x, rr, ex, nx, wx⟩ := abc_left (ss := ss) (by omega)
            refine ⟨D, _, 0, .str x, rfl, rfl, SqL.of hD', by rw [ex]; exact atI_nat (j := 0) rfl, ?_⟩
            refine ⟨_, rfl, .inl ⟨rfl, _, SqL.of (hLX.same sm)⟩, _, rfl, L, _, _, rfl, rfl, hLX.same sm, by rw [List.length_map, sizeLine_eq]; omega, ?_⟩
            exact ⟨_, _, ss ++ [x], tX2, rfl, But.ofL hL0 (bX.trans (But.of sm)), by rw [SL, upd_same, List.map_append]; rfl, by rw [List.length_append, ls]; rfl, nodup_app nd nx, wd_app aw wx, (hpX.same sm).upd npL, by omega⟩
        · refine ⟨_, rfl, .inl ⟨rfl, _, SqL.of hLX⟩, _, rfl, L, _, _, rfl, rfl, hLX, by rw [List.length_map, sizeLine_eq]; omega, ?_⟩
          exact ⟨_, _, ss ++ [wX], tX2, rfl, But.ofL hL0 bX, by rw [SL, upd_same, List.map_append]; rfl, by rw [List.length_append, ls]; rfl, nodup_app nd (of_decide_eq_false (Bool.eq_false_iff.mpr c)), wd_app aw wwX, hpX.upd npL, by omega⟩
      · refine ⟨_, rfl, _, rfl, L, _, rfl, .inl hLX.sq, rfl, flat_strs ss, ?_⟩
        refine ⟨_, rfl, ?_⟩
        rw [if_neg (by decide), inV_str]
        refine ite2 (fun c => ?_) (fun c => ?_)
        · refine ⟨_, rfl, by decide +kernel, fun q hq => ⟨q, rfl, ⟨_, SqL.of upd_same⟩, fun D hD => ?_⟩⟩
          have nqL : L ≠ q := ne_of_none hLX hq
          have hDX : HX D = none := upd_none' hD
          have nDL : L ≠ D := ne_of_none hLX hDX
          have nDq : q ≠ D := fun e => by rw [e, upd_same] at hD; cases hD
          refine lc_list (K := K) (a := q) (xs := (signs abc).map V.str) (fun j H' => Same HX H' ∧ SL H' q (signs abc) ∧ SL H' D (((signs abc).take j).filter fun x => decide (x ∉ ss)))
            ⟨fun b u e => by rw [upd_ne (ne_of_none e hDX), upd_ne (ne_of_none e hq)]; exact e, by rw [SL, upd_ne nDq, upd_same]; rfl, by rw [SL, upd_same]; rfl⟩ (fun j H' _ z => z.2.1.sq) ?_ ?_
          · rintro j x H' hx ⟨sm, hq', hD'⟩
            obtain ⟨z, hz, rfl⟩ := get_map hx
            refine ⟨rfl, _, rfl, _, rfl, L, _, rfl, .inl (hLX.same sm).sq, rfl, flat_strs ss, ?_⟩
            refine ⟨_, rfl, ?_⟩
            rw [if_pos rfl, inV_str]
            have lj : j < 26 := by rw [← abc_len]; exact (List.getElem?_eq_some_iff.mp hz).1
            by_cases hzs : z ∈ ss
            · have e1 : decide (z ∈ ss) = true := decide_eq_true hzs
              rw [e1]
              refine iteF ?_
              refine ⟨sm, hq', ?_⟩
              rw [filt_no hz (by simpa using hzs)]
              exact hD'
            · have e1 : decide (z ∈ ss) = false := decide_eq_false hzs
              rw [e1]
              refine iteT ?_
              refine ⟨_, rfl, _, hD', by rw [List.length_map, sizeLine_eq]; exact Nat.lt_of_le_of_lt (List.length_filter_le _ _) (by rw [List.length_take]; omega), fun b u e => ?_, ?_, ?_⟩
              · rw [upd_ne (ne_of_none e hDX)]; exact sm _ _ e
              · rw [SL, upd_ne nDq]; exact hq'
              · rw [SL, upd_same, filt_yes hz (by simpa using hzs), List.map_append]
                rfl
          · rintro H' ⟨sm, hq', hD'⟩
            have lf : ((signs abc).map V.str).length = (signs abc).length := List.length_map _
            rw [lf, List.take_length] at hD'
            obtain ⟨x, rr, ex, nx, wx⟩ := abc_left (ss := ss) (by omega)
            refine ⟨D, _, 0, .str x, rfl, rfl, SqL.of hD', by rw [ex]; exact atI_nat (j := 0) rfl, ?_⟩
            refine ⟨_, rfl, .inl ⟨rfl, _, SqL.of (hLX.same sm)⟩, _, rfl, L, _, _, rfl, rfl, hLX.same sm, by rw [List.length_map, sizeLine_eq]; omega, ?_⟩
            exact ⟨_, _, ss ++ [x], tY, rfl, But.ofL hL0 (bX.trans (But.of sm)), by rw [SL, upd_same, List.map_append]; rfl, by rw [List.length_append, ls]; rfl, nodup_app nd nx, wd_app aw wx, (hpX.same sm).upd npL, by omega⟩
        · refine ⟨_, rfl, .inl ⟨rfl, _, SqL.of hLX⟩, _, rfl, L, _, _, rfl, rfl, hLX, by rw [List.length_map, sizeLine_eq]; omega, ?_⟩
          exact ⟨_, _, ss ++ [wX], tY, rfl, But.ofL hL0 bX, by rw [SL, upd_same, List.map_append]; rfl, by rw [List.length_append, ls]; rfl, nodup_app nd (of_decide_eq_false (Bool.eq_false_iff.mpr c)), wd_app aw wwX, hpX.upd npL, by omega⟩
    · rintro σ H' ⟨v6, v7, ss, t', rfl, b, hS, ls, nd, aw, hp', tt⟩
      exact ⟨_, rfl, k H' L ss t' b hL0 hS ls nd aw hp' (by omega)⟩
end
end D1
end L2
/-! pool, turns -/
namespace L2
namespace D1
open PySem PySem.Spec PyProof.Rows
def unS : V → Str
  | .str x => x
  | _ => ""
theorem Purse.ne {H : Hp} {p q : Addr} {t : Int} (h : Purse H p t) (n : H q = none) : q ≠ p := by
  obtain ⟨u, hu⟩ := h.some; exact (ne_of_none hu n).symm
theorem Purse.new {H : Hp} {p q : Addr} {t : Int} {o : HO} (h : Purse H p t) (n : H q = none) : Purse (L2.upd H q o) p t := h.upd (h.ne n).symm
theorem SL.new {H : Hp} {q a : Addr} {ss : List Str} {o : HO} (h : SL H a ss) (n : H q = none) : SL (L2.upd H q o) a ss := h.same (Same.new n)
theorem But.newt {p q : Addr} {H H1 : Hp} {o : HO} (h : But p H H1) (n : H1 q = none) : But p H (L2.upd H1 q o) := h.trans (But.new n)
theorem unS_map (ss : List Str) : (ss.map V.str).map unS = ss := by
  rw [List.map_map]
  exact List.map_id'' (fun _ => rfl) ss
/-- a permutation of texts is one of texts -/
theorem perm_str {ys : List V} {ss : List Str} (h : ys.Perm (ss.map V.str)) : ∃ zs : List Str, ys = zs.map V.str ∧ zs.Perm ss := by
  have a : ∀ y ∈ ys, y = V.str (unS y) := fun y hy => by
    obtain ⟨x, _, rfl⟩ := List.mem_map.mp (h.mem_iff.mp hy)
    rfl
  refine ⟨ys.map unS, ?_, ?_⟩
  · rw [List.map_map]
    refine (List.map_congr_left (g := id) fun y hy => (a y hy).symm).trans ?_ |>.symm
    exact List.map_id ys
  · have := h.map unS
    rwa [unS_map] at this
def cutL {α : Type} (xs : List α) (lo hi : Option Int) : List α := (xs.drop (HT.sIx xs.length 0 lo)).take (HT.sIx xs.length xs.length hi - HT.sIx xs.length 0 lo)
theorem cutV_map (ss : List Str) (lo hi : Option Int) : cutV (ss.map V.str) lo hi = (cutL ss lo hi).map V.str := by
  unfold cutV cutL
  rw [List.length_map, List.map_take, List.map_drop]
theorem cutL_to {α : Type} (xs : List α) {k : Int} (h : 0 ≤ k) : cutL xs none (some k) = xs.take k.toNat := by
  unfold cutL
  rw [HT.sIx_none, sIx_of h, Nat.sub_zero, List.drop_zero]
  rcases Nat.le_total k.toNat xs.length with q | q
  · rw [Nat.min_eq_left q]
  · rw [Nat.min_eq_right q, List.take_of_length_le (Nat.le_refl _), List.take_of_length_le q]
theorem cutL_from {α : Type} (xs : List α) {k : Int} (h : 0 ≤ k) : cutL xs (some k) none = xs.drop k.toNat := by
  unfold cutL
  rw [HT.sIx_none, sIx_of h]
  rcases Nat.le_total k.toNat xs.length with q | q
  · rw [Nat.min_eq_left q]
    exact List.take_of_length_le (by rw [List.length_drop]; omega)
  · rw [Nat.min_eq_right q, List.drop_of_length_le (Nat.le_refl _), List.drop_of_length_le q, List.take_nil]
abbrev sTurns : Stmt := top 45
def spPool : Sp := fun vs H Q _ => ∃ (p : Addr) (t : Int), vs = [.ref p] ∧ Purse H p t ∧ t < 2 ^ 27 ∧
  ∀ (H' : Hp) (R : Addr) (ss : List Str) (t' : Int), But p H H' → H R = none → SL H' R ss → ss.length = 6 → ss.Nodup → (∀ x ∈ ss, Wd x) → Purse H' p t' → t' ≤ t + 400 → Q (.ref R) H'
/-- turns as they stand in a dict -/
def kT (ts : List (Str × Str)) : List (Key × V) := ts.map fun t => (Sum.inr t.1, V.str t.2)
def putT (ts : List (Str × Str)) (k v : Str) : List (Str × Str) := if (ts.any fun t => decide (t.1 = k)) = true then ts.map (fun t => if t.1 = k then (t.1, v) else t) else ts ++ [(k, v)]
theorem any_kT (ts : List (Str × Str)) (k : Str) : ((kT ts).any fun kv => decide (kv.1 = Sum.inr k)) = ts.any fun t => decide (t.1 = k) := by
  rw [kT, List.any_map]
  refine congrArg (fun f => ts.any f) (funext fun t => ?_)
  show decide ((Sum.inr t.1 : Key) = Sum.inr k) = _
  by_cases h : t.1 = k
  · rw [h]; simp
  · have : ¬ (Sum.inr t.1 : Key) = Sum.inr k := fun e => h (Sum.inr.inj e)
    simp [h, this]
theorem putK_kT (ts : List (Str × Str)) (k v : Str) : putK (kT ts) (.inr k) (.str v) = kT (putT ts k v) := by
  unfold putK putT
  rw [any_kT]
  by_cases h : (ts.any fun t => decide (t.1 = k)) = true
  · rw [if_pos h, if_pos h, kT, kT, List.map_map, List.map_map]
    refine List.map_congr_left fun t _ => ?_
    show (if (Sum.inr t.1 : Key) = Sum.inr k then ((Sum.inr t.1 : Key), V.str v) else ((Sum.inr t.1 : Key), V.str t.2)) = _
    by_cases e : t.1 = k
    · rw [if_pos (congrArg _ e)]; simp [e]
    · rw [if_neg fun z => e (Sum.inr.inj z)]; simp [e]
  · rw [if_neg h, if_neg h, kT, kT, List.map_append]
    rfl
theorem any_mem (ts : List (Str × Str)) (k : Str) : ((ts.any fun t => decide (t.1 = k)) = true) ↔ k ∈ ts.map (·.1) := by
  rw [List.any_eq_true]
  constructor
  · rintro ⟨t, ht, e⟩
    exact List.mem_map.mpr ⟨t, ht, of_decide_eq_true e⟩
  · intro h
    obtain ⟨t, ht, e⟩ := List.mem_map.mp h
    exact ⟨t, ht, decide_eq_true e⟩
theorem putT_keys (ts : List (Str × Str)) (k v : Str) : (putT ts k v).map (·.1) = if k ∈ ts.map (·.1) then ts.map (·.1) else ts.map (·.1) ++ [k] := by
  unfold putT
  by_cases h : (ts.any fun t => decide (t.1 = k)) = true
  · rw [if_pos h, if_pos ((any_mem ts k).mp h), List.map_map]
    refine List.map_congr_left fun t _ => ?_
    show (if t.1 = k then (t.1, v) else t).1 = t.1
    by_cases e : t.1 = k
    · rw [if_pos e]
    · rw [if_neg e]
  · rw [if_neg h, if_neg fun z => h ((any_mem ts k).mpr z), List.map_append]
    rfl
theorem putT_goal {ts : List (Str × Str)} {k v : Str} : ∀ t ∈ putT ts k v, t.2 = v ∨ t ∈ ts := by
  unfold putT
  intro t ht
  by_cases h : (ts.any fun t => decide (t.1 = k)) = true
  · rw [if_pos h] at ht
    obtain ⟨u, hu, e⟩ := List.mem_map.mp ht
    by_cases c : u.1 = k
    · rw [if_pos c] at e; exact .inl (by rw [← e])
    · rw [if_neg c] at e; exact .inr (e ▸ hu)
  · rw [if_neg h] at ht
    rcases List.mem_append.mp ht with ht | ht
    · exact .inr ht
    · obtain rfl := List.mem_singleton.mp ht; exact .inl rfl
def TurnsAt (H : Hp) (a : Addr) (ts : List (Str × Str)) : Prop := H a = some (.dK (kT ts))
theorem TurnsAt.same {H H' : Hp} {a : Addr} {ts : List (Str × Str)} (h : TurnsAt H a ts) (s : Same H H') : TurnsAt H' a ts := s _ _ h
/-- turns over the words ws to the states ss -/
structure TOk (ts : List (Str × Str)) (ss ws : List Str) : Prop where
  nd : (ts.map (·.1)).Nodup
  ks : ∀ t ∈ ts, t.1 ∈ ws
  gs : ∀ t ∈ ts, t.2 ∈ ss
theorem TOk.nil {ss ws : List Str} : TOk [] ss ws := ⟨List.nodup_nil, by simp, by simp⟩
theorem TOk.len {ts : List (Str × Str)} {ss ws : List Str} (h : TOk ts ss ws) : ts.length ≤ ws.length := by
  have := pigeon (ts.map (·.1)) ws h.nd fun x hx => by obtain ⟨t, ht, rfl⟩ := List.mem_map.mp hx; exact h.ks t ht
  rwa [List.length_map] at this
theorem TOk.put {ts : List (Str × Str)} {ss ws : List Str} {k v : Str} (h : TOk ts ss ws) (hk : k ∈ ws) (hv : v ∈ ss) : TOk (putT ts k v) ss ws := by
  refine ⟨?_, fun t ht => ?_, fun t ht => ?_⟩
  · rw [putT_keys]
    by_cases c : k ∈ ts.map (·.1)
    · rw [if_pos c]; exact h.nd
    · rw [if_neg c]; exact nodup_app h.nd c
  · have : t.1 ∈ (putT ts k v).map (·.1) := List.mem_map_of_mem ht
    rw [putT_keys] at this
    have key : t.1 ∈ ts.map (·.1) → t.1 ∈ ws := fun z => by obtain ⟨u, hu, e⟩ := List.mem_map.mp z; rw [← e]; exact h.ks u hu
    by_cases c : k ∈ ts.map (·.1)
    · rw [if_pos c] at this; exact key this
    · rw [if_neg c] at this
      rcases List.mem_append.mp this with z | z
      · exact key z
      · rw [List.mem_singleton.mp z]; exact hk
  · rcases putT_goal t ht with e | e
    · rw [e]; exact hv
    · exact h.gs t e
theorem putT_ne {ts : List (Str × Str)} {k v : Str} : putT ts k v ≠ [] := fun e => by
  have := congrArg (List.map (·.1)) e
  rw [putT_keys] at this
  by_cases c : k ∈ ts.map (·.1)
  · rw [if_pos c] at this
    have e2 : ts.map (·.1) = [] := this
    rw [e2] at c; cases c
  · rw [if_neg c] at this; simp at this
def spTurns : Sp := fun vs H Q _ => ∃ (p S W : Addr) (ss ws : List Str) (at' top' t : Int), vs = [.ref p, .ref S, .ref W, .int at', .int top'] ∧ Purse H p t ∧ SL H S ss ∧ SL H W ws ∧ S ≠ p ∧ W ≠ p ∧ 1 ≤ ss.length ∧ ss.length ≤ 1000 ∧ 1 ≤ ws.length ∧ ws.length ≤ 20 ∧ ws.Nodup ∧ 0 ≤ at' ∧ at' < 2 ^ 20 ∧ 1 ≤ top' ∧ top' < 2 ^ 20 ∧ t < 2 ^ 27 ∧
  ∀ (H' : Hp) (R : Addr) (ts : List (Str × Str)) (t' : Int), But p H H' → H R = none → TurnsAt H' R ts → TOk ts ss ws → ts ≠ [] → Purse H' p t' → t' ≤ t + 50 → Q (.ref R) H'
def nmsL : List Str := ["says", "hears", "done", "start", "end"]
theorem nms_wd : ∀ x ∈ nmsL, Wd x := by
  have h : ∀ x ∈ nmsL, 1 ≤ x.length ∧ x.length ≤ 8 ∧ ∀ c ∈ tl x, 97 ≤ c ∧ c ≤ 122 := by decide +kernel
  exact fun x hx => ⟨(h x hx).1, (h x hx).2.1, (h x hx).2.2⟩
theorem nms_nd : nmsL.Nodup := by decide +kernel
section
variable {P : Program} {w : World} {K : PySem.W.Frag} {mg : Str → Option Value} {base : Heap}
abbrev COne (P : Program) (w : World) (K : PySem.W.Frag) (mg : Str → Option Value) (base : Heap) := Cal P w K mg base "_law_one_of" 3 ["_law_purse_here", "_law_some"] spOneOf
theorem scPo : FnScope ["_law_purse_here", "_law_words_here", "_law_word_here"] ["_law_purse_here"] (defScope sPool) := ⟨rfl, rfl, rfl, by decide +kernel, rfl, by decide +kernel, by decide +kernel⟩
theorem ok_pool {f : Addr} {fd : FuncData} (F : Fun K "_law_pool" "_law_pool" sPool f fd) (T : Free2 mg) (CD : CDraw P w K mg base) (CW : CWords P w K mg base) (CS : CShuf P w K mg base) :
    FnOk P w K mg base CX0 5 f fd ["_law_purse_here"] spPool := by
  refine F.ok scPo (fun vs H Q E h => ?_) (fun cdv A outer s H vs Q E hr h => ?_)
  · obtain ⟨p, t, rfl, _⟩ := h; rfl
  · obtain ⟨p, t, rfl, hp, t1, k⟩ := h
    refine ⟨_, pss_cons (ps_set (i := 1) scPo.nd rfl (Or.inr rfl) (pe_cal CW (hr.mono (by decide)) rfl (pa_cons (pv 0) (pa_cons pe_int pa_nil))))
      (pss_cons (ps_if (pt_cmpR op_eq (pe_cal CD (hr.mono (by decide)) rfl (pa_cons (pv 0) (pa_cons pe_int pa_nil))) pe_int (nomark _))
        (pss_one (ps_set (i := 1) scPo.nd rfl (Or.inr rfl) (pe_slice sl_list (pe_op op_cat (pe_slice sl_list (pe_lc (own := [("_law_word_here", 2)]) (g := gName 2) (tt := tTest (tOp (rIn K true) (tVar 2) (tVar 1))) rfl scPo.nd
            (pi_list (pe_lst (pa_cons pe_str (pa_cons pe_str (pa_cons pe_str (pa_cons pe_str (pa_cons pe_str pa_nil)))))))
            (blkOk_by (N := ["_law_purse_here", "_law_words_here", "_law_word_here"]) (sc := defScope sPool) (by decide +kernel)) (fun _ _ _ _ _ => pg_name (i := 2) scPo.nd rfl (Or.inl rfl))
            (fun _ _ _ _ _ => pts_one (pt_cmpR op_notIn_seq (pv 2) (pv 1) rfl)) (fun _ _ _ _ _ => pv 2)) po_none (po_some pe_int)) (pv 1)) po_none (po_some pe_int)))) pss_nil)
      (pss_one (ps_ret (pe_cal CS (hr.mono (by decide)) rfl (pa_cons (pv 0) (pa_cons (pv 1) pa_nil)))))), ?_⟩
    refine ⟨_, rfl, p, 6, t, rfl, hp, by decide, by decide, by omega, fun H1 R ss t1' b1 hR hS ls nd aw hp1 tt1 => ?_⟩
    refine ⟨_, rfl, p, 3, t1', rfl, hp1, by decide, by decide, by omega, fun r t2 o r0 r1 tt2 hp2 => ?_⟩
    have nRp : R ≠ p := fun e => by obtain ⟨u, hu⟩ := hp.some; rw [← e, hR] at hu; cases hu
    have b2 := b1.trans (But.upd p H1 o)
    have hS2 : SL (L2.upd H1 p o) R ss := by rw [SL, upd_ne nRp]; exact hS
    generalize L2.upd H1 p o = H2 at b2 hS2 hp2
    refine ⟨rfl, _, rfl, ?_⟩
    refine ite2 (fun _ => ?_) (fun _ => ?_)
    · refine ⟨by show 5 ≤ sizeLine; decide, fun q hq => ⟨q, rfl, ⟨_, SqL.of upd_same⟩, fun D hD => ?_⟩⟩
      have nRq : R ≠ q := ne_of_none hS2 hq
      have hD2 := upd_none' hD
      have nRD : R ≠ D := ne_of_none hS2 hD2
      have nDq : q ≠ D := fun e => by rw [e, upd_same] at hD; cases hD
      refine lc_list (K := K) (a := q) (xs := nmsL.map V.str) (fun j H' => Same H2 H' ∧ SL H' q nmsL ∧ SL H' D ((nmsL.take j).filter fun x => decide (x ∉ ss)))
        ⟨fun b u e => by rw [upd_ne (ne_of_none e hD2), upd_ne (ne_of_none e hq)]; exact e, by rw [SL, upd_ne nDq, upd_same]; rfl, by rw [SL, upd_same]; rfl⟩ (fun j H' _ z => z.2.1.sq) ?_ ?_
      · rintro j x H' hx ⟨sm, hq', hD'⟩
        obtain ⟨z, hz, rfl⟩ := get_map hx
        refine ⟨rfl, _, rfl, _, rfl, R, _, rfl, .inl (hS2.same sm).sq, rfl, flat_strs ss, ?_⟩
        refine ⟨_, rfl, ?_⟩
        rw [if_pos rfl, inV_str]
        have lj : j < 5 := (List.getElem?_eq_some_iff.mp hz).1
        by_cases hzs : z ∈ ss
        · rw [decide_eq_true hzs]
          refine iteF ⟨sm, hq', ?_⟩
          rw [filt_no hz (by simpa using hzs)]
          exact hD'
        · rw [decide_eq_false hzs]
          refine iteT ⟨_, rfl, _, hD', by rw [List.length_map, sizeLine_eq]; exact Nat.lt_of_le_of_lt (List.length_filter_le _ _) (by rw [List.length_take]; omega), fun b u e => ?_, ?_, ?_⟩
          · rw [upd_ne (ne_of_none e hD2)]; exact sm _ _ e
          · rw [SL, upd_ne nDq]; exact hq'
          · rw [SL, upd_same, filt_yes hz (by simpa using hzs), List.map_append]
            rfl
      · rintro H3 ⟨sm, hq', hD'⟩
        rw [show (nmsL.map V.str).length = 5 from rfl, show nmsL.take 5 = nmsL from rfl] at hD'
        refine ⟨_, rfl, D, _, rfl, SqL.of hD', fun q2 hq2 => ?_⟩
        have hR3 := hS2.same sm
        refine ⟨_, rfl, q2, R, _, _, rfl, rfl, upd_same, by rw [upd_ne (ne_of_none hR3 hq2)]; exact hR3, ?_, fun q3 hq3 => ?_⟩
        · rw [cutV_map, List.length_map, List.length_map, cutL_to _ (by decide), List.length_take, sizeLine_eq, ls]; omega
        refine ⟨_, rfl, q3, _, rfl, SqL.of upd_same, fun q4 hq4 => ?_⟩
        rw [cutV_map, ← List.map_append, cutV_map, cutL_to _ (by decide), cutL_to _ (by decide)]
        rw [cutV_map, ← List.map_append, cutL_to _ (by decide)] at hq4
        rw [cutV_map, cutL_to _ (by decide)] at hq3
        have wf : ∀ x ∈ nmsL.filter (fun x => decide (x ∉ ss)), x ∉ ss ∧ Wd x := fun x hx => by
          obtain ⟨h1, h2⟩ := List.mem_filter.mp hx
          exact ⟨by simpa using h2, nms_wd x h1⟩
        have nf : (nmsL.filter (fun x => decide (x ∉ ss))).Nodup := nms_nd.filter _
        generalize nmsL.filter (fun x => decide (x ∉ ss)) = fs at wf nf hq3 hq4 ⊢
        have lf : ((fs.take (2 : Int).toNat ++ ss).take (6 : Int).toNat).length = 6 := by
          rw [List.length_take, List.length_append, ls]; show min 6 _ = 6; omega
        have ndf : ((fs.take (2 : Int).toNat ++ ss).take (6 : Int).toNat).Nodup :=
          List.Nodup.sublist (List.take_sublist _ _) (List.nodup_append.mpr ⟨List.Nodup.sublist (List.take_sublist _ _) nf, nd, fun x hx y hy e => (wf x (List.mem_of_mem_take hx)).1 (e ▸ hy)⟩)
        have awf : ∀ x ∈ (fs.take (2 : Int).toNat ++ ss).take (6 : Int).toNat, Wd x := fun x hx => by
          rcases List.mem_append.mp (List.mem_of_mem_take hx) with z | z
          · exact (wf x (List.mem_of_mem_take z)).2
          · exact aw x z
        generalize (fs.take (2 : Int).toNat ++ ss).take (6 : Int).toNat = gs at lf ndf awf
        have b3 : But p H H3 := b2.trans (But.of sm)
        have hp3 := hp2.same sm
        refine ⟨_, rfl, _, rfl, p, q4, _, t2, rfl, ((hp3.new hq2).new hq3).new hq4, upd_same, ((hp3.new hq2).new hq3).ne hq4, by rw [List.length_map, lf]; decide, by omega, fun H5 R5 ys t5 b5 hR5 hy pm hp5 tt5 => ?_⟩
        obtain ⟨zs, rfl, pz⟩ := perm_str pm
        rw [List.length_map, lf] at tt5
        exact k H5 R5 zs t5 ((((b3.newt hq2).newt hq3).newt hq4).trans b5) ((((b3.newt hq2).newt hq3).newt hq4).fr hR5 ((((hp3.new hq2).new hq3).new hq4).ne hR5)) hy (by rw [pz.length_eq, lf]) (pz.nodup_iff.mpr ndf) (fun x hx => awf x (pz.mem_iff.mp hx)) hp5 (by omega)
    · refine ⟨_, rfl, _, rfl, p, R, _, t2, rfl, hp2, hS2, nRp, by rw [List.length_map, ls]; decide, by omega, fun H5 R5 ys t5 b5 hR5 hy pm hp5 tt5 => ?_⟩
      obtain ⟨zs, rfl, pz⟩ := perm_str pm
      rw [List.length_map, ls] at tt5
      exact k H5 R5 zs t5 (b2.trans b5) (b2.fr hR5 (hp2.ne hR5)) hy (by rw [pz.length_eq, ls]; rfl) (pz.nodup_iff.mpr nd) (fun x hx => aw x (pz.mem_iff.mp hx)) hp5 (by omega)
theorem scTu : FnScope ["_law_purse_here", "_law_states", "_law_words_here", "_law_at", "_law_top", "_law_many", "_law_found", "_law_word_here"] ["_law_purse_here", "_law_states", "_law_words_here", "_law_at", "_law_top"] (defScope sTurns) := ⟨rfl, rfl, rfl, by decide +kernel, rfl, by decide +kernel, by decide +kernel⟩
theorem ok_turns {f : Addr} {fd : FuncData} (F : Fun K "_law_turns" "_law_turns" sTurns f fd) (T : Free2 mg) (CD : CDraw P w K mg base) (CO : COne P w K mg base) (CS : CShuf P w K mg base) :
    FnOk P w K mg base CX0 4 f fd ["_law_purse_here", "_law_states", "_law_words_here", "_law_at", "_law_top"] spTurns := by
  refine F.ok scTu (fun vs H Q E h => ?_) (fun cdv A outer s H vs Q E hr h => ?_)
  · obtain ⟨p, S, W, ss, ws, a, b, t, rfl, _⟩ := h; rfl
  · obtain ⟨p, S, W, ss, ws, at', top', t, rfl, hp, hS, hW, nS, nW, s1, s2, w1, w2, wnd, a0, a1, p0, p1, t1, k⟩ := h
    have hu := hu_of hr
    refine ⟨_, pss_cons (ps_par (i := 5) (j := 6) rfl scTu.nd rfl rfl (by decide) rfl rfl (pa_cons (pe_op op_add pe_int (pe_cal CD (hr.mono (by decide)) rfl (pa_cons (pv 0) (pa_cons (pe_callB (call_max2 rfl) (by rfl) T.max (by decide +kernel) (pa_cons pe_int (pa_cons (pe_callB (call_min2 rfl) (by rfl) T.min (by decide +kernel) (pa_cons (pv 4) (pa_cons (pe_callB call_len_seq (by rfl) T.len PySem.boot_len (pa_cons (pv 2) pa_nil)) pa_nil))) pa_nil))) pa_nil)))) (pa_cons pe_dnewK pa_nil)) (by rfl))
      (pss_cons (ps_for PassesOwn.never rfl (pi_list (pe_slice sl_list (pe_cal CS (hr.mono (by decide)) rfl (pa_cons (pv 0) (pa_cons (pv 2) pa_nil))) po_none (po_some (pv 5)))) (pg_name (i := 7) scTu.nd rfl (Or.inl rfl))
        (pss_one (ps_dput hu (pv 6) (pv 7) (pe_cal CO (hr.mono (by decide)) rfl (pa_cons (pv 0) (pa_cons (pv 1) pa_nil))) rfl)))
      (pss_cons (ps_if (PW.pt (pw_and (pt_cmpR op_lt (pe_op op_add (pv 3) pe_int) (pe_callB call_len_seq (by rfl) T.len PySem.boot_len (pa_cons (pv 1) pa_nil)) (nomark _)) (pw_and1 (pt_cmpR op_gt (pe_cal CD (hr.mono (by decide)) rfl (pa_cons (pv 0) (pa_cons pe_int pa_nil))) pe_int (nomark _)))))
        (pss_one (ps_dput hu (pv 6) (pe_cal CO (hr.mono (by decide)) rfl (pa_cons (pv 0) (pa_cons (pe_callTy (call_listD rfl) (by rfl) T.list (by decide +kernel) (pa_cons (pv 6) pa_nil)) pa_nil))) (pe_cal CO (hr.mono (by decide)) rfl (pa_cons (pv 0) (pa_cons (pe_slice sl_list (pv 1) (po_some (pe_op op_add (pv 3) pe_int)) po_none) pa_nil))) rfl)) pss_nil)
      (pss_one (ps_ret (pv 6))))), ?_⟩
    refine ⟨_, rfl, _, rfl, _, rfl, W, _, rfl, .inl hW.sq, top', _, rfl, ?_⟩
    rw [List.length_map]
    refine ⟨1, _, rfl, ?_⟩
    generalize hM : (if (if (ws.length : Int) < top' then (ws.length : Int) else top') > 1 then (if (ws.length : Int) < top' then (ws.length : Int) else top') else (1 : Int)) = M
    have bM : 1 ≤ M ∧ M ≤ 20 := by
      rw [← hM]
      (repeat' split) <;> omega
    refine ⟨p, M, t, rfl, hp, bM.1, by omega, by omega, fun r t2 o r0 r1 tt2 hp2 => ?_⟩
    refine ⟨_, _, rfl, rfl, fun D hD => ⟨_, _, rfl, ?_⟩⟩
    have hS2 : SL (L2.upd H p o) S ss := by rw [SL, upd_ne nS]; exact hS
    have hW2 : SL (L2.upd H p o) W ws := by rw [SL, upd_ne nW]; exact hW
    have b2 := But.upd p H o
    generalize L2.upd H p o = H2 at hS2 hW2 hp2 b2 hD
    have hD0 := b2.fr hD (hp2.ne hD)
    refine ⟨_, rfl, _, rfl, p, W, _, t2, rfl, hp2.new hD, hW2.new hD, nW, by rw [List.length_map]; omega, by omega, fun H3 R ys t3 b3 hR hy pm hp3 tt3 => ?_⟩
    obtain ⟨zs, rfl, pz⟩ := perm_str pm
    refine ⟨_, rfl, _, rfl, R, _, rfl, SqL.of hy, fun q hq => ⟨q, rfl, ⟨_, SqL.of upd_same⟩, ?_⟩⟩
    rw [cutV_map, cutL_to _ (by omega)]
    have lz : zs.length = ws.length := pz.length_eq
    rw [List.length_map] at tt3
    have hm : 1 ≤ (1 + r).toNat := by omega
    generalize (1 + r).toNat = m at hm
    have lm : (zs.take m).length ≤ 20 ∧ 1 ≤ (zs.take m).length := by rw [List.length_take]; omega
    have mm : ∀ z ∈ zs.take m, z ∈ ws := fun z hz => pz.mem_iff.mp (List.mem_of_mem_take hz)
    generalize zs.take m = us at lm mm
    have nDp := hp2.ne hD
    have hS3 : SL H3 S ss := b3 _ _ nS (hS2.new hD)
    have hD3 : TurnsAt H3 D [] := b3 _ _ nDp upd_same
    have nqp := hp3.ne hq
    have nqD : D ≠ q := ne_of_none hD3 hq
    have b30 : But p H H3 := (b2.newt hD).trans b3
    refine for_list (K := K) (a := q) (xs := us.map V.str) (fun i σ H' => ∃ (v7 : Option V) (ts : List (Str × Str)) (t' : Int), σ = [some (.ref p), some (.ref S), some (.ref W), some (.int at'), some (.int top'), some (.int (1 + r)), some (.ref D), v7] ∧ But p H H' ∧ SL H' q us ∧ SL H' S ss ∧ TurnsAt H' D ts ∧ TOk ts ss ws ∧ (0 < i → ts ≠ []) ∧ Purse H' p t' ∧ t' ≤ t3 + i)
      ⟨none, [], t3, rfl, b30.newt hq, upd_same, hS3.new hq, hD3.same (Same.new hq), TOk.nil, fun c => absurd c (by decide), hp3.new hq, by omega⟩ (fun i σ H' _ ⟨v7, ts, t', _, _, z, _⟩ => z.sq) ?_ ?_
    · rintro i x σ H' hx ⟨v7, ts, t', rfl, b, hq', hS', hD', ok, ne, hp', tt'⟩
      obtain ⟨z, hz, rfl⟩ := get_map hx
      have hzm := mm z (List.mem_of_getElem? hz)
      have li : i < us.length := (List.getElem?_eq_some_iff.mp hz).1
      have lts := ok.len
      refine ⟨_, rfl, _, rfl, p, S, _, t', rfl, hp', hS', nS, by rw [List.length_map]; omega, by rw [List.length_map]; omega, by omega, fun j v t4 o4 hj tt4 hp4 => ?_⟩
      obtain ⟨g, hg, rfl⟩ := get_map hj
      have hgm := List.mem_of_getElem? hg
      refine ⟨_, rfl, _, rfl, D, _, rfl, DPut.k (k := Sum.inr z) (by rw [upd_ne nDp]; exact hD') (by rw [kT, List.length_map, sizeLine_eq]; omega), ?_⟩
      rw [putK_kT]
      have hDn : H D = none := hD0
      refine ⟨_, _, t4, rfl, But.ofL hDn (b.trans (But.upd p H' o4)), ?_, ?_, upd_same, ok.put hzm hgm, fun _ => putT_ne, hp4.upd nDp.symm, by omega⟩
      · rw [SL, upd_ne nqD.symm, upd_ne nqp]; exact hq'
      · have nSD : S ≠ D := fun e => by rw [e] at hS; rw [hS] at hDn; cases hDn
        rw [SL, upd_ne nSD, upd_ne nS]; exact hS'
    · rintro σ H' ⟨v7, ts, t', rfl, b, hq', hS', hD', ok, ne, hp', tt'⟩
      rw [List.length_map] at ne tt'
      have ne' := ne (by omega)
      have lts := ok.len
      refine ⟨_, rfl, _, _, rfl, rfl, _, rfl, S, _, rfl, .inl hS'.sq, _, _, rfl, rfl, _, rfl, ?_⟩
      rw [List.length_map]
      refine ite2 (fun c => ?_) (fun c => ?_)
      · refine ⟨_, rfl, p, 8, t', rfl, hp', by decide, by decide, by omega, fun r5 t5 o5 r50 r51 tt5 hp5 => ⟨_, _, rfl, rfl, _, rfl, ?_⟩⟩
        have hS5 : SL (L2.upd H' p o5) S ss := by rw [SL, upd_ne nS]; exact hS'
        have hD5 : TurnsAt (L2.upd H' p o5) D ts := by rw [TurnsAt, upd_ne nDp]; exact hD'
        have b5 := b.trans (But.upd p H' o5)
        generalize L2.upd H' p o5 = H5 at hS5 hD5 hp5 b5
        refine ite2 (fun c2 => ?_) (fun c2 => ?_)
        · have c' := of_decide_eq_true c
          refine ⟨_, rfl, _, rfl, _, rfl, _, _, rfl, rfl, _, rfl, S, _, rfl, hS5.sq, fun q6 hq6 => ?_⟩
          rw [cutV_map, cutL_from _ (by omega)]
          refine ⟨p, q6, _, t5, rfl, hp5.new hq6, upd_same, hp5.ne hq6, ?_, ?_, by omega, fun j v t6 o6 hj tt6 hp6 => ?_⟩
          · rw [List.length_map, List.length_drop]; omega
          · rw [List.length_map, List.length_drop]; omega
          obtain ⟨g, hg, rfl⟩ := get_map hj
          have hgm := List.mem_of_mem_drop (List.mem_of_getElem? hg)
          have hD6 : TurnsAt (L2.upd (L2.upd H5 q6 (.lst ((ss.drop (at' + 1).toNat).map V.str))) p o6) D ts := by
            rw [TurnsAt, upd_ne nDp]; exact hD5.same (Same.new hq6)
          have b6 := (b5.newt (o := .lst ((ss.drop (at' + 1).toNat).map V.str)) hq6).trans (But.upd p _ o6)
          generalize L2.upd (L2.upd H5 q6 (.lst ((ss.drop (at' + 1).toNat).map V.str))) p o6 = H6 at hp6 hD6 b6
          refine ⟨_, rfl, _, rfl, _, rfl, D, _, rfl, .inl hD6, fun q7 hq7 => ?_⟩
          have ek : (kT ts).map (fun kv => kV kv.1) = (ts.map (·.1)).map V.str := by
            rw [kT, List.map_map, List.map_map]; rfl
          rw [ek]
          refine ⟨p, q7, _, t6, rfl, hp6.new hq7, upd_same, hp6.ne hq7, ?_, ?_, by omega, fun j v t8 o8 hj tt8 hp8 => ?_⟩
          · rw [List.length_map, List.length_map]; have := List.length_pos_iff.mpr ne'; omega
          · rw [List.length_map, List.length_map]; omega
          obtain ⟨kk, hkk, rfl⟩ := get_map hj
          have hkm : kk ∈ ws := by
            obtain ⟨u, hu, e⟩ := List.mem_map.mp (List.mem_of_getElem? hkk)
            rw [← e]; exact ok.ks u hu
          refine ⟨D, _, rfl, DPut.k (k := Sum.inr kk) (by rw [upd_ne nDp]; exact hD6.same (Same.new hq7)) (by rw [kT, List.length_map, sizeLine_eq]; omega), ?_⟩
          rw [putK_kT]
          refine ⟨_, rfl, k _ D _ t8 (But.ofL hD0 ((b6.newt hq7).trans (But.upd p _ o8))) hD0 upd_same (ok.put hkm hgm) putT_ne (hp8.upd nDp.symm) (by omega)⟩
        · exact ⟨_, rfl, k H5 D ts t5 b5 hD0 hD5 ok ne' hp5 (by omega)⟩
      · exact ⟨_, rfl, k H' D ts t' b hD0 hD' ok ne' hp' (by omega)⟩
end
end D1
end L2
/-! books as they stand; world -/
namespace L2
namespace D1
open PySem PySem.Spec PyProof.Rows
abbrev RowD := Str × Str × List (Str × Str)
abbrev Bk := List RowD
def RowAt (H : Hp) (v : V) (k : Str) (ts : List (Str × Str)) : Prop := ∃ t a, v = .ref t ∧ H t = some (.tup [.str k, .ref a]) ∧ TurnsAt H a ts
theorem RowAt.same {H H' : Hp} {v : V} {k : Str} {ts : List (Str × Str)} (h : RowAt H v k ts) (s : Same H H') : RowAt H' v k ts := by
  obtain ⟨t, a, e, h1, h2⟩ := h; exact ⟨t, a, e, s _ _ h1, h2.same s⟩
def Rows (H : Hp) : List (Key × V) → Bk → Prop := Paired fun kv r => kv.1 = Sum.inr r.1 ∧ RowAt H kv.2 r.2.1 r.2.2
theorem Rows.same {H H' : Hp} {kvs : List (Key × V)} {bk : Bk} (h : Rows H kvs bk) (s : Same H H') : Rows H' kvs bk := by
  unfold Rows at h ⊢
  induction h with
  | nil => exact .nil
  | cons a b ih => exact .cons ⟨a.1, a.2.same s⟩ ih
theorem Rows.app {H : Hp} {kvs : List (Key × V)} {bk : Bk} {s : Str} {v : V} {k : Str} {ts : List (Str × Str)} (h : Rows H kvs bk) (r : RowAt H v k ts) : Rows H (kvs ++ [(.inr s, v)]) (bk ++ [(s, k, ts)]) := by
  unfold Rows at h ⊢
  induction h with
  | nil => exact .cons ⟨rfl, r⟩ .nil
  | cons a b ih => exact .cons a ih
theorem Rows.keys {H : Hp} {kvs : List (Key × V)} {bk : Bk} (h : Rows H kvs bk) : kvs.map (·.1) = bk.map fun r => Sum.inr r.1 := by
  unfold Rows at h
  induction h with
  | nil => rfl
  | cons a b ih => rw [List.map_cons, List.map_cons, ih, a.1]
theorem Rows.len {H : Hp} {kvs : List (Key × V)} {bk : Bk} (h : Rows H kvs bk) : kvs.length = bk.length := by
  have := congrArg List.length h.keys
  rwa [List.length_map, List.length_map] at this
theorem putK_new {kvs : List (Key × V)} {k : Key} {v : V} (n : k ∉ kvs.map (·.1)) : putK kvs k v = kvs ++ [(k, v)] := by
  unfold putK
  rw [if_neg]
  intro h
  obtain ⟨p, hp, e⟩ := List.any_eq_true.mp h
  exact n (List.mem_map.mpr ⟨p, hp, of_decide_eq_true e⟩)
theorem Rows.fresh {H : Hp} {kvs : List (Key × V)} {bk : Bk} {s : Str} (h : Rows H kvs bk) (n : s ∉ bk.map (·.1)) : (Sum.inr s : Key) ∉ kvs.map (·.1) := by
  rw [h.keys]
  intro z
  obtain ⟨r, hr, e⟩ := List.mem_map.mp z
  exact n (List.mem_map.mpr ⟨r, hr, Sum.inr.inj e⟩)
def BookAt (H : Hp) (b : Addr) (bk : Bk) : Prop := ∃ kvs, H b = some (.dK kvs) ∧ Rows H kvs bk
theorem BookAt.same {H H' : Hp} {b : Addr} {bk : Bk} (h : BookAt H b bk) (s : Same H H') : BookAt H' b bk := by
  obtain ⟨kvs, e, r⟩ := h; exact ⟨kvs, s _ _ e, r.same s⟩
def WorldAt (H : Hp) (R : Addr) (bk : Bk) (st : Str) : Prop := ∃ b, H R = some (.lst [.ref b, .str st]) ∧ BookAt H b bk
theorem WorldAt.same {H H' : Hp} {R : Addr} {bk : Bk} {st : Str} (h : WorldAt H R bk st) (s : Same H H') : WorldAt H' R bk st := by
  obtain ⟨b, e, r⟩ := h; exact ⟨b, s _ _ e, r.same s⟩
/-- a row of a book over the states ss -/
def ROk (ss ws : List Str) (r : RowD) : Prop := Wd r.1 ∧ ((r.2.1 = "done" ∧ r.2.2 = []) ∨ ((r.2.1 = "says" ∨ r.2.1 = "hears") ∧ r.2.2 ≠ [] ∧ TOk r.2.2 ss ws))
structure WF (bk : Bk) (st : Str) (ws : List Str) : Prop where
  nd : (bk.map (·.1)).Nodup
  rs : ∀ r ∈ bk, ROk (bk.map (·.1)) ws r
  st : st ∈ bk.map (·.1)
  len : bk.length ≤ 6
abbrev sWorld : Stmt := top 46
/-- a list of words -/
structure WsOk (ws : List Str) : Prop where
  lo : 1 ≤ ws.length
  hi : ws.length ≤ 6
  nd : ws.Nodup
  wd : ∀ x ∈ ws, Wd x
def spWorld : Sp := fun vs H Q _ => ∃ (p W : Addr) (ws : List Str) (n top' t : Int), vs = [.ref p, .int n, .ref W, .int top'] ∧ Purse H p t ∧ SL H W ws ∧ W ≠ p ∧ WsOk ws ∧ 1 ≤ n ∧ n ≤ 6 ∧ 1 ≤ top' ∧ top' < 2 ^ 20 ∧ t < 2 ^ 26 ∧
  ∀ (H' : Hp) (R : Addr) (bk : Bk) (st : Str) (t' : Int), But p H H' → H R = none → WorldAt (cut [p] H') R bk st → WF bk st ws → Purse H' p t' → t' ≤ t + 700 → Q (.ref R) H'
theorem first_at {x : Str} : ∀ {zs : List Str}, x ∈ zs → ∃ j, zs[j]? = some x ∧ ∀ m : Nat, m < j → zs[m]? ≠ some x
  | [], h => by cases h
  | y :: r, h => by
    by_cases e : y = x
    · exact ⟨0, by rw [e]; rfl, fun m hm => absurd hm (Nat.not_lt_zero _)⟩
    · rcases List.mem_cons.mp h with z | z
      · exact absurd z.symm e
      · obtain ⟨j, h1, h2⟩ := first_at z
        refine ⟨j + 1, h1, fun m hm => ?_⟩
        cases m with
        | zero => exact fun q => e (Option.some.inj q)
        | succ m => exact h2 m (by omega)
theorem row_step {p B T1 E1 : Addr} {H5 : Hp} {kvs : List (Key × V)} {bk : Bk} {x k : Str} {ts : List (Str × Str)} (hB : H5 B = some (.dK kvs)) (R : Rows (cut [p, B] H5) kvs bk) (n : x ∉ bk.map (·.1)) (hT : TurnsAt H5 E1 ts) (nE : E1 ≠ p) (nEB : E1 ≠ B)
    (nT : T1 ≠ p) (hT1 : H5 T1 = none) : ∃ kv2, (L2.upd (L2.upd H5 T1 (.tup [.str k, .ref E1])) B (.dK (putK kvs (.inr x) (.ref T1)))) B = some (.dK kv2) ∧ Rows (cut [p, B] (L2.upd (L2.upd H5 T1 (.tup [.str k, .ref E1])) B (.dK (putK kvs (.inr x) (.ref T1))))) kv2 (bk ++ [(x, k, ts)]) := by
  have nTB : T1 ≠ B := fun e => by rw [e, hB] at hT1; cases hT1
  have nET : E1 ≠ T1 := fun e => by rw [← e, hT] at hT1; cases hT1
  refine ⟨_, upd_same, ?_⟩
  rw [putK_new (R.fresh n), cut_upd (by simp)]
  refine (R.same (cut_new hT1)).app ⟨T1, E1, rfl, ?_, ?_⟩
  · rw [cut_out (by simp [nT, nTB])]; exact upd_same
  · rw [TurnsAt, cut_out (by simp [nE, nEB]), upd_ne nET]; exact hT
theorem pt_imp {X : Cx} {c : Expr} {t t' : TT} (h : PT X c t) (i : ∀ σ H Q, t' σ H Q → t σ H Q) : PT X c t' := ⟨fun pins s σ H Q I q => h.run pins s σ H Q I (i _ _ _ q)⟩
theorem pe_imp {X : Cx} {c : Expr} {t t' : TE} (h : PE X c t) (i : ∀ σ H Q, t' σ H Q → t σ H Q) : PE X c t' := ⟨fun pins s σ H Q I q => h.run pins s σ H Q I (i _ _ _ q)⟩
/-- any answer, whatever whole numbers the slots hold -/
def tAny (l : List Nat) : TT := fun σ H Q => (∀ i ∈ l, ∃ z, σ[i]? = some (some (.int z))) ∧ ∀ b, Q b H
def tKind (l : List Nat) : TE := fun σ H Q => (∀ i ∈ l, ∃ z, σ[i]? = some (some (.int z))) ∧ ∀ k : Str, k = "says" ∨ k = "hears" → Q (.str k) H
/-- one of the two lists that world begins with -/
def tBeg : TE := fun σ H Q => ∃ (p W : Addr) (n t : Int) (ws : List Str), σ[0]? = some (some (.ref p)) ∧ σ[1]? = some (some (.int n)) ∧ σ[2]? = some (some (.ref W)) ∧ Purse H p t ∧ SL H W ws ∧ W ≠ p ∧ (∀ x ∈ ws, Wd x) ∧ ws.length ≤ 6 ∧ 1 ≤ n ∧ n ≤ 6 ∧ t < 2 ^ 26 ∧
  ∀ (H' : Hp) (R : Addr) (zs : List Str) (t' : Int), But p H H' → R ≠ p → SL H' R zs → (∀ x ∈ zs, Wd x) → zs.length = n.toNat → Purse H' p t' → t' ≤ t + 301 → Q (.ref R) H'
section
variable {P : Program} {w : World} {K : PySem.W.Frag} {mg : Str → Option Value} {base : Heap}
abbrev CTurns (P : Program) (w : World) (K : PySem.W.Frag) (mg : Str → Option Value) (base : Heap) := Cal P w K mg base "_law_turns" 4 ["_law_purse_here", "_law_states", "_law_words_here", "_law_at", "_law_top"] spTurns
theorem scWo : FnScope ["_law_purse_here", "_law_many", "_law_words_here", "_law_top", "_law_states", "_law_at", "_law_book", "_law_last", "_law_way"] ["_law_purse_here", "_law_many", "_law_words_here", "_law_top"] (defScope sWorld) := ⟨rfl, rfl, rfl, by decide +kernel, rfl, by decide +kernel, by decide +kernel⟩
theorem ok_world {f : Addr} {fd : FuncData} (F : Fun K "_law_world" "_law_world" sWorld f fd) (T : Free2 mg) (CD : CDraw P w K mg base) (CW : CWords P w K mg base) (CS : CShuf P w K mg base) (CT : CTurns P w K mg base) :
    FnOk P w K mg base CX0 5 f fd ["_law_purse_here", "_law_many", "_law_words_here", "_law_top"] spWorld := by
  refine F.ok scWo (fun vs H Q E h => ?_) (fun cdv A outer s H vs Q E hr h => ?_)
  · obtain ⟨p, W, ws, n, top', t, rfl, _⟩ := h; rfl
  · obtain ⟨p, W, ws, n, top', t, rfl, hp, hW, nW, wok, n0, n1, p0, p1, t1, k⟩ := h
    have hu := hu_of hr
    refine ⟨_, pss_cons (ps_set (i := 4) scWo.nd rfl (Or.inr rfl) (pe_cal CS (hr.mono (by decide)) rfl (pa_cons (pv 0) (pa_cons (pe_imp (t' := tBeg) (pe_ifExp (pt_cmpR op_eq (pe_cal CD (hr.mono (by decide)) rfl (pa_cons (pv 0) (pa_cons pe_int pa_nil))) pe_int (nomark _))
          (pe_cal CW (hr.mono (by decide)) rfl (pa_cons (pv 0) (pa_cons (pv 1) pa_nil)))
          (pe_slice sl_list (pe_op op_cat (pv 2) (pe_cal CW (hr.mono (by decide)) rfl (pa_cons (pv 0) (pa_cons (pv 1) pa_nil)))) po_none (po_some (pv 1)))) ?sub1) pa_nil))))
      (pss_cons (ps_set (i := 4) scWo.nd rfl (Or.inr rfl) (pe_lc (own := [("_law_at", 5)]) (g := gName 5) (tt := tTest (tOp (rEq) (tBM K "list" (rIndex K) (tVar 4) (tCons (tOp (rIxL K) (tVar 4) (tVar 5)) tNil)) (tVar 5))) (te := tOp (rIxL K) (tVar 4) (tVar 5)) rfl scWo.nd
          (pi_range1 rfl T.range (pa_cons (pv 1) pa_nil))
          (blkOk_by (N := ["_law_purse_here", "_law_many", "_law_words_here", "_law_top", "_law_states", "_law_at", "_law_book", "_law_last", "_law_way"]) (sc := defScope sWorld) (by decide +kernel)) (fun _ _ _ _ _ => pg_name (i := 5) scWo.nd rfl (Or.inl rfl))
          (fun _ _ _ _ _ => pts_one (pt_cmpR op_eq (pe_bm PySem.F.plainAttrs_list PySem.F.slot_list_index PySem.F.type_list_index mt_index (pv 4) (pa_cons (pe_ix ix_list (pv 4) (pv 5) (fun _ _ => rfl)) pa_nil)) (pv 5) (nomark _))) (fun _ _ _ _ _ => pe_ix ix_list (pv 4) (pv 5) (fun _ _ => rfl))))
      (pss_cons (ps_par (i := 6) (j := 7) rfl scWo.nd rfl rfl (by decide) rfl rfl (pa_cons pe_dnewK (pa_cons (pe_op op_sub (pe_callB call_len_seq (by rfl) T.len PySem.boot_len (pa_cons (pv 4) pa_nil)) pe_int) pa_nil)) (by rfl))
      (pss_cons (ps_for PassesOwn.never rfl (pi_range1 rfl T.range (pa_cons (pe_callB call_len_seq (by rfl) T.len PySem.boot_len (pa_cons (pv 4) pa_nil)) pa_nil)) (pg_name (i := 5) scWo.nd rfl (Or.inl rfl))
        (pss_cons (ps_set (i := 8) scWo.nd rfl (Or.inl rfl) (pe_cal CD (hr.mono (by decide)) rfl (pa_cons (pv 0) (pa_cons pe_int pa_nil))))
        (pss_one (ps_if (pt_imp (t' := tAny [5, 7, 8]) (PW.pt (pw_or (PW.pt (pw_and (pt_cmpR op_eq (pv 5) (pv 7) (nomark _)) (pw_and1 (pt_cmpR op_gt (pv 8) pe_int (nomark _))))) (pw_or1 (PW.pt (pw_and (pt_cmpR op_eq (pv 8) pe_int (nomark _)) (pw_and1 (pt_cmpR op_gt (pv 5) pe_int (nomark _)))))))) ?sub2)
          (pss_one (ps_dput hu (pv 6) (pe_ix ix_list (pv 4) (pv 5) (fun _ _ => rfl)) (pe_tup (pa_cons pe_str (pa_cons pe_dnewK pa_nil))) rfl))
          (pss_one (ps_dput hu (pv 6) (pe_ix ix_list (pv 4) (pv 5) (fun _ _ => rfl)) (pe_tup (pa_cons (pe_imp (t' := tKind [8]) (pe_ifExp (pt_cmpR op_eq (pe_op op_mod (pv 8) pe_int) pe_int (nomark _)) pe_str pe_str) ?sub3) (pa_cons (pe_cal CT (hr.mono (by decide)) rfl (pa_cons (pv 0) (pa_cons (pv 4) (pa_cons (pv 2) (pa_cons (pv 5) (pa_cons (pv 3) pa_nil)))))) pa_nil))) rfl))))))
      (pss_one (ps_ret (pe_lst (pa_cons (pv 6) (pa_cons (pe_ix ix_list (pv 4) pe_int (fun _ _ => rfl)) pa_nil)))))))), ?_⟩
    case sub1 =>
      rintro σ H Q ⟨p, W, n, t, ws, e0, e1, e2, hp, hW, nW, aw, lw, n0, n1, t1, k⟩
      refine ⟨_, e0, p, 2, t, rfl, hp, by decide, by decide, by omega, fun r t2 o r0 r1 tt2 hp2 => ?_⟩
      have b2 := But.upd p H o
      have hW2 : SL (L2.upd H p o) W ws := by rw [SL, upd_ne nW]; exact hW
      generalize L2.upd H p o = H2 at b2 hW2 hp2
      refine ⟨rfl, _, rfl, ?_⟩
      refine ite2 (fun _ => ?_) (fun _ => ?_)
      · refine ⟨_, e0, _, e1, p, n, t2, rfl, hp2, by omega, by omega, by omega, fun H3 R ss t3 b3 hR hS ls nd aw hp3 tt3 => ?_⟩
        exact k H3 R ss t3 (b2.trans b3) (hp2.ne hR) hS aw ls hp3 (by omega)
      · refine ⟨_, e2, _, e0, _, e1, p, n, t2, rfl, hp2, by omega, by omega, by omega, fun H3 R ss t3 b3 hR hS ls nd aw2 hp3 tt3 => ?_⟩
        have hW3 : SL H3 W ws := b3 _ _ nW hW2
        refine ⟨W, R, _, _, rfl, rfl, hW3, hS, by rw [List.length_map, List.length_map, sizeLine_eq]; omega, fun q hq => ?_⟩
        refine ⟨_, e1, n, rfl, q, _, rfl, SqL.of upd_same, fun q2 hq2 => ?_⟩
        rw [← List.map_append, cutV_map, cutL_to _ (by omega)]
        rw [← List.map_append] at hq2
        refine k _ q2 _ t3 (((b2.trans b3).newt hq).newt hq2) ((hp3.new hq).ne hq2) upd_same (fun x hx => ?_) ?_ ((hp3.new hq).new hq2) (by omega)
        · rcases List.mem_append.mp (List.mem_of_mem_take hx) with z | z
          · exact aw x z
          · exact aw2 x z
        · rw [List.length_take, List.length_append]; omega
    case sub2 =>
      rintro σ H Q ⟨a, k⟩
      obtain ⟨z5, e5⟩ := a 5 (by simp)
      obtain ⟨z7, e7⟩ := a 7 (by simp)
      obtain ⟨z8, e8⟩ := a 8 (by simp)
      have two : ∃ a, σ[8]? = some (some a) ∧ rEq a (.int 10) H fun x H' => ∃ k, x = .bl k ∧ if k = true then (∃ a, σ[5]? = some (some a) ∧ rI0 (fun i j => V.bl (decide (j < i))) a (.int 0) H' fun x H' => ∃ k, x = .bl k ∧ Q k H') else Q false H' := by
        refine ⟨_, e8, rfl, _, rfl, ite2 (fun _ => ⟨_, e5, _, _, rfl, rfl, _, rfl, k _⟩) (fun _ => k _)⟩
      refine ⟨_, e5, _, e7, rfl, _, rfl, ?_⟩
      refine ite2 (fun _ => ⟨_, e8, _, _, rfl, rfl, _, rfl, ?_⟩) (fun _ => ?_)
      · exact ite2 (fun _ => k _) (fun _ => two)
      · exact iteF two
    case sub3 =>
      rintro σ H Q ⟨a, k⟩
      obtain ⟨z8, e8⟩ := a 8 (by simp)
      refine ⟨_, e8, _, _, rfl, rfl, (by show (0 : Int) < 2; decide), rfl, _, rfl, ?_⟩
      exact ite2 (fun _ => k _ (.inl rfl)) (fun _ => k _ (.inr rfl))
    refine ⟨_, rfl, p, W, n, t, ws, rfl, rfl, rfl, hp, hW, nW, wok.wd, wok.hi, n0, n1, t1, fun H3 R zs0 t3 b3 nR hS az0 lz0 hp3 tt3 => ?_⟩
    refine ⟨p, R, _, t3, rfl, hp3, hS, nR, by rw [List.length_map]; omega, by omega, fun H4 R4 ys t4 b4 hR4 hy pm hp4 tt4 => ?_⟩
    obtain ⟨zs, rfl, pz⟩ := perm_str pm
    rw [List.length_map, lz0] at tt4
    have lz : zs.length = n.toNat := by rw [pz.length_eq]; exact lz0
    have az : ∀ x ∈ zs, Wd x := fun x hx => az0 x (pz.mem_iff.mp hx)
    have bH4 := b3.trans b4
    have nR4 := hp3.ne hR4
    have hW4 : SL H4 W ws := bH4 _ _ nW hW
    clear b3 b4 hS pm az0 lz0 hp3 pz
    have hy : SL H4 R4 zs := hy
    refine ⟨_, rfl, n, rfl, by omega, by omega, fun D hD => ?_⟩
    refine lc_range (n := n.toNat) (fun i H' => ∃ rs : List Str, Same H4 H' ∧ SL H' D rs ∧ rs.Nodup ∧ (∀ x ∈ rs, x ∈ zs.take i) ∧ (0 < i → rs ≠ []) ∧ rs.length ≤ i)
      ⟨[], Same.new hD, upd_same, List.nodup_nil, by simp, fun c => absurd c (by decide), Nat.le_refl _⟩ ?_ ?_
    · rintro i H' hi ⟨rs, sm, hD', nd, sub, ne, ll⟩
      have hiz : i < zs.length := by omega
      have hx := List.getElem?_eq_getElem hiz
      have ha : atI (zs.map V.str) (0 + (i : Int)) = some (V.str zs[i]) := at_of (j := i) (by omega) (by rw [List.getElem?_map, hx]; rfl)
      obtain ⟨j, hj, no⟩ := first_at (List.getElem_mem hiz)
      generalize zs[i] = x at hx ha hj no
      have hy' := (hy.same sm).sq (K := K)
      refine ⟨rfl, _, rfl, .inl ⟨rfl, _, hy'⟩, _, rfl, _, rfl, R4, _, _, _, rfl, rfl, hy', ha, R4, _, .str x, j, .str x, rfl, rfl, hy', rfl, flat_strs zs, by rw [List.getElem?_map, hj]; rfl, ?_, fun m z' hm hz => ?_, ?_⟩
      · show (x == x) = true
        exact beq_self_eq_true x
      · obtain ⟨y, hyy, rfl⟩ := get_map hz
        show (y == x) = false
        exact beq_eq_false_iff_ne.mpr fun e => no m hm (by rw [hyy, e])
      refine ⟨_, rfl, rfl, _, rfl, ?_⟩
      have hji : j ≤ i := by
        rcases Nat.lt_or_ge i j with c | c
        · exact absurd hx (no i c)
        · exact c
      refine ite2 (fun c => ?_) (fun c => ?_)
      · have ej : j = i := by
          have := of_decide_eq_true c
          have e2 : (j : Int) = 0 + (i : Int) := by injection this
          omega
        have xn : x ∉ zs.take i := fun hm => by
          obtain ⟨m, hm1, hm2⟩ := List.mem_take_iff_getElem.mp hm
          have : m < j := by omega
          exact no m this (by rw [List.getElem?_eq_getElem (by omega), hm2])
        refine ⟨_, rfl, _, rfl, R4, _, _, _, rfl, rfl, hy', ha, _, hD', by rw [List.length_map, sizeLine_eq]; omega, rs ++ [x], ?_, by rw [SL, upd_same, List.map_append]; rfl, nodup_app nd fun z => xn (sub x z), fun z hz => ?_, fun _ e => by simp at e, by rw [List.length_append]; simp only [List.length_singleton]; omega⟩
        · intro b u e
          rw [upd_ne (ne_of_none e hD)]; exact sm _ _ e
        · rw [take_succ_get hx]
          rcases List.mem_append.mp hz with z1 | z1
          · exact List.mem_append_left _ (sub z z1)
          · exact List.mem_append_right _ z1
      · have ei : i ≠ 0 := fun e => by
          refine c (decide_eq_true ?_)
          have : j = i := by omega
          rw [this, Int.zero_add]
        exact ⟨rs, sm, hD', nd, fun z hz => by rw [take_succ_get hx]; exact List.mem_append_left _ (sub z hz), fun _ => ne (by omega), by omega⟩
    · rintro H5 ⟨rs, sm, hD', nd, sub, ne, ll⟩
      have ne' := ne (by omega)
      have ln : 1 ≤ rs.length := List.length_pos_iff.mpr ne'
      have ar : ∀ x ∈ rs, Wd x := fun x hx => az x (List.mem_of_mem_take (sub x hx))
      have b5 := bH4.trans (But.of sm)
      have hp5 := hp4.same sm
      have hW5 := hW4.same sm
      have nDp := hp4.ne hD
      clear hy sub ne hD
      refine fun B hB => ⟨_, rfl, D, _, rfl, .inl (hD'.new hB).sq, _, _, rfl, rfl, _, _, rfl, ?_⟩
      have nBp := hp5.ne hB
      have nDB : D ≠ B := ne_of_none hD' hB
      have nWB : W ≠ B := ne_of_none hW5 hB
      have hB0 : H B = none := b5.fr hB nBp
      refine ⟨_, rfl, D, _, rfl, .inl (hD'.new hB).sq, _, rfl, by rw [List.length_map]; omega, by rw [List.length_map]; omega, ?_⟩
      rw [List.length_map]
      refine for_range (n := rs.length) (fun i σ H' => ∃ (v5 v8 : Option V) (bk : Bk) (t' : Int), σ = [some (.ref p), some (.int n), some (.ref W), some (.int top'), some (.ref D), v5, some (.ref B), some (.int ((rs.length : Int) - 1)), v8] ∧ But p H H' ∧ SL H' D rs ∧ SL H' W ws ∧ (∃ kvs, H' B = some (.dK kvs) ∧ Rows (cut [p, B] H') kvs bk) ∧ bk.map (·.1) = rs.take i ∧ (∀ r ∈ bk, ROk rs ws r) ∧ Purse H' p t' ∧ t' ≤ t4 + 51 * i)
        ⟨none, none, [], t4, rfl, b5.newt hB, hD'.new hB, hW5.new hB, ⟨[], upd_same, .nil⟩, by simp, by simp, hp5.new hB, by omega⟩ ?_ ?_
      · rintro i σ H' hi ⟨v5, v8, bk, t', rfl, b, hDD, hWW, ⟨kvs, hBB, hR⟩, ek, ak, hp', tt'⟩
        have hx := List.getElem?_eq_getElem hi
        have hxm := List.getElem_mem hi
        have ha : atI (rs.map V.str) (0 + (i : Int)) = some (V.str rs[i]) := at_of (j := i) (by omega) (by rw [List.getElem?_map, hx]; rfl)
        generalize rs[i] = x at hx hxm ha
        have xn : x ∉ bk.map (·.1) := fun z => by
          rw [ek] at z
          obtain ⟨m, hm1, hm2⟩ := List.mem_take_iff_getElem.mp z
          have h1 : rs[m]? = some x := by rw [List.getElem?_eq_getElem (by omega), hm2]
          have := (List.getElem?_inj (by omega) nd).mp (h1.trans hx.symm)
          omega
        have lk : kvs.length ≤ 6 := by
          rw [hR.len, ← List.length_map (·.1), ek, List.length_take]; omega
        refine ⟨_, rfl, p, 11, t', rfl, hp', by decide, by decide, by omega, fun way t5 o r0 r1 tt5 hp5 => ?_⟩
        have hD5 : SL (L2.upd H' p o) D rs := by rw [SL, upd_ne nDp]; exact hDD
        have hW5 : SL (L2.upd H' p o) W ws := by rw [SL, upd_ne nW]; exact hWW
        have hB5 : (L2.upd H' p o) B = some (.dK kvs) := by rw [upd_ne nBp]; exact hBB
        have hR5 : Rows (cut [p, B] (L2.upd H' p o)) kvs bk := by rw [cut_upd (by simp)]; exact hR
        have b5 := b.trans (But.upd p H' o)
        generalize L2.upd H' p o = H5 at hD5 hW5 hB5 hR5 hp5 b5
        clear hDD hWW hBB hR b hp'
        refine ⟨fun j hj => ?_, fun bb => ?_⟩
        · simp only [List.mem_cons, List.not_mem_nil, or_false] at hj
          rcases hj with rfl | rfl | rfl
          · exact ⟨_, rfl⟩
          · exact ⟨_, rfl⟩
          · exact ⟨_, rfl⟩
        have fin : ∀ (H6 : Hp) (E1 T1 : Addr) (k0 : Str) (ts : List (Str × Str)) (t6 : Int), But p H5 H6 → E1 ≠ p → E1 ≠ B → TurnsAt H6 E1 ts → H6 T1 = none → Purse H6 p t6 → t6 ≤ t5 + 50 → ROk rs ws (x, k0, ts) →
            ∃ (v5 v8 : Option V) (bk2 : Bk) (t' : Int), [some (.ref p), some (.int n), some (.ref W), some (.int top'), some (.ref D), some (.int (0 + (i : Int))), some (.ref B), some (.int ((rs.length : Int) - 1)), some (.int way)] = [some (.ref p), some (.int n), some (.ref W), some (.int top'), some (.ref D), v5, some (.ref B), some (.int ((rs.length : Int) - 1)), v8] ∧ But p H (L2.upd (L2.upd H6 T1 (.tup [.str k0, .ref E1])) B (.dK (putK kvs (.inr x) (.ref T1)))) ∧ SL (L2.upd (L2.upd H6 T1 (.tup [.str k0, .ref E1])) B (.dK (putK kvs (.inr x) (.ref T1)))) D rs ∧ SL (L2.upd (L2.upd H6 T1 (.tup [.str k0, .ref E1])) B (.dK (putK kvs (.inr x) (.ref T1)))) W ws ∧
              (∃ kvs', (L2.upd (L2.upd H6 T1 (.tup [.str k0, .ref E1])) B (.dK (putK kvs (.inr x) (.ref T1)))) B = some (.dK kvs') ∧ Rows (cut [p, B] (L2.upd (L2.upd H6 T1 (.tup [.str k0, .ref E1])) B (.dK (putK kvs (.inr x) (.ref T1))))) kvs' bk2) ∧ bk2.map (·.1) = rs.take (i + 1) ∧ (∀ r ∈ bk2, ROk rs ws r) ∧ Purse (L2.upd (L2.upd H6 T1 (.tup [.str k0, .ref E1])) B (.dK (putK kvs (.inr x) (.ref T1)))) p t' ∧ t' ≤ t4 + 51 * ((i + 1 : Nat) : Int) := by
          intro H6 E1 T1 k0 ts t6 b6 nE nEB hT hT1 hp6 tt6 rok
          have hB6 : H6 B = some (.dK kvs) := b6 _ _ nBp hB5
          have nT := hp6.ne hT1
          refine ⟨_, _, bk ++ [(x, k0, ts)], t6, rfl, But.ofL hB0 ((b5.trans b6).newt hT1), ?_, ?_, row_step hB6 (hR5.same (cut_but b6 (by simp))) xn hT nE nEB nT hT1, ?_, fun r hr => ?_, (hp6.new hT1).upd nBp.symm, by omega⟩
          · rw [SL, upd_ne nDB]; exact SL.new (b6 _ _ nDp hD5) hT1
          · rw [SL, upd_ne nWB]; exact SL.new (b6 _ _ nW hW5) hT1
          · rw [List.map_append, ek, take_succ_get hx]; rfl
          · rcases List.mem_append.mp hr with z | z
            · exact ak r z
            · rw [List.mem_singleton.mp z]; exact rok
        refine ite2 (fun _ => ?_) (fun _ => ?_)
        · refine fun E1 hE1 => ⟨by show 2 ≤ sizeLine; decide, fun T1 hT1 => ?_⟩
          have hD6 := (hD5.new (o := .dK []) hE1).new (o := .tup [.str "done", .ref E1]) hT1
          refine ⟨_, rfl, _, rfl, _, rfl, D, _, _, _, rfl, rfl, hD6.sq, ha, B, _, rfl, DPut.k (kvs := kvs) (k := Sum.inr x) ?_ (by rw [sizeLine_eq]; omega), ?_⟩
          · exact Same.new hT1 _ _ (Same.new hE1 _ _ hB5)
          · exact fin _ E1 T1 "done" [] t5 (But.new hE1) (hp5.ne hE1) (ne_of_none hB5 hE1).symm upd_same hT1 (hp5.new hE1) (by omega) ⟨ar x hxm, .inl ⟨rfl, rfl⟩⟩
        · refine ⟨fun j hj => ?_, fun k0 hk0 => ?_⟩
          · simp only [List.mem_cons, List.not_mem_nil, or_false] at hj
            rw [hj]; exact ⟨_, rfl⟩
          refine ⟨_, rfl, _, rfl, _, rfl, _, rfl, _, rfl, p, D, W, rs, ws, _, top', t5, rfl, hp5, hD5, hW5, nDp, nW, ln, by omega, wok.lo, Nat.le_trans wok.hi (by decide), wok.nd, by omega, by omega, p0, p1, by omega, fun H6 E1 ts t6 b6 hE1 hT ok ne6 hp6 tt6 => ?_⟩
          refine ⟨by show 2 ≤ sizeLine; decide, fun T1 hT1 => ?_⟩
          have hD6 := SL.new (o := .tup [.str k0, .ref E1]) (b6 _ _ nDp hD5 : SL H6 D rs) hT1
          refine ⟨_, rfl, _, rfl, _, rfl, D, _, _, _, rfl, rfl, hD6.sq, ha, B, _, rfl, DPut.k (k := Sum.inr x) (Same.new hT1 _ _ (b6 _ _ nBp hB5)) (by rw [sizeLine_eq]; omega), ?_⟩
          exact fin H6 E1 T1 k0 ts t6 b6 (hp5.ne hE1) (ne_of_none hB5 hE1).symm hT hT1 hp6 tt6 ⟨ar x hxm, .inr ⟨hk0, ne6, ok⟩⟩
      · rintro σ H' ⟨v5, v8, bk, t', rfl, b, hDD, hWW, ⟨kvs, hBB, hR⟩, ek, ak, hp', tt'⟩
        rw [List.take_length] at ek
        have ha : atI (rs.map V.str) (0 : Int) = some (V.str rs[0]) := at_of (j := 0) (by omega) (by rw [List.getElem?_map, List.getElem?_eq_getElem ln]; rfl)
        have h0 : rs[0] ∈ rs := List.getElem_mem ln
        refine ⟨_, rfl, _, rfl, D, _, _, _, rfl, rfl, hDD.sq, ha, by show 2 ≤ sizeLine; decide, fun R hR1 => ?_⟩
        refine k _ R bk rs[0] t' (b.newt hR1) (b.fr hR1 (hp'.ne hR1)) ⟨B, ?_, kvs, ?_, hR.same ?_⟩ ⟨by rw [ek]; exact nd, by rw [ek]; exact ak, by rw [ek]; exact h0, ?_⟩ (hp'.new hR1) (by omega)
        · rw [cut_out (by simp [hp'.ne hR1])]; exact upd_same
        · rw [cut_out (by simp [nBp])]; exact Same.new hR1 _ _ hBB
        · exact fun c u e => cut_new hR1 _ _ (cut_mono (S := [p, B]) (S' := [p]) (by simp) _ _ e)
        · rw [← List.length_map (·.1), ek]; omega
end
end D1
end L2
/-! shape -/
namespace L2
namespace D1
open PySem PySem.Spec PyProof.Rows
theorem merge_nd : ∀ (more kvs : List (Key × V)), (∀ p ∈ more, p.1 ∉ kvs.map (·.1)) → (more.map (·.1)).Nodup → mergeK kvs more = kvs ++ more
  | [], kvs, _, _ => (List.append_nil _).symm
  | p :: r, kvs, h, nd => by
    have nd' := List.nodup_cons.mp nd
    show mergeK (putK kvs p.1 p.2) r = _
    rw [putK_new (h p List.mem_cons_self), merge_nd r _ ?_ nd'.2, List.append_assoc]
    · rfl
    · intro q hq z
      rw [List.map_append] at z
      rcases List.mem_append.mp z with z | z
      · exact h q (List.mem_cons_of_mem _ hq) z
      · have : q.1 = p.1 := List.mem_singleton.mp z
        exact nd'.1 (by show p.1 ∈ _; rw [← this]; exact List.mem_map_of_mem hq)
theorem merge_id {kvs : List (Key × V)} (nd : (kvs.map (·.1)).Nodup) : mergeK [] kvs = kvs := by
  rw [merge_nd kvs [] (by simp) nd]; rfl
theorem inr_nd {l : List Str} (h : l.Nodup) : (l.map (Sum.inr : Str → Key)).Nodup := by
  induction l with
  | nil => exact List.nodup_nil
  | cons a r ih =>
    have h' := List.nodup_cons.mp h
    refine List.nodup_cons.mpr ⟨fun z => ?_, ih h'.2⟩
    obtain ⟨b, hb, e⟩ := List.mem_map.mp z
    exact h'.1 (by rw [← Sum.inr.inj e]; exact hb)
theorem kT_nd {ts : List (Str × Str)} (h : (ts.map (·.1)).Nodup) : ((kT ts).map (·.1)).Nodup := by
  have : (kT ts).map (·.1) = (ts.map (·.1)).map Sum.inr := by rw [kT, List.map_map, List.map_map]; rfl
  rw [this]; exact inr_nd h
/-- a new row, its words and goals in slots -/
def tRow (k : Str) (l : List (Nat × Nat)) : TE := fun σ H Q => ∃ ts : List (Str × Str), Paired (fun ij t => σ[ij.1]? = some (some (.str t.1)) ∧ σ[ij.2]? = some (some (.str t.2))) l ts ∧ (ts.map (·.1)).Nodup ∧
  ∀ (H' : Hp) (T E : Addr), Same H H' → H T = none → H E = none → H' T = some (.tup [.str k, .ref E]) → TurnsAt H' E ts → Q (.ref T) H'
theorem row2 {X : Cx} {k : Str} {i j m n : Nat} {e1 e2 e3 e4 : Expr} {pos pos' : Pos} {x1 j0 : Nat} {ps : Pos} (h1 : PE X e1 (tVar i)) (h2 : PE X e2 (tVar j)) (h3 : PE X e3 (tVar m)) (h4 : PE X e4 (tVar n)) :
    PE X (.Tuple [.Constant (.str k) j0 ps, .Dict [some e1, some e3] [e2, e4] pos] x1 pos') (tRow k [(i, j), (m, n)]) := by
  refine pe_imp (pe_tup (pa_cons pe_str (pa_cons (pe_disp (pps_cons h1 h2 (pps_cons h3 h4 pps_nil)) (by rfl) (by rfl) (fun z => by cases z) (by show 2 ≤ 15; decide)) pa_nil))) ?_
  rintro σ H Q ⟨ts, pr, nd, kk⟩
  cases pr with
  | @cons _ t1 _ _ a pr =>
    cases pr with
    | @cons _ t2 _ _ b pr =>
      cases pr
      refine fun E hE => ⟨_, a.1, _, a.2, _, b.1, _, b.2, upd_same, kT [t1, t2], rfl, by show 2 ≤ 15; decide, by show 2 ≤ sizeLine; decide, fun T hT => ?_⟩
      rw [merge_id (kT_nd nd)] at hT ⊢
      have hT2 := upd_none' hT
      have nET : E ≠ T := fun e => by rw [← e, upd_same] at hT; cases hT
      refine kk _ T E (fun c u ec => ?_) (upd_none' hT2) hE upd_same (by rw [TurnsAt, upd_ne nET, upd_same])
      rw [upd_ne (ne_of_none ec (upd_none' hT2)), upd_ne (ne_of_none ec hE), upd_ne (ne_of_none ec hE)]; exact ec
theorem row1 {X : Cx} {k : Str} {i j : Nat} {e1 e2 : Expr} {pos pos' : Pos} {x1 j0 : Nat} {ps : Pos} (h1 : PE X e1 (tVar i)) (h2 : PE X e2 (tVar j)) :
    PE X (.Tuple [.Constant (.str k) j0 ps, .Dict [some e1] [e2] pos] x1 pos') (tRow k [(i, j)]) := by
  refine pe_imp (pe_tup (pa_cons pe_str (pa_cons (pe_disp (pps_cons h1 h2 pps_nil) (by rfl) (by rfl) (fun z => by cases z) (by show 1 ≤ 15; decide)) pa_nil))) ?_
  rintro σ H Q ⟨ts, pr, nd, kk⟩
  cases pr with
  | @cons _ t1 _ _ a pr =>
    cases pr
    refine fun E hE => ⟨_, a.1, _, a.2, upd_same, kT [t1], rfl, by show 1 ≤ 15; decide, by show 2 ≤ sizeLine; decide, fun T hT => ?_⟩
    rw [merge_id (kT_nd nd)] at hT ⊢
    have hT2 := upd_none' hT
    have nET : E ≠ T := fun e => by rw [← e, upd_same] at hT; cases hT
    refine kk _ T E (fun c u ec => ?_) (upd_none' hT2) hE upd_same (by rw [TurnsAt, upd_ne nET, upd_same])
    rw [upd_ne (ne_of_none ec (upd_none' hT2)), upd_ne (ne_of_none ec hE), upd_ne (ne_of_none ec hE)]; exact ec
theorem row0 {X : Cx} {k : Str} {pos pos' : Pos} {x1 j0 : Nat} {ps : Pos} :
    PE X (.Tuple [.Constant (.str k) j0 ps, .Dict [] [] pos] x1 pos') (tRow k []) := by
  refine pe_imp (pe_tup (pa_cons pe_str (pa_cons pe_dnewK pa_nil))) ?_
  rintro σ H Q ⟨ts, pr, nd, kk⟩
  cases pr
  refine fun E hE => ⟨by show 2 ≤ sizeLine; decide, fun T hT => ?_⟩
  have nET : E ≠ T := fun e => by rw [← e, upd_same] at hT; cases hT
  refine kk _ T E (fun c u ec => ?_) (upd_none' hT) hE upd_same (by rw [TurnsAt, upd_ne nET, upd_same]; rfl)
  rw [upd_ne (ne_of_none ec (upd_none' hT)), upd_ne (ne_of_none ec hE)]; exact ec
/-- a row that stands new -/
theorem RowAt.mk' {S : List Addr} {H H' : Hp} {T E : Addr} {k : Str} {ts : List (Str × Str)} (hS : ∀ b ∈ S, ∃ u, H b = some u) (nT : H T = none) (nE : H E = none) (h1 : H' T = some (.tup [.str k, .ref E])) (h2 : TurnsAt H' E ts) : RowAt (cut S H') (.ref T) k ts := by
  refine ⟨T, E, rfl, ?_, ?_⟩
  · rw [cut_out fun z => by obtain ⟨u, hu⟩ := hS T z; rw [hu] at nT; cases nT]; exact h1
  · rw [TurnsAt, cut_out fun z => by obtain ⟨u, hu⟩ := hS E z; rw [hu] at nE; cases nE]; exact h2
abbrev sShape : Stmt := top 47
def spShape : Sp := fun vs H Q _ => ∃ (p W : Addr) (ws : List Str) (t : Int), vs = [.ref p, .ref W] ∧ Purse H p t ∧ SL H W ws ∧ W ≠ p ∧ WsOk ws ∧ 4 ≤ ws.length ∧ t < 2 ^ 26 ∧
  ∀ (H' : Hp) (R : Addr) (bk : Bk) (st : Str) (t' : Int), But p H H' → H R = none → WorldAt (cut [p] H') R bk st → WF bk st ws → Purse H' p t' → t' ≤ t + 700 → Q (.ref R) H'
/-- the end of a display of a book -/
theorem book_end {p B R : Addr} {H3 : Hp} {kvs : List (Key × V)} {bk : Bk} {st : Str} (hp : p ≠ B) (hRw : Rows (cut [p, B] H3) kvs bk) (nd : (bk.map (·.1)).Nodup) (hR : (L2.upd H3 B (.dK (mergeK [] kvs))) R = none) (nRp : R ≠ p) :
    WorldAt (cut [p] (L2.upd (L2.upd H3 B (.dK (mergeK [] kvs))) R (.lst [.ref B, .str st]))) R bk st := by
  have nd2 : (kvs.map (·.1)).Nodup := by
    have z := inr_nd nd
    rw [List.map_map] at z
    rw [hRw.keys]; exact z
  have nBR : B ≠ R := fun e => by rw [← e, upd_same] at hR; cases hR
  refine ⟨B, by rw [cut_out (by simpa using nRp)]; exact upd_same, kvs, ?_, ?_⟩
  · rw [cut_out (by simpa using hp.symm), upd_ne nBR, upd_same, merge_id nd2]
  · refine hRw.same fun c u e => ?_
    obtain ⟨nc, e⟩ := cut_some e
    simp only [List.mem_cons, List.not_mem_nil, or_false, not_or] at nc
    have ncR : c ≠ R := fun z => by rw [z] at e nc; rw [upd_ne nc.2] at hR; rw [hR] at e; cases e
    rw [cut_out (by simpa using nc.1), upd_ne ncR, upd_ne nc.2]; exact e
theorem tok2 {a b c d : Str} {ss ws : List Str} (n : a ≠ b) (ha : a ∈ ws) (hb : b ∈ ws) (hc : c ∈ ss) (hd : d ∈ ss) : TOk [(a, c), (b, d)] ss ws :=
  ⟨by simpa using n, by simp [ha, hb], by simp [hc, hd]⟩
theorem tok1 {a c : Str} {ss ws : List Str} (ha : a ∈ ws) (hc : c ∈ ss) : TOk [(a, c)] ss ws := ⟨by simp, by simp [ha], by simp [hc]⟩
end D1
end L2
/-! shape, its body -/
namespace L2
namespace D1
open PySem PySem.Spec PyProof.Rows
section
variable {P : Program} {w : World} {K : PySem.W.Frag} {mg : Str → Option Value} {base : Heap}
theorem scSa : FnScope ["_law_purse_here", "_law_words_here", "_law_way", "_law_states", "_law_begin", "_law_second", "_law_third", "_law_last", "_law_go", "_law_out", "_law_on", "_law_end", "_law_row"] ["_law_purse_here", "_law_words_here"] (defScope sShape) := ⟨rfl, rfl, rfl, by decide +kernel, rfl, by decide +kernel, by decide +kernel⟩
theorem ok_shape {f : Addr} {fd : FuncData} (F : Fun K "_law_shape" "_law_shape" sShape f fd) (T : Free2 mg) (CD : CDraw P w K mg base) (CW : CWords P w K mg base) :
    FnOk P w K mg base CX0 5 f fd ["_law_purse_here", "_law_words_here"] spShape := by
  refine F.ok scSa (fun vs H Q E h => ?_) (fun cdv A outer s H vs Q E hr h => ?_)
  · obtain ⟨p, W, ws, t, rfl, _⟩ := h; rfl
  · obtain ⟨p, W, ws, t, rfl, hp, hW, nW, wok, l4, t1, k⟩ := h
    have hu := hu_of hr
    refine ⟨_, pss_cons (ps_par (i := 2) (j := 3) rfl scSa.nd rfl rfl (by decide) rfl rfl (pa_cons (pe_cal CD (hr.mono (by decide)) rfl (pa_cons (pv 0) (pa_cons pe_int pa_nil))) (pa_cons (pe_cal CW (hr.mono (by decide)) rfl (pa_cons (pv 0) (pa_cons pe_int pa_nil))) pa_nil)) (by rfl))
      (pss_cons (ps_asg (pv 3) (pg_lst rfl (pgs_cons (pg_name (i := 4) scSa.nd rfl (Or.inl rfl)) (pgs_cons (pg_name (i := 5) scSa.nd rfl (Or.inl rfl)) (pgs_cons (pg_name (i := 6) scSa.nd rfl (Or.inl rfl)) (pgs_cons (pg_name (i := 7) scSa.nd rfl (Or.inl rfl)) pgs_nil))))))
      (pss_cons (ps_asg (pe_slice sl_list (pv 1) po_none (po_some pe_int)) (pg_lst rfl (pgs_cons (pg_name (i := 8) scSa.nd rfl (Or.inl rfl)) (pgs_cons (pg_name (i := 9) scSa.nd rfl (Or.inl rfl)) (pgs_cons (pg_name (i := 10) scSa.nd rfl (Or.inl rfl)) (pgs_cons (pg_name (i := 11) scSa.nd rfl (Or.inl rfl)) pgs_nil))))))
      (pss_cons (ps_if (pt_cmpR op_eq (pv 2) pe_int (nomark _)) (pss_one (ps_ret (pe_lst (pa_cons (pe_disp (pps_cons (pv 4) (row2 (pv 8) (pv 4) (pv 9) (pv 5)) (pps_cons (pv 5) row0 pps_nil)) (by rfl) (by rfl) (fun z => by cases z) (by show 2 ≤ 15; decide)) (pa_cons (pv 4) pa_nil))))) pss_nil)
      (pss_cons (ps_if (pt_cmpR op_eq (pv 2) pe_int (nomark _)) (pss_one (ps_ret (pe_lst (pa_cons (pe_disp (pps_cons (pv 4) (row2 (pv 8) (pv 5) (pv 9) (pv 6)) (pps_cons (pv 5) (row2 (pv 10) (pv 4) (pv 11) (pv 6)) (pps_cons (pv 6) row0 pps_nil))) (by rfl) (by rfl) (fun z => by cases z) (by show 3 ≤ 15; decide)) (pa_cons (pv 4) pa_nil))))) pss_nil)
      (pss_cons (ps_set (i := 12) scSa.nd rfl (Or.inl rfl) (pe_disp (pps_cons (pv 4) (row2 (pv 8) (pv 5) (pv 9) (pv 6)) (pps_cons (pv 5) (row2 (pv 10) (pv 4) (pv 11) (pv 7)) (pps_cons (pv 7) row0 pps_nil))) (by rfl) (by rfl) (fun z => by cases z) (by show 3 ≤ 15; decide)))
      (pss_cons (ps_dput hu (pv 12) (pv 6) (pe_ifExp (pt_cmpR op_eq (pv 2) pe_int (nomark _)) (row2 (pv 10) (pv 4) (pv 11) (pv 7)) (row1 (pv 10) (pv 6))) rfl)
      (pss_one (ps_ret (pe_lst (pa_cons (pv 12) (pa_cons (pv 4) pa_nil))))))))))), ?_⟩
    refine ⟨_, rfl, p, 4, t, rfl, hp, by decide, by decide, by omega, fun way t2 o r0 r1 tt2 hp2 => ?_⟩
    have b2 := But.upd p H o
    have hW2 : SL (L2.upd H p o) W ws := by rw [SL, upd_ne nW]; exact hW
    generalize L2.upd H p o = H2 at b2 hW2 hp2
    refine ⟨_, rfl, p, 4, t2, rfl, hp2, by decide, by decide, by omega, fun H3 S ss t3 b3 hS hSS ls nd aw hp3 tt3 => ⟨_, _, rfl, ?_⟩⟩
    have b03 := b2.trans b3
    have hW3 : SL H3 W ws := b3 _ _ nW hW2
    have ls4 : ss.length = 4 := ls
    obtain ⟨b', s', d', l', rfl⟩ : ∃ a b c d, ss = [a, b, c, d] := by
      match ss, ls4 with
      | [a, b, c, d], _ => exact ⟨a, b, c, d, rfl⟩
    refine ⟨_, rfl, S, _, rfl, hSS.sq, rfl, _, _, rfl, _, _, rfl, _, _, rfl, _, _, rfl, rfl, ?_⟩
    refine ⟨_, rfl, _, rfl, W, _, rfl, hW3.sq, fun q hq => ?_⟩
    rw [cutV_map, cutL_to _ (by decide)]
    obtain ⟨g', o', n', e', ew⟩ : ∃ a b c d, ws.take (4 : Int).toNat = [a, b, c, d] := by
      match ws, l4 with
      | a :: b :: c :: d :: r, _ => exact ⟨a, b, c, d, rfl⟩
    rw [ew]
    have wnd : ([g', o', n', e'] : List Str).Nodup := ew ▸ List.Nodup.sublist (List.take_sublist _ _) wok.nd
    have wm : ∀ x ∈ ([g', o', n', e'] : List Str), x ∈ ws := fun x hx => List.mem_of_mem_take (by rw [ew]; exact hx)
    refine ⟨q, _, rfl, SqL.of upd_same, rfl, _, _, rfl, _, _, rfl, _, _, rfl, _, _, rfl, rfl, ?_⟩
    have hp4 : Purse (L2.upd H3 q (.lst ([g', o', n', e'].map V.str))) p t3 := hp3.new hq
    have b04 : But p H (L2.upd H3 q (.lst ([g', o', n', e'].map V.str))) := b03.newt hq
    generalize L2.upd H3 q (.lst ([g', o', n', e'].map V.str)) = H4 at hp4 b04
    simp only [List.nodup_cons, List.mem_cons, List.not_mem_nil, or_false, not_or, not_false_eq_true, List.nodup_nil, and_true] at nd wnd
    obtain ⟨⟨nbs, nbd, nbl⟩, ⟨nsd, nsl⟩, ndl⟩ := nd
    obtain ⟨⟨ngo, ngn, nge⟩, ⟨non, noe⟩, nne⟩ := wnd
    have nld : ¬ l' = d' := fun e => ndl e.symm
    have gm := wm g' (by simp)
    have om := wm o' (by simp)
    have nm := wm n' (by simp)
    have em := wm e' (by simp)
    have wb := aw b' (by simp)
    have wsc := aw s' (by simp)
    have wd' := aw d' (by simp)
    have wl := aw l' (by simp)
    change Ends.nx _ [some (.ref p), some (.ref W), some (.int way), some (.ref S), some (.str b'), some (.str s'), some (.str d'), some (.str l'), some (.str g'), some (.str o'), some (.str n'), some (.str e'), none] _
    clear wm aw ls ls4 hSS hW3 hp3 hq b03 b3 hp2 b2 hW2
    refine ⟨_, rfl, rfl, _, rfl, ?_⟩
    refine ite2 (fun _ => ?_) (fun _ => ?_)
    · skip
      refine fun B hB => ?_
      have nBp := hp4.ne hB
      have hB0 : H B = none := b04.fr hB nBp
      have k0 : ∀ c ∈ [p, B], ∃ u, (L2.upd H4 B (.dK [])) c = some u := fun c hc => by
        rcases List.mem_cons.mp hc with rfl | hc
        · exact (hp4.new hB).some
        · obtain rfl := List.mem_singleton.mp hc; exact ⟨_, upd_same⟩
      have s0 : Same (L2.upd H4 B (.dK [])) (L2.upd H4 B (.dK [])) := Same.refl _
      refine ⟨_, rfl, [(g', b'), (o', s')], (.cons ⟨rfl, rfl⟩ (.cons ⟨rfl, rfl⟩ .nil)), by simpa using ngo, fun G1 T1 E1 s1 nT1 nE1 h1 e1 => ?_⟩
      have R1 := RowAt.mk' k0 nT1 nE1 h1 e1
      have k1 : ∀ c ∈ [p, B], ∃ u, G1 c = some u := fun c hc => by obtain ⟨u, hu⟩ := k0 c hc; exact ⟨u, s1 _ _ hu⟩
      refine ⟨_, rfl, [], .nil, by simp, fun G2 T2 E2 s2 nT2 nE2 h2 e2 => ?_⟩
      have R2 := RowAt.mk' k1 nT2 nE2 h2 e2
      have k2 : ∀ c ∈ [p, B], ∃ u, G2 c = some u := fun c hc => by obtain ⟨u, hu⟩ := k1 c hc; exact ⟨u, s2 _ _ hu⟩
      have hRw : Rows (cut [p, B] G2) [(.inr b', .ref T1), (.inr s', .ref T2)] [(b', "says", [(g', b'), (o', s')]), (s', "done", [])] := (.cons ⟨rfl, (R1).same (cut_same s2)⟩ (.cons ⟨rfl, R2⟩ .nil))
      have sT : Same (L2.upd H4 B (.dK [])) G2 := (Same.trans s1 s2)
      have hG := (hp4.new (o := .dK []) hB).same sT
      have bG : But p H G2 := (b04.newt hB).trans (But.of sT)
      refine ⟨sT _ _ upd_same, [(.inr b', .ref T1), (.inr s', .ref T2)], rfl, by show 2 ≤ 15; decide, ?_⟩
      refine ⟨_, rfl, by show 2 ≤ sizeLine; decide, fun R hR => ?_⟩
      have hG2 : Purse (L2.upd G2 B (.dK (mergeK [] [(.inr b', .ref T1), (.inr s', .ref T2)]))) p t3 := hG.upd nBp.symm
      have bG2 : But p H (L2.upd G2 B (.dK (mergeK [] [(.inr b', .ref T1), (.inr s', .ref T2)]))) := But.ofL hB0 bG
      refine k _ R [(b', "says", [(g', b'), (o', s')]), (s', "done", [])] b' t3 (bG2.newt hR) (bG2.fr hR (hG2.ne hR)) (book_end nBp.symm hRw (by simp [nbs, nbd, nbl, nsd, nsl, ndl, nld]) hR (hG2.ne hR)) ?_ (hG2.new hR) (by omega)
      refine ⟨by simp [nbs, nbd, nbl, nsd, nsl, ndl, nld], fun r hr => ?_, by simp, by simp⟩
      simp only [List.mem_cons, List.not_mem_nil, or_false] at hr
      rcases hr with rfl | rfl
      · exact ⟨wb, .inr ⟨.inl rfl, by simp, tok2 ngo gm om (by simp) (by simp)⟩⟩
      · exact ⟨wsc, .inl ⟨rfl, rfl⟩⟩
    · refine ⟨_, rfl, rfl, _, rfl, ?_⟩
      refine ite2 (fun _ => ?_) (fun _ => ?_)
      · skip
        refine fun B hB => ?_
        have nBp := hp4.ne hB
        have hB0 : H B = none := b04.fr hB nBp
        have k0 : ∀ c ∈ [p, B], ∃ u, (L2.upd H4 B (.dK [])) c = some u := fun c hc => by
          rcases List.mem_cons.mp hc with rfl | hc
          · exact (hp4.new hB).some
          · obtain rfl := List.mem_singleton.mp hc; exact ⟨_, upd_same⟩
        have s0 : Same (L2.upd H4 B (.dK [])) (L2.upd H4 B (.dK [])) := Same.refl _
        refine ⟨_, rfl, [(g', s'), (o', d')], (.cons ⟨rfl, rfl⟩ (.cons ⟨rfl, rfl⟩ .nil)), by simpa using ngo, fun G1 T1 E1 s1 nT1 nE1 h1 e1 => ?_⟩
        have R1 := RowAt.mk' k0 nT1 nE1 h1 e1
        have k1 : ∀ c ∈ [p, B], ∃ u, G1 c = some u := fun c hc => by obtain ⟨u, hu⟩ := k0 c hc; exact ⟨u, s1 _ _ hu⟩
        refine ⟨_, rfl, [(n', b'), (e', d')], (.cons ⟨rfl, rfl⟩ (.cons ⟨rfl, rfl⟩ .nil)), by simpa using nne, fun G2 T2 E2 s2 nT2 nE2 h2 e2 => ?_⟩
        have R2 := RowAt.mk' k1 nT2 nE2 h2 e2
        have k2 : ∀ c ∈ [p, B], ∃ u, G2 c = some u := fun c hc => by obtain ⟨u, hu⟩ := k1 c hc; exact ⟨u, s2 _ _ hu⟩
        refine ⟨_, rfl, [], .nil, by simp, fun G3 T3 E3 s3 nT3 nE3 h3 e3 => ?_⟩
        have R3 := RowAt.mk' k2 nT3 nE3 h3 e3
        have k3 : ∀ c ∈ [p, B], ∃ u, G3 c = some u := fun c hc => by obtain ⟨u, hu⟩ := k2 c hc; exact ⟨u, s3 _ _ hu⟩
        have hRw : Rows (cut [p, B] G3) [(.inr b', .ref T1), (.inr s', .ref T2), (.inr d', .ref T3)] [(b', "says", [(g', s'), (o', d')]), (s', "says", [(n', b'), (e', d')]), (d', "done", [])] := (.cons ⟨rfl, ((R1).same (cut_same s2)).same (cut_same s3)⟩ (.cons ⟨rfl, (R2).same (cut_same s3)⟩ (.cons ⟨rfl, R3⟩ .nil)))
        have sT : Same (L2.upd H4 B (.dK [])) G3 := (Same.trans (Same.trans s1 s2) s3)
        have hG := (hp4.new (o := .dK []) hB).same sT
        have bG : But p H G3 := (b04.newt hB).trans (But.of sT)
        refine ⟨sT _ _ upd_same, [(.inr b', .ref T1), (.inr s', .ref T2), (.inr d', .ref T3)], rfl, by show 3 ≤ 15; decide, ?_⟩
        refine ⟨_, rfl, by show 2 ≤ sizeLine; decide, fun R hR => ?_⟩
        have hG2 : Purse (L2.upd G3 B (.dK (mergeK [] [(.inr b', .ref T1), (.inr s', .ref T2), (.inr d', .ref T3)]))) p t3 := hG.upd nBp.symm
        have bG2 : But p H (L2.upd G3 B (.dK (mergeK [] [(.inr b', .ref T1), (.inr s', .ref T2), (.inr d', .ref T3)]))) := But.ofL hB0 bG
        refine k _ R [(b', "says", [(g', s'), (o', d')]), (s', "says", [(n', b'), (e', d')]), (d', "done", [])] b' t3 (bG2.newt hR) (bG2.fr hR (hG2.ne hR)) (book_end nBp.symm hRw (by simp [nbs, nbd, nbl, nsd, nsl, ndl, nld]) hR (hG2.ne hR)) ?_ (hG2.new hR) (by omega)
        refine ⟨by simp [nbs, nbd, nbl, nsd, nsl, ndl, nld], fun r hr => ?_, by simp, by simp⟩
        simp only [List.mem_cons, List.not_mem_nil, or_false] at hr
        rcases hr with rfl | rfl | rfl
        · exact ⟨wb, .inr ⟨.inl rfl, by simp, tok2 ngo gm om (by simp) (by simp)⟩⟩
        · exact ⟨wsc, .inr ⟨.inl rfl, by simp, tok2 nne nm em (by simp) (by simp)⟩⟩
        · exact ⟨wd', .inl ⟨rfl, rfl⟩⟩
      · skip
        refine fun B hB => ?_
        have nBp := hp4.ne hB
        have hB0 : H B = none := b04.fr hB nBp
        have k0 : ∀ c ∈ [p, B], ∃ u, (L2.upd H4 B (.dK [])) c = some u := fun c hc => by
          rcases List.mem_cons.mp hc with rfl | hc
          · exact (hp4.new hB).some
          · obtain rfl := List.mem_singleton.mp hc; exact ⟨_, upd_same⟩
        have s0 : Same (L2.upd H4 B (.dK [])) (L2.upd H4 B (.dK [])) := Same.refl _
        refine ⟨_, rfl, [(g', s'), (o', d')], (.cons ⟨rfl, rfl⟩ (.cons ⟨rfl, rfl⟩ .nil)), by simpa using ngo, fun G1 T1 E1 s1 nT1 nE1 h1 e1 => ?_⟩
        have R1 := RowAt.mk' k0 nT1 nE1 h1 e1
        have k1 : ∀ c ∈ [p, B], ∃ u, G1 c = some u := fun c hc => by obtain ⟨u, hu⟩ := k0 c hc; exact ⟨u, s1 _ _ hu⟩
        refine ⟨_, rfl, [(n', b'), (e', l')], (.cons ⟨rfl, rfl⟩ (.cons ⟨rfl, rfl⟩ .nil)), by simpa using nne, fun G2 T2 E2 s2 nT2 nE2 h2 e2 => ?_⟩
        have R2 := RowAt.mk' k1 nT2 nE2 h2 e2
        have k2 : ∀ c ∈ [p, B], ∃ u, G2 c = some u := fun c hc => by obtain ⟨u, hu⟩ := k1 c hc; exact ⟨u, s2 _ _ hu⟩
        refine ⟨_, rfl, [], .nil, by simp, fun G3 T3 E3 s3 nT3 nE3 h3 e3 => ?_⟩
        have R3 := RowAt.mk' k2 nT3 nE3 h3 e3
        have k3 : ∀ c ∈ [p, B], ∃ u, G3 c = some u := fun c hc => by obtain ⟨u, hu⟩ := k2 c hc; exact ⟨u, s3 _ _ hu⟩
        have hRw : Rows (cut [p, B] G3) [(.inr b', .ref T1), (.inr s', .ref T2), (.inr l', .ref T3)] [(b', "hears", [(g', s'), (o', d')]), (s', "says", [(n', b'), (e', l')]), (l', "done", [])] := (.cons ⟨rfl, ((R1).same (cut_same s2)).same (cut_same s3)⟩ (.cons ⟨rfl, (R2).same (cut_same s3)⟩ (.cons ⟨rfl, R3⟩ .nil)))
        have sT : Same (L2.upd H4 B (.dK [])) G3 := (Same.trans (Same.trans s1 s2) s3)
        have hG := (hp4.new (o := .dK []) hB).same sT
        have bG : But p H G3 := (b04.newt hB).trans (But.of sT)
        refine ⟨sT _ _ upd_same, [(.inr b', .ref T1), (.inr s', .ref T2), (.inr l', .ref T3)], rfl, by show 3 ≤ 15; decide, ?_⟩
        have mid : mergeK [] [(.inr b', .ref T1), (.inr s', .ref T2), (.inr l', .ref T3)] = [(.inr b', .ref T1), (.inr s', .ref T2), (.inr l', .ref T3)] := merge_id (inr_nd (l := [b', s', l']) (by simp [nbs, nbl, nsl]))
        have hG2 : Purse (L2.upd G3 B (.dK (mergeK [] [(.inr b', .ref T1), (.inr s', .ref T2), (.inr l', .ref T3)]))) p t3 := hG.upd nBp.symm
        have bG2 : But p H (L2.upd G3 B (.dK (mergeK [] [(.inr b', .ref T1), (.inr s', .ref T2), (.inr l', .ref T3)]))) := But.ofL hB0 bG
        have hRw5 : Rows (cut [p, B] (L2.upd G3 B (.dK (mergeK [] [(.inr b', .ref T1), (.inr s', .ref T2), (.inr l', .ref T3)])))) [(.inr b', .ref T1), (.inr s', .ref T2), (.inr l', .ref T3)] [(b', "hears", [(g', s'), (o', d')]), (s', "says", [(n', b'), (e', l')]), (l', "done", [])] := by rw [cut_upd (by simp)]; exact hRw
        have k4 : ∀ c ∈ [p, B], ∃ u, (L2.upd G3 B (.dK (mergeK [] [(.inr b', .ref T1), (.inr s', .ref T2), (.inr l', .ref T3)]))) c = some u := fun c hc => by
          rcases List.mem_cons.mp hc with rfl | hc
          · exact hG2.some
          · obtain rfl := List.mem_singleton.mp hc; exact ⟨_, upd_same⟩
        refine ⟨_, rfl, rfl, _, rfl, ?_⟩
        refine ite2 (fun _ => ?_) (fun _ => ?_)
        ·   refine ⟨[(n', b'), (e', l')], (.cons ⟨rfl, rfl⟩ (.cons ⟨rfl, rfl⟩ .nil)), by simpa using nne, fun G4 T4 E4 s4 nT4 nE4 h4 e4 => ?_⟩
            have R4 := RowAt.mk' k4 nT4 nE4 h4 e4
            have hB4 : G4 B = some (.dK [(.inr b', .ref T1), (.inr s', .ref T2), (.inr l', .ref T3)]) := s4 _ _ (by rw [upd_same, mid])
            have hRw4 : Rows (cut [p, B] G4) [(.inr b', .ref T1), (.inr s', .ref T2), (.inr l', .ref T3)] [(b', "hears", [(g', s'), (o', d')]), (s', "says", [(n', b'), (e', l')]), (l', "done", [])] := (hRw5.same (cut_same s4))
            refine ⟨_, rfl, _, rfl, B, _, rfl, DPut.k (k := Sum.inr d') hB4 (by rw [sizeLine_eq]; show 3 < _; decide), ?_⟩
            have hRw6 := hRw4.app (s := d') R4
            have ep : putK ([(.inr b', .ref T1), (.inr s', .ref T2), (.inr l', .ref T3)] : List (Key × V)) (.inr d') (.ref T4) = ([(.inr b', .ref T1), (.inr s', .ref T2), (.inr l', .ref T3)] : List (Key × V)) ++ ([(.inr d', .ref T4)] : List (Key × V)) := putK_new (hRw4.fresh (by simp [Ne.symm nbd, Ne.symm nsd, ndl]))
            rw [ep]
            have hG4 := hG2.same s4
            have bG4 := bG2.trans (But.of s4)
            refine ⟨_, rfl, _, rfl, by show 2 ≤ sizeLine; decide, fun R hR => ?_⟩
            have hG5 : Purse (L2.upd G4 B (.dK (([(.inr b', .ref T1), (.inr s', .ref T2), (.inr l', .ref T3)] : List (Key × V)) ++ ([(.inr d', .ref T4)] : List (Key × V))))) p t3 := hG4.upd nBp.symm
            have bG5 : But p H (L2.upd G4 B (.dK (([(.inr b', .ref T1), (.inr s', .ref T2), (.inr l', .ref T3)] : List (Key × V)) ++ ([(.inr d', .ref T4)] : List (Key × V))))) := But.ofL hB0 bG4
            have nRp := hG5.ne hR
            have nBR : B ≠ R := fun e => by rw [← e, upd_same] at hR; cases hR
            refine k _ R [(b', "hears", [(g', s'), (o', d')]), (s', "says", [(n', b'), (e', l')]), (l', "done", []), (d', "says", [(n', b'), (e', l')])] b' t3 (bG5.newt hR) (bG5.fr hR nRp) ⟨B, by rw [cut_out (by simpa using nRp)]; exact upd_same, _, by rw [cut_out (by simpa using nBp), upd_ne nBR, upd_same], hRw6.same fun c u e => ?_⟩ ?_ (hG5.new hR) (by omega)
            · obtain ⟨nc, e⟩ := cut_some e
              simp only [List.mem_cons, List.not_mem_nil, or_false, not_or] at nc
              have ncR : c ≠ R := fun z => by rw [z] at e nc; rw [upd_ne nc.2] at hR; rw [hR] at e; cases e
              rw [cut_out (by simpa using nc.1), upd_ne ncR, upd_ne nc.2]; exact e
            · refine ⟨by simp [nbs, nbd, nbl, nsd, nsl, ndl, nld], fun r hr => ?_, by simp, by simp⟩
              simp only [List.mem_cons, List.not_mem_nil, or_false] at hr
              rcases hr with rfl | rfl | rfl | rfl
              · exact ⟨wb, .inr ⟨.inr rfl, by simp, tok2 ngo gm om (by simp) (by simp)⟩⟩
              · exact ⟨wsc, .inr ⟨.inl rfl, by simp, tok2 nne nm em (by simp) (by simp)⟩⟩
              · exact ⟨wl, .inl ⟨rfl, rfl⟩⟩
              · exact ⟨wd', .inr ⟨.inl rfl, by simp, tok2 nne nm em (by simp) (by simp)⟩⟩
        ·   refine ⟨[(n', d')], (.cons ⟨rfl, rfl⟩ .nil), by simp, fun G4 T4 E4 s4 nT4 nE4 h4 e4 => ?_⟩
            have R4 := RowAt.mk' k4 nT4 nE4 h4 e4
            have hB4 : G4 B = some (.dK [(.inr b', .ref T1), (.inr s', .ref T2), (.inr l', .ref T3)]) := s4 _ _ (by rw [upd_same, mid])
            have hRw4 : Rows (cut [p, B] G4) [(.inr b', .ref T1), (.inr s', .ref T2), (.inr l', .ref T3)] [(b', "hears", [(g', s'), (o', d')]), (s', "says", [(n', b'), (e', l')]), (l', "done", [])] := (hRw5.same (cut_same s4))
            refine ⟨_, rfl, _, rfl, B, _, rfl, DPut.k (k := Sum.inr d') hB4 (by rw [sizeLine_eq]; show 3 < _; decide), ?_⟩
            have hRw6 := hRw4.app (s := d') R4
            have ep : putK ([(.inr b', .ref T1), (.inr s', .ref T2), (.inr l', .ref T3)] : List (Key × V)) (.inr d') (.ref T4) = ([(.inr b', .ref T1), (.inr s', .ref T2), (.inr l', .ref T3)] : List (Key × V)) ++ ([(.inr d', .ref T4)] : List (Key × V)) := putK_new (hRw4.fresh (by simp [Ne.symm nbd, Ne.symm nsd, ndl]))
            rw [ep]
            have hG4 := hG2.same s4
            have bG4 := bG2.trans (But.of s4)
            refine ⟨_, rfl, _, rfl, by show 2 ≤ sizeLine; decide, fun R hR => ?_⟩
            have hG5 : Purse (L2.upd G4 B (.dK (([(.inr b', .ref T1), (.inr s', .ref T2), (.inr l', .ref T3)] : List (Key × V)) ++ ([(.inr d', .ref T4)] : List (Key × V))))) p t3 := hG4.upd nBp.symm
            have bG5 : But p H (L2.upd G4 B (.dK (([(.inr b', .ref T1), (.inr s', .ref T2), (.inr l', .ref T3)] : List (Key × V)) ++ ([(.inr d', .ref T4)] : List (Key × V))))) := But.ofL hB0 bG4
            have nRp := hG5.ne hR
            have nBR : B ≠ R := fun e => by rw [← e, upd_same] at hR; cases hR
            refine k _ R [(b', "hears", [(g', s'), (o', d')]), (s', "says", [(n', b'), (e', l')]), (l', "done", []), (d', "says", [(n', d')])] b' t3 (bG5.newt hR) (bG5.fr hR nRp) ⟨B, by rw [cut_out (by simpa using nRp)]; exact upd_same, _, by rw [cut_out (by simpa using nBp), upd_ne nBR, upd_same], hRw6.same fun c u e => ?_⟩ ?_ (hG5.new hR) (by omega)
            · obtain ⟨nc, e⟩ := cut_some e
              simp only [List.mem_cons, List.not_mem_nil, or_false, not_or] at nc
              have ncR : c ≠ R := fun z => by rw [z] at e nc; rw [upd_ne nc.2] at hR; rw [hR] at e; cases e
              rw [cut_out (by simpa using nc.1), upd_ne ncR, upd_ne nc.2]; exact e
            · refine ⟨by simp [nbs, nbd, nbl, nsd, nsl, ndl, nld], fun r hr => ?_, by simp, by simp⟩
              simp only [List.mem_cons, List.not_mem_nil, or_false] at hr
              rcases hr with rfl | rfl | rfl | rfl
              · exact ⟨wb, .inr ⟨.inr rfl, by simp, tok2 ngo gm om (by simp) (by simp)⟩⟩
              · exact ⟨wsc, .inr ⟨.inl rfl, by simp, tok2 nne nm em (by simp) (by simp)⟩⟩
              · exact ⟨wl, .inl ⟨rfl, rfl⟩⟩
              · exact ⟨wd', .inr ⟨.inl rfl, by simp, tok1 nm (by simp)⟩⟩
end
end D1
end L2
/-! long -/
namespace L2
namespace D1
open PySem PySem.Spec PyProof.Rows
def spLong : Sp := fun vs H Q _ => ∃ (p W : Addr) (ws : List Str) (most t : Int), vs = [.ref p, .ref W, .int most] ∧ Purse H p t ∧ SL H W ws ∧ W ≠ p ∧ WsOk ws ∧ 3 ≤ most ∧ most ≤ 6 ∧ t < 2 ^ 26 ∧
  ∀ (H' : Hp) (R : Addr) (bk : Bk) (st : Str) (t' : Int), But p H H' → H R = none → WorldAt (cut [p] H') R bk st → WF bk st ws → Purse H' p t' → t' ≤ t + 700 → Q (.ref R) H'
theorem atI_last {xs : List V} {v : V} (h : xs[xs.length - 1]? = some v) : atI xs (-1) = some v := by
  have hl : 0 < xs.length := by
    rcases Nat.eq_zero_or_pos xs.length with e | e
    · rw [List.length_eq_zero_iff.mp e] at h; cases h
    · exact e
  unfold atI ixN
  rw [if_neg (by decide), if_pos (by omega)]
  show xs[(-1 + (xs.length : Int)).toNat]? = _
  rw [show (-1 + (xs.length : Int)).toNat = xs.length - 1 by omega]
  exact h
theorem updd {H : Hp} {a : Addr} {o o' : HO} : L2.upd (L2.upd H a o) a o' = L2.upd H a o' := by
  funext b
  by_cases h : b = a
  · rw [h, upd_same, upd_same]
  · rw [upd_ne h, upd_ne h, upd_ne h]
section
variable {P : Program} {w : World} {K : PySem.W.Frag} {mg : Str → Option Value} {base : Heap}
end
end D1
end L2
/-! row_of, rich -/
namespace L2
namespace D1
open PySem PySem.Spec PyProof.Rows
abbrev sRowOf : Stmt := top 51
/-- a list of a world and its words -/
def RichAt (H : Hp) (R : Addr) (bk : Bk) (st : Str) (ws : List Str) : Prop := ∃ W L, H R = some (.lst [.ref W, .ref L]) ∧ WorldAt H W bk st ∧ SL H L ws
theorem RichAt.same {H H' : Hp} {R : Addr} {bk : Bk} {st : Str} {ws : List Str} (h : RichAt H R bk st ws) (s : Same H H') : RichAt H' R bk st ws := by
  obtain ⟨W, L, h1, h2, h3⟩ := h; exact ⟨W, L, s _ _ h1, h2.same s, h3.same s⟩
def spRow (c d : Int) : Sp := fun vs H Q _ => ∃ (p : Addr) (top' t : Int), vs = [.ref p, .int top'] ∧ Purse H p t ∧ 3 ≤ top' ∧ top' ≤ 6 ∧ t < c ∧
  ∀ (H' : Hp) (R : Addr) (bk : Bk) (st : Str) (ws : List Str) (t' : Int), But p H H' → RichAt (cut [p] H') R bk st ws → WF bk st ws → WsOk ws → Purse H' p t' → t' ≤ t + d → Q (.ref R) H'
theorem rich_new {p R W L : Addr} {H : Hp} {bk : Bk} {st : Str} {ws : List Str} (hR : H R = none) (nR : R ≠ p) (hW : WorldAt (cut [p] H) W bk st) (hL : SL H L ws) (nL : L ≠ p) : RichAt (cut [p] (L2.upd H R (.lst [.ref W, .ref L]))) R bk st ws :=
  ⟨W, L, by rw [cut_out (by simpa using nR)]; exact upd_same, hW.same (cut_new hR), by rw [SL, cut_out (by simpa using nL)]; exact hL.new hR⟩
theorem ws_take {ws : List Str} (l : ws.length = 6) (nd : ws.Nodup) (aw : ∀ x ∈ ws, Wd x) {k : Nat} (h : 1 ≤ k) : WsOk (ws.take k) :=
  ⟨by rw [List.length_take]; omega, by rw [List.length_take]; omega, List.Nodup.sublist (List.take_sublist _ _) nd, fun x hx => aw x (List.mem_of_mem_take hx)⟩
section
variable {P : Program} {w : World} {K : PySem.W.Frag} {mg : Str → Option Value} {base : Heap}
abbrev CPool (P : Program) (w : World) (K : PySem.W.Frag) (mg : Str → Option Value) (base : Heap) := Cal P w K mg base "_law_pool" 5 ["_law_purse_here"] spPool
abbrev CWorld (P : Program) (w : World) (K : PySem.W.Frag) (mg : Str → Option Value) (base : Heap) := Cal P w K mg base "_law_world" 5 ["_law_purse_here", "_law_many", "_law_words_here", "_law_top"] spWorld
abbrev CShape (P : Program) (w : World) (K : PySem.W.Frag) (mg : Str → Option Value) (base : Heap) := Cal P w K mg base "_law_shape" 5 ["_law_purse_here", "_law_words_here"] spShape
abbrev CLong (P : Program) (w : World) (K : PySem.W.Frag) (mg : Str → Option Value) (base : Heap) := Cal P w K mg base "_law_long" 5 ["_law_purse_here", "_law_words_here", "_law_most"] spLong
abbrev CRow (P : Program) (w : World) (K : PySem.W.Frag) (mg : Str → Option Value) (base : Heap) := Cal P w K mg base "_law_row_of" 6 ["_law_purse_here", "_law_top"] (spRow (2 ^ 25) 1800)
theorem scRo : FnScope ["_law_purse_here", "_law_top", "_law_pool_here", "_law_words_here"] ["_law_purse_here", "_law_top"] (defScope sRowOf) := ⟨rfl, rfl, rfl, by decide +kernel, rfl, by decide +kernel, by decide +kernel⟩
theorem ok_row {f : Addr} {fd : FuncData} (F : Fun K "_law_row_of" "_law_row_of" sRowOf f fd) (T : Free2 mg) (CD : CDraw P w K mg base) (CP : CPool P w K mg base) (CW : CWorld P w K mg base) (CS : CShape P w K mg base) :
    FnOk P w K mg base CX0 6 f fd ["_law_purse_here", "_law_top"] (spRow (2 ^ 25) 1800) := by
  refine F.ok scRo (fun vs H Q E h => ?_) (fun cdv A outer s H vs Q E hr h => ?_)
  · obtain ⟨p, m, t, rfl, _⟩ := h; rfl
  · obtain ⟨p, top', t, rfl, hp, m3, m6, t1, k⟩ := h
    refine ⟨_, pss_cons (ps_set (i := 2) scRo.nd rfl (Or.inl rfl) (pe_cal CP (hr.mono (by decide)) rfl (pa_cons (pv 0) pa_nil)))
      (pss_cons (ps_if (pt_cmpR op_eq (pe_cal CD (hr.mono (by decide)) rfl (pa_cons (pv 0) (pa_cons pe_int pa_nil))) pe_int (nomark _))
        (pss_one (ps_ret (pe_lst (pa_cons (pe_cal CW (hr.mono (by decide)) rfl (pa_cons (pv 0) (pa_cons (pe_op op_add pe_int (pe_cal CD (hr.mono (by decide)) rfl (pa_cons (pv 0) (pa_cons (pv 1) pa_nil)))) (pa_cons (pe_slice sl_list (pv 2) po_none (po_some pe_int)) (pa_cons pe_int pa_nil))))) (pa_cons (pe_slice sl_list (pv 2) po_none (po_some pe_int)) pa_nil))))) pss_nil)
      (pss_cons (ps_set (i := 3) scRo.nd rfl (Or.inl rfl) (pe_slice sl_list (pv 2) po_none (po_some (pe_op op_add pe_int (pe_cal CD (hr.mono (by decide)) rfl (pa_cons (pv 0) (pa_cons (pe_callB (call_min2 rfl) (by rfl) T.min (by decide +kernel) (pa_cons pe_int (pa_cons (pe_callB call_len_seq (by rfl) T.len PySem.boot_len (pa_cons (pv 2) pa_nil)) pa_nil))) pa_nil)))))))
      (pss_cons (ps_if (PW.pt (pw_and (pt_cmpR op_gt (pe_callB call_len_seq (by rfl) T.len PySem.boot_len (pa_cons (pv 3) pa_nil)) pe_int (nomark _)) (pw_and1 (pt_cmpR op_eq (pe_cal CD (hr.mono (by decide)) rfl (pa_cons (pv 0) (pa_cons pe_int pa_nil))) pe_int (nomark _)))))
        (pss_one (ps_ret (pe_lst (pa_cons (pe_cal CS (hr.mono (by decide)) rfl (pa_cons (pv 0) (pa_cons (pv 3) pa_nil))) (pa_cons (pv 3) pa_nil))))) pss_nil)
      (pss_one (ps_ret (pe_lst (pa_cons (pe_cal CW (hr.mono (by decide)) rfl (pa_cons (pv 0) (pa_cons (pe_op op_add pe_int (pe_cal CD (hr.mono (by decide)) rfl (pa_cons (pv 0) (pa_cons (pv 1) pa_nil)))) (pa_cons (pv 3) (pa_cons pe_int pa_nil))))) (pa_cons (pv 3) pa_nil)))))))), ?_⟩
    refine ⟨_, rfl, p, t, rfl, hp, by omega, fun H1 L ps t1 b1 hL hLL lp nd aw hp1 tt1 => ?_⟩
    have nL := hp.ne hL
    refine ⟨_, rfl, p, 8, t1, rfl, hp1, by decide, by decide, by omega, fun r t2 o r0 r1 tt2 hp2 => ?_⟩
    have b2 := b1.trans (But.upd p H1 o)
    have hL2 : SL (L2.upd H1 p o) L ps := by rw [SL, upd_ne nL]; exact hLL
    generalize L2.upd H1 p o = H2 at b2 hL2 hp2
    refine ⟨rfl, _, rfl, ?_⟩
    refine ite2 (fun _ => ?_) (fun _ => ?_)
    · refine ⟨_, rfl, _, rfl, _, rfl, p, top', t2, rfl, hp2, by omega, by omega, by omega, fun r3 t3 o3 r30 r31 tt3 hp3 => ?_⟩
      have b3 := b2.trans (But.upd p H2 o3)
      have hL3 : SL (L2.upd H2 p o3) L ps := by rw [SL, upd_ne nL]; exact hL2
      generalize L2.upd H2 p o3 = H3 at b3 hL3 hp3
      refine ⟨_, _, rfl, rfl, _, rfl, _, rfl, L, _, rfl, hL3.sq, fun q hq => ?_⟩
      rw [cutV_map, cutL_to _ (by decide)]
      have wok := ws_take lp nd aw (k := (6 : Int).toNat) (by decide)
      refine ⟨p, q, ps.take (6 : Int).toNat, 1 + r3, 6, t3, rfl, hp3.new hq, upd_same, hp3.ne hq, wok, by omega, by omega, by decide, by decide, by omega, fun H4 W bk st t4 b4 hW0 hW wf hp4 tt4 => ?_⟩
      have hL4 : SL H4 L ps := b4 _ _ nL (hL3.new hq)
      have b04 := (b3.newt hq).trans b4
      refine ⟨_, rfl, _, rfl, L, _, rfl, hL4.sq, fun q2 hq2 => ?_⟩
      rw [cutV_map, cutL_to _ (by decide)]
      refine ⟨by show 2 ≤ sizeLine; decide, fun R hR => ?_⟩
      exact k _ R bk st _ t4 ((b04.newt hq2).newt hR) (rich_new hR ((hp4.new hq2).ne hR) (hW.same (cut_new hq2)) upd_same (hp4.ne hq2)) wf wok ((hp4.new hq2).new hR) (by omega)
    · refine ⟨_, rfl, _, rfl, _, rfl, L, _, rfl, .inl hL2.sq, 5, _, rfl, ?_⟩
      rw [List.length_map, lp]
      refine ⟨p, 5, t2, rfl, hp2, by decide, by decide, by omega, fun r3 t3 o3 r30 r31 tt3 hp3 => ?_⟩
      have b3 := b2.trans (But.upd p H2 o3)
      have hL3 : SL (L2.upd H2 p o3) L ps := by rw [SL, upd_ne nL]; exact hL2
      generalize L2.upd H2 p o3 = H3 at b3 hL3 hp3
      refine ⟨_, _, rfl, rfl, _, rfl, L, _, rfl, hL3.sq, fun q hq => ?_⟩
      rw [cutV_map, cutL_to _ (by omega)]
      have wok := ws_take lp nd aw (k := (1 + r3).toNat) (by omega)
      generalize ps.take (1 + r3).toNat = ws at wok
      have hq3 : SL (L2.upd H3 q (.lst (ws.map V.str))) q ws := upd_same
      have hp4 := hp3.new (o := .lst (ws.map V.str)) hq
      have b4 := b3.newt (o := .lst (ws.map V.str)) hq
      have nq := hp3.ne hq
      generalize L2.upd H3 q (.lst (ws.map V.str)) = H4 at hq3 hp4 b4
      refine ⟨_, rfl, q, _, rfl, .inl hq3.sq, _, _, rfl, rfl, _, rfl, ?_⟩
      rw [List.length_map]
      refine ite2 (fun c => ?_) (fun c => ?_)
      · refine ⟨_, rfl, p, 3, t3, rfl, hp4, by decide, by decide, by omega, fun r5 t5 o5 r50 r51 tt5 hp5 => ?_⟩
        have b5 := b4.trans (But.upd p H4 o5)
        have hq5 : SL (L2.upd H4 p o5) q ws := by rw [SL, upd_ne nq]; exact hq3
        generalize L2.upd H4 p o5 = H5 at b5 hq5 hp5
        refine ⟨rfl, _, rfl, ?_⟩
        refine ite2 (fun c2 => ?_) (fun c2 => ?_)
        · have c' := of_decide_eq_true c
          refine ⟨_, rfl, _, rfl, p, q, ws, t5, rfl, hp5, hq5, nq, wok, by omega, by omega, fun H6 W bk st t6 b6 hW0 hW wf hp6 tt6 => ?_⟩
          have hq6 : SL H6 q ws := b6 _ _ nq hq5
          refine ⟨_, rfl, by show 2 ≤ sizeLine; decide, fun R hR => ?_⟩
          exact k _ R bk st _ t6 ((b5.trans b6).newt hR) (rich_new hR (hp6.ne hR) hW hq6 nq) wf wok (hp6.new hR) (by omega)
        · refine ⟨_, rfl, _, rfl, _, rfl, p, top', t5, rfl, hp5, by omega, by omega, by omega, fun r7 t7 o7 r70 r71 tt7 hp7 => ?_⟩
          have b7 := b5.trans (But.upd p H5 o7)
          have hq7 : SL (L2.upd H5 p o7) q ws := by rw [SL, upd_ne nq]; exact hq5
          generalize L2.upd H5 p o7 = H7 at b7 hq7 hp7
          refine ⟨_, _, rfl, rfl, _, rfl, p, q, ws, 1 + r7, 3, t7, rfl, hp7, hq7, nq, wok, by omega, by omega, by decide, by decide, by omega, fun H8 W bk st t8 b8 hW0 hW wf hp8 tt8 => ?_⟩
          have hq8 : SL H8 q ws := b8 _ _ nq hq7
          refine ⟨_, rfl, by show 2 ≤ sizeLine; decide, fun R hR => ?_⟩
          exact k _ R bk st _ t8 ((b7.trans b8).newt hR) (rich_new hR (hp8.ne hR) hW hq8 nq) wf wok (hp8.new hR) (by omega)
      · refine ⟨_, rfl, _, rfl, _, rfl, p, top', t3, rfl, hp4, by omega, by omega, by omega, fun r7 t7 o7 r70 r71 tt7 hp7 => ?_⟩
        have b7 := b4.trans (But.upd p H4 o7)
        have hq7 : SL (L2.upd H4 p o7) q ws := by rw [SL, upd_ne nq]; exact hq3
        generalize L2.upd H4 p o7 = H7 at b7 hq7 hp7
        refine ⟨_, _, rfl, rfl, _, rfl, p, q, ws, 1 + r7, 3, t7, rfl, hp7, hq7, nq, wok, by omega, by omega, by decide, by decide, by omega, fun H8 W bk st t8 b8 hW0 hW wf hp8 tt8 => ?_⟩
        have hq8 : SL H8 q ws := b8 _ _ nq hq7
        refine ⟨_, rfl, by show 2 ≤ sizeLine; decide, fun R hR => ?_⟩
        exact k _ R bk st _ t8 ((b7.trans b8).newt hR) (rich_new hR (hp8.ne hR) hW hq8 nq) wf wok (hp8.new hR) (by omega)
end
end D1
end L2
/-! forms: is_name, is_names, is_state_of, is_row -/
namespace L2
namespace D1
open PySem PySem.Spec PyProof.Rows
abbrev sIsName : Stmt := top 3
abbrev sIsRow : Stmt := top 4
abbrev sIsState : Stmt := top 5
/-- the names of built-in classes, and the two numbers of forms -/
structure Free3 (mg : Str → Option Value) : Prop extends Free2 mg where
  lets : ∃ t, mg "LETTERS" = some (.str abc t)
  most : ∃ t, mg "MOST_LETTERS" = some (.int 8 t)
def spIsName : Sp := fun vs H Q _ => ∃ x : Str, vs = [.str x] ∧ Wd x ∧ ∀ H', Same H H' → Q (.bl true) H'
def spIsNames : Sp := fun vs H Q _ => ∃ (L : Addr) (ss : List Str), vs = [.ref L] ∧ SL H L ss ∧ ss.length ≤ 1000 ∧ (∀ x ∈ ss, Wd x) ∧ ∀ H', Same H H' → Q (.bl true) H'
def spIsState : Sp := fun vs H Q _ => ∃ (b : Addr) (kvs : List (Key × V)) (x : Str), vs = [.ref b, .str x] ∧ Rd H b (.dK kvs) ∧ (valV kvs (.inr x)).isSome = true ∧ Q (.bl true) H
/-- a row by its form -/
def RForm (k : Str) (ts : List (Str × Str)) : Prop := (k = "done" ∧ ts = []) ∨ ((k = "says" ∨ k = "hears") ∧ ts ≠ [] ∧ ts.length ≤ 1000 ∧ ∀ t ∈ ts, Wd t.1 ∧ Wd t.2)
def spIsRow : Sp := fun vs H Q _ => ∃ (v : V) (k : Str) (ts : List (Str × Str)), vs = [v] ∧ RowAt H v k ts ∧ RForm k ts ∧ ∀ H', Same H H' → Q (.bl true) H'
theorem Same.unlock {H H' : Hp} {b : Addr} {u f : HO} (e : H b = some u) (s : Same (L2.upd H b f) H') : Same H (L2.upd H' b u) := fun c o ec => by
  by_cases h : c = b
  · rw [h] at ec ⊢; rw [upd_same, ← ec, e]
  · rw [upd_ne h]; exact s _ _ (by rw [upd_ne h]; exact ec)
theorem all_true (n : Nat) : (List.replicate n true).all id = true := by
  induction n with
  | zero => rfl
  | succ n ih => rw [List.replicate_succ, List.all_cons, ih]; rfl
theorem repl_snoc (n : Nat) : (List.replicate n true).map V.bl ++ [V.bl true] = (List.replicate (n + 1) true).map V.bl := by
  rw [List.replicate_succ', List.map_append]; rfl
section
variable {P : Program} {w : World} {K : PySem.W.Frag} {mg : Str → Option Value} {base : Heap}
abbrev CIsName (P : Program) (w : World) (K : PySem.W.Frag) (mg : Str → Option Value) (base : Heap) := Cal P w K mg base "is_name" 1 ["value"] spIsName
theorem scIn : FnScope ["value", "letter"] ["value"] (defScope sIsName) := ⟨rfl, rfl, rfl, by decide +kernel, rfl, by decide +kernel, by decide +kernel⟩
theorem ok_isname {f : Addr} {fd : FuncData} (F : Fun K "is_name" "is_name" sIsName f fd) (T : Free3 mg) : FnOk P w K mg base CX0 1 f fd ["value"] spIsName := by
  obtain ⟨tL, eL⟩ := T.lets
  obtain ⟨tM, eM⟩ := T.most
  refine F.ok scIn (fun vs H Q E h => ?_) (fun cdv A outer s H vs Q E hr h => ?_)
  · obtain ⟨x, rfl, _⟩ := h; rfl
  · obtain ⟨x, rfl, wx, k⟩ := h
    refine ⟨_, pss_cons (ps_if (PW.pt (pw_or (pt_not (pt_val (pe_callB call_isi (by rfl) T.isi (by decide +kernel) (pa_cons (pv 0) (pa_cons (pe_bltn (v := .ty "str") rfl T.str (by decide +kernel) rfl) pa_nil))))) (pw_or1 (pt_not (pt_chain op_le op_le pe_int (pe_callB call_len_str (by rfl) T.len PySem.boot_len (pa_cons (pv 0) pa_nil)) (pe_glob (v := .int 8) rfl eM ⟨_, rfl⟩)))))) (pss_one (ps_ret pe_bl)) pss_nil)
      (pss_one (ps_ret (pe_callB (cr_all rfl) (by rfl) T.all (by decide +kernel) (pa_cons (pe_lc (own := [("letter", 1)]) (g := gName 1) (tt := tYes) rfl scIn.nd (pi_str (pv 0))
        (blkOk_by (N := ["value", "letter"]) (sc := defScope sIsName) (by decide +kernel)) (fun _ _ _ _ _ => pg_name (i := 1) scIn.nd rfl (Or.inl rfl)) (fun _ _ _ _ _ => pts_nil)
        (fun _ _ _ _ _ => pe_cmpR op_in_sign (pv 1) (pe_glob (v := .str abc) rfl eL ⟨_, rfl⟩) rfl)) pa_nil)))), ?_⟩
    have l1 := wx.lo
    have l2 := wx.hi
    refine ⟨_, rfl, _, .ty "str", .type "str", .type "str", true, rfl, .ty _, .base (.str _), kit_ty (by decide +kernel), _, rfl, ?_⟩
    refine iteF ?_
    refine ⟨_, rfl, x, rfl, by rw [sizeLine_eq]; omega, _, _, rfl, rfl, _, rfl, ?_⟩
    rw [decide_eq_true (show (1 : Int) ≤ x.length by omega)]
    refine iteT ⟨_, _, rfl, rfl, _, rfl, ?_⟩
    rw [decide_eq_true (show (x.length : Int) ≤ 8 by omega)]
    refine iteF ?_
    refine ⟨_, rfl, x, rfl, fun D hD => ?_⟩
    refine lc_it (walk_str (z := x)) (fun i H' => Same H H' ∧ H' D = some (.lst ((List.replicate i true).map V.bl))) ⟨Same.new hD, upd_same⟩ (fun _ _ _ _ => trivial) ?_ ?_
    · rintro i v H1 H2 hi ⟨sm, hl⟩ ⟨rfl, c, hc, rfl⟩
      refine ⟨rfl, ?_⟩
      dsimp only [tYes]
      rw [if_pos rfl]
      have hm : c ∈ tl x := by
        rw [tl, ← Array.getElem?_toList] at *
        exact List.mem_of_getElem? hc
      have hr' := wx.ok c hm
      have ha : ∀ c, 97 ≤ c → c ≤ 122 → c ∈ abc.cps.toList := by
        have h : ∀ j : Fin 26, (97 + j.val) ∈ abc.cps.toList := by decide +kernel
        intro c h1 h2
        have := h ⟨c - 97, by omega⟩
        rwa [show 97 + (c - 97) = c by omega] at this
      refine ⟨_, rfl, c, abc, rfl, rfl, _, hl, by rw [List.length_map, List.length_replicate, sizeLine_eq]; have : x.cps.size = x.length := rfl; omega, ?_, ?_⟩
      · intro b u e
        rw [upd_ne (ne_of_none e hD)]; exact sm _ _ e
      · rw [upd_same, decide_eq_true (ha c hr'.1 hr'.2), repl_snoc]
    · rintro H1 ⟨sm, hl⟩
      refine ⟨D, _, rfl, SqL.of hl, ?_⟩
      rw [all_true]
      exact k H1 sm
theorem scIst : FnScope ["book", "value"] ["book", "value"] (defScope sIsState) := ⟨rfl, rfl, rfl, by decide +kernel, rfl, by decide +kernel, by decide +kernel⟩
theorem ok_isstate {f : Addr} {fd : FuncData} (F : Fun K "is_state_of" "is_state_of" sIsState f fd) (T : Free3 mg) : FnOk P w K mg base CX0 1 f fd ["book", "value"] spIsState := by
  refine F.ok scIst (fun vs H Q E h => ?_) (fun cdv A outer s H vs Q E hr h => ?_)
  · obtain ⟨b, kvs, x, rfl, _⟩ := h; rfl
  · obtain ⟨b, kvs, x, rfl, hb, hx, k⟩ := h
    have hu := hu_of hr
    refine ⟨_, pss_one (ps_ret (pe_and (pe_callB call_isi (by rfl) T.isi (by decide +kernel) (pa_cons (pv 1) (pa_cons (pe_bltn (v := .ty "str") rfl T.str (by decide +kernel) rfl) pa_nil))) (pe_one (pe_cmp (pc_din hu (pv 1) (pv 0)) rfl)))), ?_⟩
    refine ⟨_, rfl, _, .ty "str", .type "str", .type "str", true, rfl, .ty _, .base (.str _), kit_ty (by decide +kernel), _, rfl, ?_⟩
    refine iteT ⟨_, rfl, _, rfl, b, _, rfl, .inl ⟨kvs, .inr x, hb, rfl, rfl⟩, ?_⟩
    rw [hx]
    exact k
abbrev CIsRow (P : Program) (w : World) (K : PySem.W.Frag) (mg : Str → Option Value) (base : Heap) := Cal P w K mg base "is_row" 2 ["value"] spIsRow
theorem scIr : FnScope ["value", "kind", "turns", "word", "goal"] ["value"] (defScope sIsRow) := ⟨rfl, rfl, rfl, by decide +kernel, rfl, by decide +kernel, by decide +kernel⟩
theorem ok_isrow {f : Addr} {fd : FuncData} (F : Fun K "is_row" "is_row" sIsRow f fd) (T : Free3 mg) (CN : CIsName P w K mg base) : FnOk P w K mg base CX0 2 f fd ["value"] spIsRow := by
  refine F.ok scIr (fun vs H Q E h => ?_) (fun cdv A outer s H vs Q E hr h => ?_)
  · obtain ⟨v, k, ts, rfl, _⟩ := h; rfl
  · obtain ⟨v, kd, ts, rfl, ⟨t, a, rfl, ht, ha⟩, rf, k⟩ := h
    have hu := hu_of hr
    refine ⟨_, pss_cons (ps_if (PW.pt (pw_or (pt_not (pt_val (pe_callB call_isi (by rfl) T.isi (by decide +kernel) (pa_cons (pv 0) (pa_cons (pe_bltn (v := .ty "tuple") rfl T.tuple (by decide +kernel) rfl) pa_nil))))) (pw_or1 (pt_cmpR op_ne (pe_callB call_len_seq (by rfl) T.len PySem.boot_len (pa_cons (pv 0) pa_nil)) pe_int (nomark _))))) (pss_one (ps_ret pe_bl)) pss_nil)
      (pss_cons (ps_asg (pv 0) (pg_tup rfl (pgs_cons (pg_name (i := 1) scIr.nd rfl (Or.inl rfl)) (pgs_cons (pg_name (i := 2) scIr.nd rfl (Or.inl rfl)) pgs_nil))))
      (pss_cons (ps_if (pt_not (pt_val (pe_callB call_isi (by rfl) T.isi (by decide +kernel) (pa_cons (pv 2) (pa_cons (pe_bltn (v := .ty "dict") rfl T.dict (by decide +kernel) rfl) pa_nil))))) (pss_one (ps_ret pe_bl)) pss_nil)
      (pss_cons (ps_if (pt_cmpR op_eq (pv 1) pe_str (nomark _)) (pss_one (ps_ret (pe_cmpR op_eq (pe_callB call_lenD (by rfl) T.len PySem.boot_len (pa_cons (pv 2) pa_nil)) pe_int (nomark _)))) pss_nil)
      (pss_cons (ps_if (PW.pt (pw_and (pt_cmpR op_ne (pv 1) pe_str (nomark _)) (pw_and1 (pt_cmpR op_ne (pv 1) pe_str (nomark _))))) (pss_one (ps_ret pe_bl)) pss_nil)
      (pss_one (ps_ret (pe_and (pe_cmpR op_gt (pe_callB call_lenD (by rfl) T.len PySem.boot_len (pa_cons (pv 2) pa_nil)) pe_int (nomark _)) (pe_one (pe_callB (cr_all rfl) (by rfl) T.all (by decide +kernel) (pa_cons (pe_lock (pe_lc (own := [("word", 3), ("goal", 4)]) (g := gTup K 2 (gCons (gName 3) (gCons (gName 4) gNil))) (tt := tYes) rfl scIr.nd (pi_items (pv 2))
        (blkOk_by (N := ["value", "kind", "turns", "word", "goal"]) (sc := defScope sIsRow) (by decide +kernel)) (fun _ _ _ _ _ => pg_tup rfl (pgs_cons (pg_name (i := 3) scIr.nd rfl (Or.inl rfl)) (pgs_cons (pg_name (i := 4) scIr.nd rfl (Or.inl rfl)) pgs_nil))) (fun _ _ _ _ _ => pts_nil)
        (fun _ _ _ _ _ => pe_and (pe_cal CN (hr.mono (by decide)) rfl (pa_cons (pv 3) pa_nil)) (pe_one (pe_cal CN (hr.mono (by decide)) rfl (pa_cons (pv 4) pa_nil)))))) pa_nil)))))))))), ?_⟩
    refine ⟨_, rfl, _, .ty "tuple", .type "tuple", .type "tuple", true, rfl, .ty _, .base (.tup ht), kit_ty (by decide +kernel), _, rfl, ?_⟩
    refine iteF ⟨_, rfl, t, _, rfl, .inr (SqT.of ht), ?_⟩
    refine ⟨rfl, _, rfl, ?_⟩
    refine iteF ⟨_, rfl, t, _, rfl, SqT.of ht, rfl, _, _, rfl, _, _, rfl, rfl, ?_⟩
    refine ⟨_, rfl, _, .ty "dict", .type "dict", .type "dict", true, rfl, .ty _, .base (.dK ha), kit_ty (by decide +kernel), _, rfl, ?_⟩
    refine iteF ⟨_, rfl, rfl, _, rfl, ?_⟩
    rcases rf with ⟨rfl, rfl⟩ | ⟨hk, ne, ll, aw⟩
    · refine iteT ⟨_, rfl, a, [], rfl, ha, rfl, ?_⟩
      exact k H (Same.refl H)
    · have nk : (decide (V.str kd = V.str "done")) = false := by
        refine decide_eq_false fun e => ?_
        have e : kd = "done" := by injection e
        rcases hk with h | h <;> rw [h] at e <;> exact absurd e (by decide)
      rw [nk]
      refine iteF ⟨_, rfl, rfl, _, rfl, ?_⟩
      have bad : (!decide (V.str kd = V.str "says")) = true → (!decide (V.str kd = V.str "hears")) = true → False := fun c1 c2 => by
        rcases hk with h | h
        · rw [h] at c1; simp at c1
        · rw [h] at c2; simp at c2
      refine ite2 (fun c1 => ⟨_, rfl, rfl, _, rfl, ite2 (fun c2 => (bad c1 c2).elim) (fun _ => ?_)⟩) (fun _ => iteF ?_)
      all_goals
        refine ⟨_, rfl, a, _, rfl, ha, _, _, rfl, rfl, _, rfl, ?_⟩
        have lp : 0 < (kT ts).length := by rw [kT, List.length_map]; exact List.length_pos_iff.mpr ne
        rw [decide_eq_true (show (0 : Int) < ((kT ts).length : Int) by omega)]
        refine iteT ⟨a, _, ha, trivial, fun od => ?_⟩
        refine ⟨_, rfl, a, od, kT ts, rfl, upd_same, fun D hD => ?_⟩
        have nD : a ≠ D := fun e => by rw [← e, upd_same] at hD; cases hD
        have hD0 := upd_none' hD
        refine lc_it (walk_items (d := a) (o := od) (kvs := kT ts)) (fun i H' => Same (L2.upd H a (.frz od (.dK (kT ts)))) H' ∧ H' D = some (.lst ((List.replicate i true).map V.bl))) ⟨Same.new hD, upd_same⟩ (fun i H' _ z => z.1 _ _ upd_same) ?_ ?_
        · rintro i v H1 H2 hi ⟨sm, hl⟩ ⟨T1, x, y, rfl, hT1, rfl, ex, ey⟩
          have hi' : i < ts.length := by rw [kT, List.length_map] at hi; exact hi
          have hk1 : (kT ts)[i]? = some (.inr ts[i].1, .str ts[i].2) := by rw [kT, List.getElem?_map, List.getElem?_eq_getElem hi']; rfl
          dsimp only at ex ey
          rw [hk1] at ex ey
          cases ex; cases ey
          have hw := aw ts[i] (List.getElem_mem hi')
          have nTD : D ≠ T1 := ne_of_none hl hT1
          refine ⟨T1, _, rfl, SqT.of upd_same, rfl, _, _, rfl, _, _, rfl, rfl, rfl, ?_⟩
          dsimp only [tYes]
          rw [if_pos rfl]
          refine ⟨_, rfl, _, rfl, hw.1, fun H3 s3 => ⟨_, rfl, iteT ⟨_, rfl, _, rfl, hw.2, fun H4 s4 => ?_⟩⟩⟩
          refine ⟨_, s4 _ _ (s3 _ _ (by rw [upd_ne nTD]; exact hl)), by rw [List.length_map, List.length_replicate, sizeLine_eq]; omega, ?_, ?_⟩
          · intro b u e
            rw [upd_ne (ne_of_none e hD)]; exact s4 _ _ (s3 _ _ (Same.new hT1 _ _ (sm _ _ e)))
          · rw [upd_same, repl_snoc]
        · rintro H1 ⟨sm, hl⟩
          refine ⟨sm _ _ upd_same, D, _, rfl, SqL.of (by rw [upd_ne nD.symm]; exact hl), ?_⟩
          rw [all_true]
          exact k _ (Same.unlock ha sm)
end
end D1
end L2
/-! ordered turns and books -/
namespace L2
namespace D1
open PySem PySem.Spec PyProof.Rows
def leC (a b : List Nat) : Prop := ltCps b a = false
theorem leC_trans : ∀ {a b c : List Nat}, leC a b → leC b c → leC a c
  | [], _, [], _, _ => rfl
  | [], _, _ :: _, _, _ => rfl
  | _ :: _, [], _, h, _ => by cases h
  | _ :: _, _ :: _, [], _, h => by cases h
  | x :: a, y :: b, z :: c, h1, h2 => by
    unfold leC at *
    unfold ltCps at *
    simp only [Bool.or_eq_false_iff, decide_eq_false_iff_not, Bool.and_eq_false_iff, beq_eq_false_iff_ne] at *
    obtain ⟨p1, q1⟩ := h1
    obtain ⟨p2, q2⟩ := h2
    refine ⟨by omega, ?_⟩
    by_cases e : z = x
    · right
      have e1 : y = x := by omega
      have e2 : z = y := by omega
      have r1 := q1.resolve_left fun n => n e1
      have r2 := q2.resolve_left fun n => n e2
      exact leC_trans (a := a) (b := b) (c := c) r1 r2
    · exact .inl e
theorem leC_anti : ∀ {a b : List Nat}, leC a b → leC b a → a = b
  | [], [], _, _ => rfl
  | [], _ :: _, _, h => by cases h
  | _ :: _, [], h, _ => by cases h
  | x :: a, y :: b, h1, h2 => by
    unfold leC at *
    unfold ltCps at *
    simp only [Bool.or_eq_false_iff, decide_eq_false_iff_not, Bool.and_eq_false_iff, beq_eq_false_iff_ne] at *
    have e : x = y := by omega
    have r1 := h1.2.resolve_left fun n => n e.symm
    have r2 := h2.2.resolve_left fun n => n e
    rw [e, leC_anti (a := a) (b := b) r1 r2]
theorem leC_total : ∀ (a b : List Nat), leC a b ∨ leC b a
  | [], [] => .inl rfl
  | [], _ :: _ => .inl rfl
  | _ :: _, [] => .inr rfl
  | x :: a, y :: b => by
    unfold leC
    unfold ltCps
    simp only [Bool.or_eq_false_iff, decide_eq_false_iff_not, Bool.and_eq_false_iff, beq_eq_false_iff_ne]
    rcases Nat.lt_trichotomy x y with h | h | h
    · exact .inl ⟨by omega, .inl (by omega)⟩
    · rcases leC_total a b with r | r
      · exact .inl ⟨by omega, .inr r⟩
      · exact .inr ⟨by omega, .inr r⟩
    · exact .inr ⟨by omega, .inl (by omega)⟩
def leS (x y : Str) : Prop := leC (tl x) (tl y)
theorem rising_pw : ∀ (l : List Str) (p : Str), risingS p l = true → (p :: l).Pairwise leS
  | [], p, _ => List.pairwise_singleton _ _
  | x :: r, p, h => by
    unfold risingS at h
    rw [Bool.and_eq_true, Bool.not_eq_true'] at h
    have ih := rising_pw r x h.2
    refine List.pairwise_cons.mpr ⟨fun y hy => ?_, ih⟩
    rcases List.mem_cons.mp hy with e | e
    · rw [e]; exact h.1
    · exact leC_trans (show leC (tl p) (tl x) from h.1) ((List.pairwise_cons.mp ih).1 y e)
theorem sorted_pw : ∀ {l : List Str}, sortedS l = true → l.Pairwise leS
  | [], _ => List.Pairwise.nil
  | x :: r, h => rising_pw r x h
theorem pw_unique : ∀ {ys zs : List Str}, ys.Perm zs → ys.Pairwise leS → zs.Pairwise leS → ys = zs
  | [], zs, p, _, _ => (List.nil_perm.mp p).symm
  | y :: r, [], p, _, _ => by have := p.length_eq; simp at this
  | y :: r, z :: s, p, h1, h2 => by
    have e : y = z := by
      rcases List.mem_cons.mp (p.mem_iff.mp List.mem_cons_self) with e | e
      · exact e
      · rcases List.mem_cons.mp (p.mem_iff.mpr List.mem_cons_self) with e2 | e2
        · exact e2.symm
        · exact tl_ext (leC_anti ((List.pairwise_cons.mp h1).1 z e2) ((List.pairwise_cons.mp h2).1 y e))
    subst e
    rw [pw_unique (List.Perm.cons_inv p) (List.pairwise_cons.mp h1).2 (List.pairwise_cons.mp h2).2]
instance (x y : Str) : Decidable (leS x y) := inferInstanceAs (Decidable (_ = false))
def insS (x : Str) : List Str → List Str
  | [] => [x]
  | y :: r => if leS x y then x :: y :: r else y :: insS x r
def srt : List Str → List Str
  | [] => []
  | x :: r => insS x (srt r)
theorem ins_perm (x : Str) : ∀ l : List Str, (insS x l).Perm (x :: l)
  | [] => List.Perm.refl _
  | y :: r => by
    unfold insS
    split
    · exact List.Perm.refl _
    · exact ((ins_perm x r).cons y).trans (List.Perm.swap x y r)
theorem srt_perm : ∀ l : List Str, (srt l).Perm l
  | [] => List.Perm.refl _
  | x :: r => (ins_perm x (srt r)).trans ((srt_perm r).cons x)
theorem ins_pw (x : Str) : ∀ {l : List Str}, l.Pairwise leS → (insS x l).Pairwise leS
  | [], _ => List.pairwise_singleton _ _
  | y :: r, h => by
    unfold insS
    split
    · rename_i c
      refine List.pairwise_cons.mpr ⟨fun z hz => ?_, h⟩
      rcases List.mem_cons.mp hz with e | e
      · rw [e]; exact c
      · exact leC_trans c ((List.pairwise_cons.mp h).1 z e)
    · rename_i c
      have hy : leS y x := (leC_total (tl x) (tl y)).resolve_left c
      refine List.pairwise_cons.mpr ⟨fun z hz => ?_, ins_pw x (List.pairwise_cons.mp h).2⟩
      rcases List.mem_cons.mp ((ins_perm x r).mem_iff.mp hz) with e | e
      · rw [e]; exact hy
      · exact (List.pairwise_cons.mp h).1 z e
theorem srt_pw : ∀ l : List Str, (srt l).Pairwise leS
  | [] => List.Pairwise.nil
  | x :: r => ins_pw x (srt_pw r)
theorem srt_of {ys ks : List Str} (p : ys.Perm ks) (s : sortedS ys = true) : ys = srt ks := pw_unique (p.trans (srt_perm ks).symm) (sorted_pw s) (srt_pw ks)
theorem srt_congr {ks ls : List Str} (p : ks.Perm ls) : srt ks = srt ls := pw_unique ((srt_perm ks).trans (p.trans (srt_perm ls).symm)) (srt_pw ks) (srt_pw ls)
/-- the goal of a word -/
def goalT (ts : List (Str × Str)) (k : Str) : Str := ((ts.find? fun t => decide (t.1 = k)).map (·.2)).getD ""
def ordT (ts : List (Str × Str)) : List (Str × Str) := (srt (ts.map (·.1))).map fun k => (k, goalT ts k)
theorem valV_kT (ts : List (Str × Str)) (k : Str) : valV (kT ts) (.inr k) = (ts.find? fun t => decide (t.1 = k)).map fun t => V.str t.2 := by
  induction ts with
  | nil => rfl
  | cons a r ih =>
    rw [List.find?_cons]
    by_cases h : a.1 = k
    · rw [show valV (kT (a :: r)) (.inr k) = some (V.str a.2) from valV_pos (p := (Sum.inr a.1, V.str a.2)) (congrArg _ h), decide_eq_true h]; rfl
    · rw [show valV (kT (a :: r)) (.inr k) = valV (kT r) (.inr k) from valV_neg (p := (Sum.inr a.1, V.str a.2)) (fun e => h (Sum.inr.inj e)), decide_eq_false h, ih]
theorem find_some {ts : List (Str × Str)} {k : Str} (h : k ∈ ts.map (·.1)) : ∃ t, (ts.find? fun t => decide (t.1 = k)) = some t ∧ t.1 = k ∧ t ∈ ts := by
  obtain ⟨t, ht, e⟩ := List.mem_map.mp h
  cases z : ts.find? fun t => decide (t.1 = k) with
  | none => exact absurd (decide_eq_true e) (List.find?_eq_none.mp z t ht)
  | some u =>
    have e1 := List.find?_some z
    exact ⟨u, rfl, of_decide_eq_true e1, List.mem_of_find?_eq_some z⟩
theorem valV_goal {ts : List (Str × Str)} {k : Str} (h : k ∈ ts.map (·.1)) : valV (kT ts) (.inr k) = some (.str (goalT ts k)) := by
  obtain ⟨t, e, _⟩ := find_some h
  rw [valV_kT, goalT, e]; rfl
theorem ordT_keys (ts : List (Str × Str)) : (ordT ts).map (·.1) = srt (ts.map (·.1)) := by
  rw [ordT, List.map_map]
  exact List.map_id'' (fun _ => rfl) _
/-- a dict comprehension over a walk -/
theorem dc_it {J : It} {n : Nat} {G : Hp → Prop} {Y : Nat → Hp → V → Hp → Prop} (w : Walk J n G Y) {g : TG} {tt : TT} {tk tv : TE} {vs : List Nat} {σ : L2.St} {H1 : Hp} {D : Addr} {Qd : Hp → Prop} (Pv : Nat → Hp → Prop) (h0 : Pv 0 (L2.upd H1 D (.dK []))) (hG : ∀ i H, i ≤ n → Pv i H → G H)
    (hs : ∀ i x H H', i < n → Pv i H → Y i H x H' → g x (wipe σ vs) H' fun σ2 H2 => wipe σ2 vs = wipe σ vs ∧ tt σ2 H2 fun b H3 =>
      if b = true then tk σ2 H3 fun y H4 => tv σ2 H4 fun z H5 => ∃ kvs k, y = kV k ∧ H5 D = some (.dK kvs) ∧ kvs.length < sizeLine ∧ Pv (i + 1) (L2.upd H5 D (.dK (putK kvs k z))) else Pv (i + 1) H3) (hd : ∀ H, Pv n H → Qd H) :
    ∃ W : Nat → Nat → Hp → Prop, (∃ m, W 0 m (L2.upd H1 D (.dK []))) ∧ ∀ i m H, W i m H →
      (J.stop i H ∧ Qd H) ∨ (J.go i H ∧ ∃ Nx : Hp → Prop, (∀ H', Nx H' → ∃ m', m' < m ∧ W (i + 1) m' H') ∧ ∀ x H', J.yld i H x H' → g x (wipe σ vs) H' fun σ2 H2 => wipe σ2 vs = wipe σ vs ∧ tt σ2 H2 fun b H3 =>
        if b = true then tk σ2 H3 fun y H4 => tv σ2 H4 fun z H5 => ∃ kvs k, y = kV k ∧ H5 D = some (.dK kvs) ∧ kvs.length < sizeLine ∧ Nx (L2.upd H5 D (.dK (putK kvs k z))) else Nx H3) := by
  refine ⟨fun i m H => m = n - i ∧ i ≤ n ∧ Pv i H, ⟨n, by simp, Nat.zero_le _, h0⟩, ?_⟩
  rintro i m H ⟨rfl, hi, p⟩
  have q := hG i H hi p
  by_cases hlt : i < n
  · refine .inr ⟨w.goes i H hlt q, Pv (i + 1), fun H' p' => ⟨n - (i + 1), by omega, rfl, hlt, p'⟩, fun x H' y => hs i x H H' hlt p (w.yields i H x H' hlt q y)⟩
  · have e : i = n := by omega
    subst e
    exact .inl ⟨w.stops H q, hd H p⟩
/-- a book's row -/
def rowOf (bk : Bk) (s : Str) : Str × List (Str × Str) := ((bk.find? fun r => decide (r.1 = s)).map (·.2)).getD ("", [])
def ordB (bk : Bk) : Bk := (srt (bk.map (·.1))).map fun s => (s, (rowOf bk s).1, ordT (rowOf bk s).2)
theorem Rows.look {H : Hp} {kvs : List (Key × V)} {bk : Bk} {s : Str} (h : Rows H kvs bk) (m : s ∈ bk.map (·.1)) : ∃ v, valV kvs (.inr s) = some v ∧ RowAt H v (rowOf bk s).1 (rowOf bk s).2 ∧ (s, rowOf bk s) ∈ bk := by
  unfold Rows at h
  induction h with
  | nil => cases m
  | @cons a r kvs bk h1 _ ih =>
    by_cases e : r.1 = s
    · refine ⟨a.2, valV_pos (by rw [h1.1, e]), ?_, ?_⟩
      · rw [rowOf, List.find?_cons, decide_eq_true e]; exact h1.2
      · rw [rowOf, List.find?_cons, decide_eq_true e, ← e]; exact List.mem_cons_self
    · have m' : s ∈ bk.map (·.1) := by
        rcases List.mem_cons.mp m with z | z
        · exact absurd z.symm e
        · exact z
      obtain ⟨v, h2, h3, h4⟩ := ih m'
      have er : rowOf (r :: bk) s = rowOf bk s := by rw [rowOf, List.find?_cons, decide_eq_false e]; rfl
      refine ⟨v, by rw [valV_neg (by rw [h1.1]; exact fun z => e (Sum.inr.inj z))]; exact h2, by rw [er]; exact h3, by rw [er]; exact List.mem_cons_of_mem _ h4⟩
/-- what is new in H' -/
def newH (H H' : Hp) : Hp := fun a => if (H a).isSome then none else H' a
theorem new_out {H H' : Hp} {a : Addr} (n : H a = none) : newH H H' a = H' a := by unfold newH; rw [n]; rfl
theorem new_some {H H' : Hp} {a : Addr} {o : HO} (e : newH H H' a = some o) : H a = none ∧ H' a = some o := by
  unfold newH at e
  cases h : H a with
  | none => rw [h] at e; exact ⟨rfl, e⟩
  | some u => rw [h] at e; cases e
theorem new_le {H H' : Hp} : Same (newH H H') H' := fun _ _ e => (new_some e).2
theorem new_same {H H1 H2 : Hp} (s : Same H1 H2) : Same (newH H H1) (newH H H2) := fun _ _ e => let ⟨n, e⟩ := new_some e; by rw [new_out n]; exact s _ _ e
theorem new_mono {H Hq H' : Hp} (s : Same H Hq) : Same (newH Hq H') (newH H H') := fun a _ e => by
  obtain ⟨n, e⟩ := new_some e
  have n2 : H a = none := by
    cases h : H a with
    | none => rfl
    | some u => rw [s _ _ h] at n; cases n
  rw [new_out n2]; exact e
theorem cut_new_upd {H X : Hp} {D : Addr} {o : HO} : cut [D] (newH H (L2.upd X D o)) = cut [D] (newH H X) := by
  funext a
  by_cases h : a = D
  · rw [cut, cut, if_pos (List.mem_singleton.mpr h), if_pos (List.mem_singleton.mpr h)]
  · have e : newH H (L2.upd X D o) a = newH H X a := by unfold newH; rw [upd_ne h]
    rw [cut_out (by simpa using h), cut_out (by simpa using h), e]
/-- a book that may stand locked -/
def BookR (H : Hp) (b : Addr) (bk : Bk) : Prop := ∃ kvs, Rd H b (.dK kvs) ∧ Rows H kvs bk
theorem rd_same {H H' : Hp} {a : Addr} {o : HO} (h : Rd H a o) (s : Same H H') : Rd H' a o := by
  rcases h with h | ⟨od, h⟩
  · exact .inl (s _ _ h)
  · exact .inr ⟨od, s _ _ h⟩
theorem BookAt.r {H : Hp} {b : Addr} {bk : Bk} (h : BookAt H b bk) : BookR H b bk := let ⟨kvs, e, r⟩ := h; ⟨kvs, .inl e, r⟩
theorem BookR.same {H H' : Hp} {b : Addr} {bk : Bk} (h : BookR H b bk) (s : Same H H') : BookR H' b bk := let ⟨kvs, e, r⟩ := h; ⟨kvs, rd_same e s, r.same s⟩
abbrev sOrdT : Stmt := top 17
abbrev sOrdB : Stmt := top 18
def spOrdT : Sp := fun vs H Q _ => ∃ (a : Addr) (ts : List (Str × Str)), vs = [.ref a] ∧ TurnsAt H a ts ∧ (ts.map (·.1)).Nodup ∧ ts.length < 64 ∧ ∀ H' R, Same H H' → H R = none → TurnsAt H' R (ordT ts) → Q (.ref R) H'
/-- a book that may be put in order -/
structure BOk (bk : Bk) : Prop where
  nd : (bk.map (·.1)).Nodup
  len : bk.length < 64
  rs : ∀ r ∈ bk, (r.2.2.map (·.1)).Nodup ∧ r.2.2.length < 64
def spOrdB : Sp := fun vs H Q _ => ∃ (b : Addr) (bk : Bk), vs = [.ref b] ∧ BookR H b bk ∧ BOk bk ∧ ∀ H' R, Same H H' → H R = none → BookAt (newH H H') R (ordB bk) → Q (.ref R) H'
section
variable {P : Program} {w : World} {K : PySem.W.Frag} {mg : Str → Option Value} {base : Heap}
theorem scOt : FnScope ["turns", "word"] ["turns"] (defScope sOrdT) := ⟨rfl, rfl, rfl, by decide +kernel, rfl, by decide +kernel, by decide +kernel⟩
theorem ok_ordT {f : Addr} {fd : FuncData} (F : Fun K "ordered_turns" "ordered_turns" sOrdT f fd) (T : Free3 mg) : FnOk P w K mg base CX0 1 f fd ["turns"] spOrdT := by
  refine F.ok scOt (fun vs H Q E h => ?_) (fun cdv A outer s H vs Q E hr h => ?_)
  · obtain ⟨a, ts, rfl, _⟩ := h; rfl
  · obtain ⟨a, ts, rfl, ha, nd, l64, k⟩ := h
    have hu := hu_of hr
    refine ⟨_, pss_one (ps_ret (pe_dc (own := [("word", 1)]) (g := gName 1) (tt := tYes) (tk := tVar 1) (tv := tDGet (tVar 0) (tVar 1)) rfl scOt.nd (pi_list (pe_callB (call_sortedD rfl) (by rfl) T.sorted (by decide +kernel) (pa_cons (pv 0) pa_nil)))
        (blkOk_by (N := ["turns", "word"]) (sc := defScope sOrdT) (by decide +kernel)) (fun _ _ _ _ _ => pg_name (i := 1) scOt.nd rfl (Or.inl rfl)) (fun _ _ _ _ _ => pts_nil) (fun _ _ _ _ _ => pv 1) (fun _ _ _ _ _ => pe_dget hu (pv 0) (pv 1) (fun _ _ => rfl)))), ?_⟩
    have ek : (kT ts).map (·.1) = (ts.map (·.1)).map Sum.inr := by rw [kT, List.map_map, List.map_map]; rfl
    refine ⟨_, rfl, a, kT ts, ts.map (·.1), rfl, .inl ha, ek, by rw [List.length_map]; exact l64, fun ys q pm so hq => ?_⟩
    have ey := srt_of pm so
    have lq : ys.length < 64 := by rw [pm.length_eq, List.length_map]; exact l64
    have am : ∀ y ∈ ys, y ∈ ts.map (·.1) := fun y hy => pm.mem_iff.mp hy
    have ndy : ys.Nodup := pm.nodup_iff.mpr nd
    refine ⟨q, rfl, ⟨_, SqL.of upd_same⟩, fun D hD => ?_⟩
    have nqD : q ≠ D := fun e => by rw [← e, upd_same] at hD; cases hD
    have hD0 := upd_none' hD
    refine dc_it (walk_list (K := K) (a := q) (xs := ys.map V.str)) (fun i H' => Same H H' ∧ SL H' q ys ∧ TurnsAt H' D ((ys.take i).map fun k => (k, goalT ts k)))
      ⟨fun b u e => by rw [upd_ne (ne_of_none e hD0), upd_ne (ne_of_none e hq)]; exact e, by rw [SL, upd_ne nqD, upd_same], by rw [TurnsAt, upd_same]; rfl⟩ (fun i H' _ z => z.2.1.sq) ?_ ?_
    · rintro i v H1 H2 hi ⟨sm, hl, hT⟩ ⟨rfl, hx⟩
      obtain ⟨z, hz, rfl⟩ := get_map hx
      have hzm := am z (List.mem_of_getElem? hz)
      refine ⟨rfl, ?_⟩
      dsimp only [tYes]
      rw [if_pos rfl]
      have hn : (Sum.inr z : Key) ∉ (kT ((ys.take i).map fun k => (k, goalT ts k))).map (·.1) := fun hm => by
        obtain ⟨p1, hp1, e1⟩ := List.mem_map.mp hm
        obtain ⟨p2, hp2, e2⟩ := List.mem_map.mp hp1
        obtain ⟨p3, hp3, e3⟩ := List.mem_map.mp hp2
        subst e3; subst e2
        have e1 : p3 = z := Sum.inr.inj e1
        rw [e1] at hp3
        obtain ⟨m, hm1, hm2⟩ := List.mem_take_iff_getElem.mp hp3
        have h1 : ys[m]? = some z := by rw [List.getElem?_eq_getElem (by omega), hm2]
        have := (List.getElem?_inj (by omega) ndy).mp (h1.trans hz.symm)
        omega
      refine ⟨_, rfl, _, rfl, _, rfl, a, _, rfl, .inl ⟨kT ts, .inr z, .inl (ha.same sm), rfl, (valV_goal hzm).symm⟩, _, .inr z, rfl, hT, ?_, ?_, ?_, ?_⟩
      · rw [kT, List.length_map, List.length_map, List.length_take, sizeLine_eq]; omega
      · intro b u e
        rw [upd_ne (ne_of_none e hD0)]; exact sm _ _ e
      · rw [SL, upd_ne nqD]; exact hl
      · rw [TurnsAt, upd_same, putK_new hn, take_succ_get hz, List.map_append, kT, kT, List.map_append]; rfl
    · rintro H1 ⟨sm, hl, hT⟩
      refine k H1 D sm hD0 ?_
      rw [List.length_map, List.take_length, ey] at hT
      exact hT
end
end D1
end L2
/-! ordered_book -/
namespace L2
namespace D1
open PySem PySem.Spec PyProof.Rows
section
variable {P : Program} {w : World} {K : PySem.W.Frag} {mg : Str → Option Value} {base : Heap}
abbrev COrdT (P : Program) (w : World) (K : PySem.W.Frag) (mg : Str → Option Value) (base : Heap) := Cal P w K mg base "ordered_turns" 1 ["turns"] spOrdT
theorem scOb : FnScope ["book", "state"] ["book"] (defScope sOrdB) := ⟨rfl, rfl, rfl, by decide +kernel, rfl, by decide +kernel, by decide +kernel⟩
theorem ok_ordB {f : Addr} {fd : FuncData} (F : Fun K "ordered_book" "ordered_book" sOrdB f fd) (T : Free3 mg) (CT : COrdT P w K mg base) : FnOk P w K mg base CX0 2 f fd ["book"] spOrdB := by
  refine F.ok scOb (fun vs H Q E h => ?_) (fun cdv A outer s H vs Q E hr h => ?_)
  · obtain ⟨a, bk, rfl, _⟩ := h; rfl
  · obtain ⟨b, bk, rfl, ⟨kvs0, hb, hRw⟩, ok, k⟩ := h
    have hu := hu_of hr
    refine ⟨_, pss_one (ps_ret (pe_dc (own := [("state", 1)]) (g := gName 1) (tt := tYes) (tk := tVar 1) (tv := tTup (tCons (tOp (rIxT K) (tDGet (tVar 0) (tVar 1)) (tC (.int 0))) (tCons (tCall spOrdT [] E0 (tCons (tOp (rIxT K) (tDGet (tVar 0) (tVar 1)) (tC (.int 1))) tNil)) tNil))) rfl scOb.nd (pi_list (pe_callB (call_sortedD rfl) (by rfl) T.sorted (by decide +kernel) (pa_cons (pv 0) pa_nil)))
        (blkOk_by (N := ["book", "state"]) (sc := defScope sOrdB) (by decide +kernel)) (fun _ _ _ _ _ => pg_name (i := 1) scOb.nd rfl (Or.inl rfl)) (fun _ _ _ _ _ => pts_nil) (fun _ _ _ _ _ => pv 1)
        (fun _ _ _ _ _ => pe_tup (pa_cons (pe_ix ix_tup (pe_dget hu (pv 0) (pv 1) (fun _ _ => rfl)) pe_int (fun _ _ => rfl)) (pa_cons (pe_cal CT (hr.mono (by decide)) rfl (pa_cons (pe_ix ix_tup (pe_dget hu (pv 0) (pv 1) (fun _ _ => rfl)) pe_int (fun _ _ => rfl)) pa_nil)) pa_nil))))), ?_⟩
    have ek : kvs0.map (·.1) = (bk.map (·.1)).map Sum.inr := by rw [hRw.keys, List.map_map]; rfl
    refine ⟨_, rfl, b, kvs0, bk.map (·.1), rfl, hb, ek, by rw [List.length_map]; exact ok.len, fun ys q pm so hq => ?_⟩
    have ey := srt_of pm so
    have lq : ys.length < 64 := by rw [pm.length_eq, List.length_map]; exact ok.len
    have am : ∀ y ∈ ys, y ∈ bk.map (·.1) := fun y hy => pm.mem_iff.mp hy
    have ndy : ys.Nodup := pm.nodup_iff.mpr ok.nd
    refine ⟨q, rfl, ⟨_, SqL.of upd_same⟩, fun D hD => ?_⟩
    have nqD : q ≠ D := fun e => by rw [← e, upd_same] at hD; cases hD
    have hD0 := upd_none' hD
    refine dc_it (walk_list (K := K) (a := q) (xs := ys.map V.str)) (fun i H' => Same H H' ∧ SL H' q ys ∧ ∃ kvs, H' D = some (.dK kvs) ∧ Rows (cut [D] (newH H H')) kvs ((ys.take i).map fun s => (s, (rowOf bk s).1, ordT (rowOf bk s).2)))
      ⟨fun b u e => by rw [upd_ne (ne_of_none e hD0), upd_ne (ne_of_none e hq)]; exact e, by rw [SL, upd_ne nqD, upd_same], [], upd_same, .nil⟩ (fun i H' _ z => z.2.1.sq) ?_ ?_
    · rintro i v H1 H2 hi ⟨sm, hl, kvs, hk, hR⟩ ⟨rfl, hx⟩
      obtain ⟨z, hz, rfl⟩ := get_map hx
      have hzm := am z (List.mem_of_getElem? hz)
      refine ⟨rfl, ?_⟩
      dsimp only [tYes]
      rw [if_pos rfl]
      have hn : z ∉ ((ys.take i).map fun s => (s, (rowOf bk s).1, ordT (rowOf bk s).2) : Bk).map (·.1) := fun hm => by
        obtain ⟨p1, hp1, e1⟩ := List.mem_map.mp hm
        obtain ⟨p3, hp3, e3⟩ := List.mem_map.mp hp1
        subst e3
        have e1 : p3 = z := e1
        rw [e1] at hp3
        obtain ⟨m, hm1, hm2⟩ := List.mem_take_iff_getElem.mp hp3
        have h1 : ys[m]? = some z := by rw [List.getElem?_eq_getElem (by omega), hm2]
        have := (List.getElem?_inj (by omega) ndy).mp (h1.trans hz.symm)
        omega
      obtain ⟨v, h2, ⟨t, a, rfl, ht, ha⟩, hm⟩ := (hRw.same sm).look hzm
      have rr := ok.rs _ hm
      have hbz : DGet H2 b (V.str z) (some (.ref t)) := .inl ⟨kvs0, .inr z, rd_same hb sm, rfl, h2.symm⟩
      refine ⟨_, rfl, _, rfl, _, rfl, b, _, rfl, hbz, t, _, _, _, rfl, rfl, SqT.of ht, atI_nat (j := 0) rfl, _, rfl, _, rfl, b, _, rfl, hbz, t, _, _, _, rfl, rfl, SqT.of ht, atI_nat (j := 1) rfl, a, _, rfl, ha, rr.1, rr.2, fun H3 R s3 hRn hT => ?_⟩
      refine ⟨by show 2 ≤ sizeLine; decide, fun T1 hT1 => ?_⟩
      have hk3 := Same.new (o := .tup [.str (rowOf bk z).1, .ref R]) hT1 _ _ (s3 _ _ hk)
      have nT1D : T1 ≠ D := fun e => by rw [e, s3 _ _ hk] at hT1; cases hT1
      have nRD : R ≠ D := fun e => by rw [e, hk] at hRn; cases hRn
      have nRT : R ≠ T1 := fun e => by rw [← e, hT] at hT1; cases hT1
      refine ⟨kvs, .inr z, rfl, hk3, ?_, ?_, ?_, _, upd_same, ?_⟩
      · rw [hR.len, List.length_map, List.length_take, sizeLine_eq]; omega
      · intro b u e
        rw [upd_ne (ne_of_none e hD0)]; exact Same.new hT1 _ _ (s3 _ _ (sm _ _ e))
      · rw [SL, upd_ne nqD]; exact Same.new hT1 _ _ (s3 _ _ hl)
      · rw [putK_new (hR.fresh hn), cut_new_upd, take_succ_get hz, List.map_append]
        have oT : H T1 = none := (Same.trans sm s3).free hT1
        have oR : H R = none := sm.free hRn
        refine (hR.same (cut_same (new_same (Same.trans s3 (Same.new hT1))))).app ⟨T1, R, rfl, ?_, ?_⟩
        · rw [cut_out (by simpa using nT1D), new_out oT]; exact upd_same
        · rw [TurnsAt, cut_out (by simpa using nRD), new_out oR, upd_ne nRT]; exact hT
    · rintro H1 ⟨sm, hl, kvs, hk, hR⟩
      refine k H1 D sm hD0 ⟨kvs, by rw [new_out hD0]; exact hk, ?_⟩
      rw [List.length_map, List.take_length, ey] at hR
      exact hR.same cut_le
end
end D1
end L2
/-! is_book -/
namespace L2
namespace D1
open PySem PySem.Spec PyProof.Rows
theorem lp_it {J : It} {n : Nat} {G : Hp → Prop} {Y : Nat → Hp → V → Hp → Prop} (w : Walk J n G Y) {body : V → Hp → (Hp → Prop) → Prop} {H0 : Hp} {Qd : Hp → Prop} (Pv : Nat → Hp → Prop) (h0 : Pv 0 H0) (hG : ∀ i H, i ≤ n → Pv i H → G H)
    (hs : ∀ i x H H', i < n → Pv i H → Y i H x H' → body x H' (Pv (i + 1))) (hd : ∀ H, Pv n H → Qd H) :
    ∃ W : Nat → Nat → Hp → Prop, (∃ m, W 0 m H0) ∧ ∀ i m H, W i m H → (J.stop i H ∧ Qd H) ∨ (J.go i H ∧ ∃ Nx : Hp → Prop, (∀ H', Nx H' → ∃ m', m' < m ∧ W (i + 1) m' H') ∧ ∀ x H', J.yld i H x H' → body x H' Nx) := by
  refine ⟨fun i m H => m = n - i ∧ i ≤ n ∧ Pv i H, ⟨n, by simp, Nat.zero_le _, h0⟩, ?_⟩
  rintro i m H ⟨rfl, hi, p⟩
  have q := hG i H hi p
  by_cases hlt : i < n
  · refine .inr ⟨w.goes i H hlt q, Pv (i + 1), fun H' p' => ⟨n - (i + 1), by omega, rfl, hlt, p'⟩, fun x H' y => hs i x H H' hlt p (w.yields i H x H' hlt q y)⟩
  · have e : i = n := by omega
    subst e
    exact .inl ⟨w.stops H q, hd H p⟩
def tLk : Nat → TE → TE
  | 0, t => t
  | n + 1, t => tLockE (tLk n t)
theorem pe_lkN {X : Cx} {e : Expr} {t : TE} (h : PE X e t) : ∀ n, PE X e (tLk n t)
  | 0 => h
  | n + 1 => pe_lock (pe_lkN h n)
theorem pe_lkAny {X : Cx} {e : Expr} {t : TE} (h : PE X e t) : PE X e (fun σ H Q => ∃ n, tLk n t σ H Q) := ⟨fun pins s σ H Q I ⟨n, q⟩ => (pe_lkN h n).run pins s σ H Q I q⟩
def Lk (ds : List Addr) (H H2 : Hp) : Prop := (∀ c, c ∉ ds → H2 c = H c) ∧ ∀ d ∈ ds, ∃ od u, H d = some u ∧ H2 d = some (.frz od u)
theorem lk_all (t : TE) (σ : L2.St) (Post : V → Hp → Prop) : ∀ (ds : List Addr) (H : Hp) (Q : VK), ds.Nodup → (∀ d ∈ ds, ∃ u, H d = some u ∧ Mut (some u)) →
    (∀ H2 Q2, Lk ds H H2 → (∀ v H3, Same H2 H3 → Post v H3 → Q2 v H3) → t σ H2 Q2) →
    (∀ v H3, Post v H3 → ∀ H4, Same H H4 → (∀ c, c ∉ ds → H4 c = H3 c) → Q v H4) → tLk ds.length t σ H Q
  | [], H, Q, _, _, h, k => h H Q ⟨fun _ _ => rfl, by simp⟩ fun v H3 s p => k v H3 p H3 s fun _ _ => rfl
  | d :: ds, H, Q, nd, hm, h, k => by
    obtain ⟨u, hu, mu⟩ := hm d List.mem_cons_self
    have nd' := List.nodup_cons.mp nd
    refine ⟨d, u, hu, mu, fun od => ?_⟩
    refine lk_all t σ Post ds _ _ nd'.2 (fun d' hd' => ?_) (fun H2 Q2 lk k2 => h H2 Q2 ⟨fun c hc => ?_, fun d' hd' => ?_⟩ k2) fun v H3 p H4 s4 e4 => ⟨s4 _ _ upd_same, k v H3 p _ (Same.unlock hu s4) fun c hc => ?_⟩
    · rw [upd_ne fun e => nd'.1 (by rw [← e]; exact hd')]; exact hm d' (List.mem_cons_of_mem _ hd')
    · rw [lk.1 c fun z => hc (List.mem_cons_of_mem _ z), upd_ne fun e => hc (by rw [e]; exact List.mem_cons_self)]
    · rcases List.mem_cons.mp hd' with e | e
      · rw [e]; exact ⟨od, u, hu, by rw [lk.1 d nd'.1]; exact upd_same⟩
      · obtain ⟨o2, u2, h1, h2⟩ := lk.2 d' e
        rw [upd_ne fun z => nd'.1 (by rw [← z]; exact e)] at h1
        exact ⟨o2, u2, h1, h2⟩
    · rw [upd_ne fun e => hc (by rw [e]; exact List.mem_cons_self)]
      exact e4 c fun z => hc (List.mem_cons_of_mem _ z)
theorem dedup (as : List Addr) : ∃ ds : List Addr, ds.Nodup ∧ ∀ a, a ∈ ds ↔ a ∈ as := by
  induction as with
  | nil => exact ⟨[], List.nodup_nil, fun _ => Iff.rfl⟩
  | cons x r ih =>
    obtain ⟨ds, nd, h⟩ := ih
    by_cases e : x ∈ ds
    · refine ⟨ds, nd, fun a => ⟨fun z => List.mem_cons_of_mem _ ((h a).mp z), fun z => ?_⟩⟩
      rcases List.mem_cons.mp z with q | q
      · rw [q]; exact e
      · exact (h a).mpr q
    · refine ⟨x :: ds, List.nodup_cons.mpr ⟨e, nd⟩, fun a => ?_⟩
      rw [List.mem_cons, List.mem_cons, h a]
/-- a row with its dict of turns told -/
def RowA (H : Hp) (v : V) (a : Addr) (k : Str) (ts : List (Str × Str)) : Prop := ∃ t, v = .ref t ∧ H t = some (.tup [.str k, .ref a]) ∧ TurnsAt H a ts
theorem rows_addrs {H : Hp} {kvs : List (Key × V)} {bk : Bk} (h : Rows H kvs bk) : ∀ l : List Str, (∀ s ∈ l, s ∈ bk.map (·.1)) → ∃ as : List Addr, (∀ a ∈ as, ∃ ts, TurnsAt H a ts) ∧ ∀ s ∈ l, ∃ v a, valV kvs (.inr s) = some v ∧ a ∈ as ∧ RowA H v a (rowOf bk s).1 (rowOf bk s).2
  | [], _ => ⟨[], by simp, by simp⟩
  | s :: l, hl => by
    obtain ⟨as, h1, h2⟩ := rows_addrs h l fun x hx => hl x (List.mem_cons_of_mem _ hx)
    obtain ⟨v, e, ⟨t, a, ev, ht, ha⟩, _⟩ := h.look (hl s List.mem_cons_self)
    refine ⟨a :: as, fun b hb => ?_, fun x hx => ?_⟩
    · rcases List.mem_cons.mp hb with z | z
      · rw [z]; exact ⟨_, ha⟩
      · exact h1 b z
    · rcases List.mem_cons.mp hx with z | z
      · rw [z]; exact ⟨v, a, e, List.mem_cons_self, t, ev, ht, ha⟩
      · obtain ⟨v', a', h3, h4, h5⟩ := h2 x z
        exact ⟨v', a', h3, List.mem_cons_of_mem _ h4, h5⟩
/-- a book's dict is no dict of turns -/
theorem book_ne {H : Hp} {b a : Addr} {kvs : List (Key × V)} {bk : Bk} {ts : List (Str × Str)} (hb : H b = some (.dK kvs)) (h : Rows H kvs bk) (ne : bk ≠ []) (ha : TurnsAt H a ts) : a ≠ b := fun e => by
  rw [TurnsAt, e, hb] at ha
  have ek : kvs = kT ts := by injection ha with z; injection z
  cases h with
  | nil => exact ne rfl
  | @cons x r kv2 bk2 h1 _ =>
    cases ts with
    | nil => cases ek
    | cons y ys =>
      have e1 : x = (Sum.inr y.1, V.str y.2) := (List.cons.inj ek).1
      obtain ⟨_, t, a', e2, _⟩ := h1
      rw [e1] at e2
      cases e2
theorem Rows.lock {H : Hp} {b : Addr} {kvs : List (Key × V)} {bk : Bk} {o : HO} (hb : H b = some (.dK kvs)) (h : Rows H kvs bk) (ne : bk ≠ []) : Rows (L2.upd H b o) kvs bk := by
  have key : ∀ (kv2 : List (Key × V)) (bk2 : Bk), Rows H kv2 bk2 → Rows (L2.upd H b o) kv2 bk2 := fun kv2 bk2 h2 => by
    unfold Rows at h2 ⊢
    induction h2 with
    | nil => exact .nil
    | cons h1 _ ih =>
      obtain ⟨e, t, a, ev, ht, ha⟩ := h1
      refine .cons ⟨e, t, a, ev, ?_, ?_⟩ ih
      · rw [upd_ne fun z => by rw [z, hb] at ht; cases ht]; exact ht
      · rw [TurnsAt, upd_ne (book_ne hb h ne ha)]; exact ha
  exact key kvs bk h
abbrev sIsBook : Stmt := top 16
structure BWf (bk : Bk) : Prop where
  ne : bk ≠ []
  nd : (bk.map (·.1)).Nodup
  len : bk.length ≤ 60
  rs : ∀ r ∈ bk, Wd r.1 ∧ RForm r.2.1 r.2.2 ∧ ∀ t ∈ r.2.2, t.2 ∈ bk.map (·.1)
  len2 : ∀ r ∈ bk, r.2.2.length ≤ 60
def spIsBook : Sp := fun vs H Q _ => ∃ (b : Addr) (bk : Bk), vs = [.ref b] ∧ BookAt H b bk ∧ BWf bk ∧ ∀ H', Same H H' → Q (.bl true) H'
theorem rowOf_self {bk : Bk} (nd : (bk.map (·.1)).Nodup) {r : RowD} (h : r ∈ bk) : rowOf bk r.1 = r.2 := by
  induction bk with
  | nil => cases h
  | cons x bk ih =>
    have nd' := List.nodup_cons.mp nd
    by_cases e : x.1 = r.1
    · rcases List.mem_cons.mp h with z | z
      · rw [rowOf, List.find?_cons, decide_eq_true e, z]; rfl
      · exact absurd (List.mem_map.mpr ⟨r, z, e.symm⟩) nd'.1
    · have hr : r ∈ bk := by
        rcases List.mem_cons.mp h with z | z
        · exact absurd (by rw [z]) e
        · exact z
      have er : rowOf (x :: bk) r.1 = rowOf bk r.1 := by rw [rowOf, List.find?_cons, decide_eq_false e]; rfl
      rw [er]; exact ih nd'.2 hr
section
variable {P : Program} {w : World} {K : PySem.W.Frag} {mg : Str → Option Value} {base : Heap}
theorem scIb : FnScope ["value", "state", "goal"] ["value"] (defScope sIsBook) := ⟨rfl, rfl, rfl, by decide +kernel, rfl, by decide +kernel, by decide +kernel⟩
theorem ok_isbook {f : Addr} {fd : FuncData} (F : Fun K "is_book" "is_book" sIsBook f fd) (T : Free3 mg) (CN : CIsName P w K mg base) (CR : CIsRow P w K mg base) : FnOk P w K mg base CX0 3 f fd ["value"] spIsBook := by
  refine F.ok scIb (fun vs H Q E h => ?_) (fun cdv A outer s H vs Q E hr h => ?_)
  · obtain ⟨a, bk, rfl, _⟩ := h; rfl
  · obtain ⟨b, bk, rfl, ⟨kvs, hb, hRw⟩, wf, k⟩ := h
    have hu := hu_of hr
    refine ⟨_, pss_cons (ps_if (PW.pt (pw_or (pt_not (pt_val (pe_callB call_isi (by rfl) T.isi (by decide +kernel) (pa_cons (pv 0) (pa_cons (pe_bltn (v := .ty "dict") rfl T.dict (by decide +kernel) rfl) pa_nil))))) (pw_or1 (pt_cmpR op_eq (pe_callB call_lenD (by rfl) T.len PySem.boot_len (pa_cons (pv 0) pa_nil)) pe_int (nomark _))))) (pss_one (ps_ret pe_bl)) pss_nil)
      (pss_cons (ps_if (pt_not (pt_val (pe_callB (cr_all rfl) (by rfl) T.all (by decide +kernel) (pa_cons (pe_lock (pe_lc (own := [("state", 1)]) (g := gName 1) (tt := tYes) (te := tAndV (tCall spIsName [] E0 (tCons (tVar 1) tNil)) (tCall spIsRow [] E0 (tCons (tDGet (tVar 0) (tVar 1)) tNil))) rfl scIb.nd (pi_keys (pv 0))
          (blkOk_by (N := ["value", "state", "goal"]) (sc := defScope sIsBook) (by decide +kernel)) (fun _ _ _ _ _ => pg_name (i := 1) scIb.nd rfl (Or.inl rfl)) (fun _ _ _ _ _ => pts_nil)
          (fun _ _ _ _ _ => pe_and (pe_cal CN (hr.mono (by decide)) rfl (pa_cons (pv 1) pa_nil)) (pe_one (pe_cal CR (hr.mono (by decide)) rfl (pa_cons (pe_dget hu (pv 0) (pv 1) (fun _ _ => rfl)) pa_nil)))))) pa_nil)))) (pss_one (ps_ret pe_bl)) pss_nil)
      (pss_one (ps_ret (pe_callB (cr_all rfl) (by rfl) T.all (by decide +kernel) (pa_cons (pe_lkAny (pe_lc2 (own := [("state", 1), ("goal", 2)]) (vs1 := [2]) (g := gName 1) (tt := tYes) (g1 := gName 2) (tt1 := tYes) (wi1 := iVals (tOp (rIxT K) (tDGet (tVar 0) (tVar 1)) (tC (.int 1)))) (te := tDIn (tVar 2) (tVar 0)) rfl scIb.nd (pi_keys (pv 0))
          (blkOk_by (N := ["value", "state", "goal"]) (sc := defScope sIsBook) (by decide +kernel)) (by decide) (fun _ _ _ _ _ => pg_name (i := 1) scIb.nd rfl (Or.inl rfl)) (fun _ _ _ _ _ => pts_nil)
          (fun _ _ _ _ _ => pi_values (pe_ix ix_tup (pe_dget hu (pv 0) (pv 1) (fun _ _ => rfl)) pe_int (fun _ _ => rfl))) (fun _ _ _ _ _ => pg_name (i := 2) scIb.nd rfl (Or.inl rfl)) (fun _ _ _ _ _ => pts_nil)
          (fun _ _ _ _ _ => pe_cmp (pc_din hu (pv 2) (pv 0)) rfl))) pa_nil))))), ?_⟩
    have lk0 : kvs.length = bk.length := hRw.len
    have lpos : 0 < bk.length := List.length_pos_iff.mpr wf.ne
    have at_row : ∀ {i : Nat} {kk : Key} {v : V}, kvs[i]? = some (kk, v) → ∃ s, kk = .inr s ∧ s ∈ bk.map (·.1) := fun {i kk v} e => by
      have e1 : (kvs.map (·.1))[i]? = some kk := by rw [List.getElem?_map, e]; rfl
      rw [hRw.keys] at e1
      obtain ⟨r, hr, e2⟩ := get_map e1
      exact ⟨r.1, e2, List.mem_map_of_mem (List.mem_of_getElem? hr)⟩
    refine ⟨_, rfl, _, .ty "dict", .type "dict", .type "dict", true, rfl, .ty _, .base (.dK hb), kit_ty (by decide +kernel), _, rfl, ?_⟩
    refine iteF ⟨_, rfl, b, kvs, rfl, hb, rfl, _, rfl, ?_⟩
    have nz : decide (V.int (kvs.length : Int) = V.int 0) = false := decide_eq_false fun e => by
      have : (kvs.length : Int) = 0 := by injection e
      omega
    rw [nz]
    refine iteF ⟨b, _, hb, trivial, fun od => ?_⟩
    have hR1 := hRw.lock (o := .frz od (.dK kvs)) hb wf.ne
    refine ⟨_, rfl, b, od, rfl, .inl ⟨kvs, upd_same, fun D hD => ?_⟩⟩
    have nD : b ≠ D := fun e => by rw [← e, upd_same] at hD; cases hD
    have hD0 := upd_none' hD
    refine lc_it (walk_keys (d := b) (o := od) (kvs := kvs)) (fun i H' => Same (L2.upd H b (.frz od (.dK kvs))) H' ∧ H' D = some (.lst ((List.replicate i true).map V.bl))) ⟨Same.new hD, upd_same⟩ (fun i H' _ z => z.1 _ _ upd_same) ?_ ?_
    · rintro i x H1 H2 hi ⟨sm, hl⟩ ⟨rfl, kk, v0, hkv, rfl⟩
      obtain ⟨s', rfl, hs⟩ := at_row hkv
      obtain ⟨v, e2, hrow, hm⟩ := (hR1.same sm).look hs
      have wr := wf.rs _ hm
      refine ⟨rfl, ?_⟩
      dsimp only [tYes]
      rw [if_pos rfl]
      refine ⟨_, rfl, s', rfl, wr.1, fun H3 s3 => ⟨true, rfl, iteT ⟨_, rfl, _, rfl, b, v, rfl, .inl ⟨kvs, .inr s', .inr ⟨od, s3 _ _ (sm _ _ upd_same)⟩, rfl, e2.symm⟩, v, _, _, rfl, hrow.same s3, wr.2.1, fun H4 s4 => ?_⟩⟩⟩
      refine ⟨_, s4 _ _ (s3 _ _ hl), by rw [List.length_map, List.length_replicate, sizeLine_eq]; have := wf.len; omega, ?_, ?_⟩
      · intro c u e
        rw [upd_ne (ne_of_none e hD)]; exact s4 _ _ (s3 _ _ (sm _ _ e))
      · rw [upd_same, repl_snoc]
    rintro H1 ⟨sm, hl⟩
    refine ⟨sm _ _ upd_same, D, _, rfl, SqL.of (by rw [upd_ne nD.symm]; exact hl), ?_⟩
    rw [all_true]
    refine ⟨_, rfl, ?_⟩
    have s5 : Same H (L2.upd H1 b (.dK kvs)) := Same.unlock hb sm
    have hb5 := s5 _ _ hb
    have hR5 := hRw.same s5
    generalize L2.upd H1 b (.dK kvs) = H5 at s5 hb5 hR5
    clear sm hl hD hD0 hR1
    refine iteF ?_
    obtain ⟨as, ha1, ha2⟩ := rows_addrs hR5 (bk.map (·.1)) fun s hs => hs
    obtain ⟨ds, nds, hds⟩ := dedup as
    have nb : b ∉ ds := fun z => by
      obtain ⟨ts, hts⟩ := ha1 b ((hds b).mp z)
      exact book_ne hb5 hR5 wf.ne hts rfl
    refine ⟨(b :: ds).length, lk_all _ _ (fun v H3 => ∃ D n, v = .ref D ∧ D ∉ b :: ds ∧ H3 D = some (.lst ((List.replicate n true).map V.bl))) (b :: ds) H5 _ (List.nodup_cons.mpr ⟨nb, nds⟩) (fun d hd => ?_) ?_ ?_⟩
    · rcases List.mem_cons.mp hd with e | e
      · rw [e]; exact ⟨_, hb5, trivial⟩
      · obtain ⟨ts, hts⟩ := ha1 d ((hds d).mp e)
        exact ⟨_, hts, trivial⟩
    · intro H2 Q2 lk k2
      obtain ⟨od, u, h1, hb2⟩ := lk.2 b List.mem_cons_self
      rw [hb5] at h1
      cases h1
      refine ⟨_, rfl, b, od, rfl, .inl ⟨kvs, hb2, fun D hD => ?_⟩⟩
      have nDd : D ∉ b :: ds := fun z => by
        obtain ⟨_, _, _, h3⟩ := lk.2 D z
        rw [h3] at hD; cases hD
      refine lp_it (walk_keys (d := b) (o := od) (kvs := kvs)) (fun i H' => Same H2 H' ∧ ∃ n, n ≤ 60 * i ∧ H' D = some (.lst ((List.replicate n true).map V.bl))) ⟨Same.new hD, 0, Nat.le_refl _, upd_same⟩ (fun i H' _ z => z.1 _ _ hb2) ?_ ?_
      · rintro i x H6 H7 hi ⟨sm, n, hn, hl⟩ ⟨rfl, kk, v0, hkv, rfl⟩
        obtain ⟨s', rfl, hs⟩ := at_row hkv
        obtain ⟨v, a, e2, haa, t, rfl, ht, hta⟩ := ha2 s' hs
        obtain ⟨_, _, _, hm⟩ := hR5.look hs
        have wr := wf.rs _ hm
        have l60 : (rowOf bk s').2.length ≤ 60 := wf.len2 _ hm
        have ht2 : H2 t = some (.tup [.str (rowOf bk s').1, .ref a]) := by
          rw [lk.1 t fun z => by
            rcases List.mem_cons.mp z with e | e
            · rw [e, hb5] at ht; cases ht
            · obtain ⟨ts, hts⟩ := ha1 t ((hds t).mp e)
              rw [hts] at ht; cases ht]
          exact ht
        obtain ⟨oa, ua, h3, ha3⟩ := lk.2 a (List.mem_cons_of_mem _ ((hds a).mpr haa))
        rw [hta] at h3
        cases h3
        refine ⟨rfl, ?_⟩
        dsimp only [tYes]
        rw [if_pos rfl]
        refine ⟨_, rfl, _, rfl, b, _, rfl, .inl ⟨kvs, .inr s', .inr ⟨od, sm _ _ hb2⟩, rfl, e2.symm⟩, t, _, _, _, rfl, rfl, SqT.of (sm _ _ ht2), atI_nat (j := 1) rfl, a, oa, kT (rowOf bk s').2, rfl, sm _ _ ha3, ?_⟩
        refine lp_it (walk_values (d := a) (o := oa) (kvs := kT (rowOf bk s').2)) (fun j H' => Same H2 H' ∧ ∃ n, n ≤ 60 * i + j ∧ H' D = some (.lst ((List.replicate n true).map V.bl))) ⟨sm, n, hn, hl⟩ (fun j H' _ z => z.1 _ _ ha3) ?_ ?_
        · rintro j x H8 H9 hj ⟨sm8, n8, hn8, hl8⟩ ⟨rfl, k9, hk9⟩
          rw [kT, List.getElem?_map] at hk9
          obtain ⟨tt, htt, e9⟩ := Option.map_eq_some_iff.mp hk9
          cases e9
          have hg := wr.2.2 tt (List.mem_of_getElem? htt)
          obtain ⟨vg, eg, _⟩ := hR5.look hg
          have lj : j < 60 := by rw [kT, List.length_map] at hj; omega
          have li : i < 60 := by have := wf.len; omega
          refine ⟨rfl, ?_⟩
          rw [if_pos rfl]
          refine ⟨_, rfl, _, rfl, b, _, rfl, .inl ⟨kvs, .inr tt.2, .inr ⟨od, sm8 _ _ hb2⟩, rfl, rfl⟩, _, hl8, by rw [List.length_map, List.length_replicate, sizeLine_eq]; omega, ?_, n8 + 1, by omega, ?_⟩
          · intro c u e
            rw [upd_ne (ne_of_none e hD)]; exact sm8 _ _ e
          · rw [upd_same, eg, ← repl_snoc]; rfl
        · rintro H8 ⟨sm8, n8, hn8, hl8⟩
          refine ⟨sm8, n8, ?_, hl8⟩
          rw [kT, List.length_map] at hn8
          have : (rowOf bk s').2.length ≤ 60 := l60
          omega
      · rintro H6 ⟨sm, n, hn, hl⟩
        exact k2 _ _ sm ⟨D, n, rfl, nDd, hl⟩
    · rintro v H3 ⟨D, n, rfl, nDd, hl⟩ H4 s4 e4
      refine ⟨D, _, rfl, SqL.of (by rw [e4 D nDd]; exact hl), ?_⟩
      rw [all_true]
      exact k H4 (Same.trans s5 s4)
end
end D1
end L2
/-! the class Desk: __init__, book, start; need_desk, graph_of -/
namespace L2
namespace D1
open PySem PySem.Spec PyProof.Rows
abbrev sDInit : Stmt := inClass (top 19) 0
abbrev sDEq : Stmt := inClass (top 19) 1
abbrev sDBook : Stmt := inClass (top 19) 2
abbrev sDStart : Stmt := inClass (top 19) 3
abbrev sNeed : Stmt := top 20
abbrev sGraph : Stmt := top 22
theorem kbs : ¬ (("_book" : Str) = "_start") := by decide +kernel
def dflds (b : Addr) (st : Str) : List (Str × V) := putF "_start" (.str st) (putF "_book" (.ref b) [])
theorem dflds_book (b : Addr) (st : Str) : (dflds b st).lookup ("_book" : Str) = some (.ref b) := by
  unfold dflds
  rw [lookup_putF, if_neg kbs, lookup_putF, if_pos rfl]
theorem dflds_start (b : Addr) (st : Str) : (dflds b st).lookup ("_start" : Str) = some (.str st) := by
  unfold dflds
  rw [lookup_putF, if_pos rfl]
theorem dflds_no (b : Addr) (st : Str) {m : Str} (h1 : ¬ m = "_start") (h2 : ¬ m = "_book") : (dflds b st).lookup m = none := by
  unfold dflds
  rw [lookup_putF, if_neg h1, lookup_putF, if_neg h2]
  all_goals rfl
/-- a desk -/
def DeskAt (C : Addr) (H : Hp) (q : Addr) (bk : Bk) (st : Str) : Prop := ∃ dx b, H q = some (.ins C dx (dflds b st)) ∧ BookR H b (ordB bk)
theorem DeskAt.same {C : Addr} {H H' : Hp} {q : Addr} {bk : Bk} {st : Str} (h : DeskAt C H q bk st) (s : Same H H') : DeskAt C H' q bk st := by
  obtain ⟨dx, b, e, r⟩ := h; exact ⟨dx, b, s _ _ e, r.same s⟩
/-- a book and a start that make a desk -/
structure DOk (bk : Bk) (st : Str) : Prop extends BWf bk where
  tk : ∀ r ∈ bk, (r.2.2.map (·.1)).Nodup
  st : st ∈ bk.map (·.1)
theorem DOk.bok {bk : Bk} {st : Str} (h : DOk bk st) : BOk bk := ⟨h.nd, by have := h.len; omega, fun r hr => ⟨h.tk r hr, by have := h.len2 r hr; omega⟩⟩
theorem WF.dok {bk : Bk} {st : Str} {ws : List Str} (h : WF bk st ws) (w : WsOk ws) : DOk bk st := by
  have hw : ∀ x ∈ bk.map (·.1), Wd x := fun x hx => by
    obtain ⟨r, hr, rfl⟩ := List.mem_map.mp hx
    exact (h.rs r hr).1
  have wl := w.hi
  refine { ne := ?_, nd := h.nd, len := ?_, rs := fun r hr => ?_, len2 := fun r hr => ?_, tk := fun r hr => ?_, st := h.st }
  · intro e
    have := h.st
    rw [e] at this; cases this
  · have := h.len; omega
  · obtain ⟨h1, h2⟩ := h.rs r hr
    rcases h2 with ⟨e1, e2⟩ | ⟨e1, e2, e3⟩
    · exact ⟨h1, .inl ⟨e1, e2⟩, by rw [e2]; simp⟩
    · exact ⟨h1, .inr ⟨e1, e2, by have := e3.len; omega, fun t ht => ⟨w.wd _ (e3.ks t ht), hw _ (e3.gs t ht)⟩⟩, fun t ht => e3.gs t ht⟩
  · obtain ⟨h1, h2⟩ := h.rs r hr
    rcases h2 with ⟨e1, e2⟩ | ⟨e1, e2, e3⟩
    · rw [e2]; exact Nat.zero_le _
    · have := e3.len; omega
  · obtain ⟨h1, h2⟩ := h.rs r hr
    rcases h2 with ⟨e1, e2⟩ | ⟨e1, e2, e3⟩
    · rw [e2]; exact List.nodup_nil
    · exact e3.nd
/-- what is asked of the class -/
structure DTxt (K : PySem.W.Frag) (mg : Str → Option Value) (C : Addr) : Prop where
  cl : Cls K C
  nB : NoAttr K C "_book"
  nS : NoAttr K C "_start"
  mgC : mg "Desk" = some (.ref C)
/-- a desk whose book is new -/
def DeskN (C : Addr) (H H' : Hp) (q : Addr) (bk : Bk) (st : Str) : Prop := ∃ dx b, H' q = some (.ins C dx (dflds b st)) ∧ BookR (newH H H') b (ordB bk)
def spDInit (C : Addr) : Sp := fun vs H Q _ => ∃ (q dx b : Addr) (bk : Bk) (st : Str), vs = [.ref q, .ref b, .str st] ∧ H q = some (.ins C dx []) ∧ BookAt H b bk ∧ DOk bk st ∧
  ∀ H', But q H H' → DeskAt C H' q bk st → DeskN C H H' q bk st → Q .non H'
def spDBook (C : Addr) : Sp := fun vs H Q _ => ∃ (q : Addr) (bk : Bk) (st : Str), vs = [.ref q] ∧ DeskAt C H q bk st ∧ DOk bk st ∧ ∀ H' R, Same H H' → H R = none → BookAt H' R (ordB bk) → Q (.ref R) H'
def spDStart (C : Addr) : Sp := fun vs H Q _ => ∃ (q : Addr) (bk : Bk) (st : Str), vs = [.ref q] ∧ DeskAt C H q bk st ∧ Q (.str st) H
theorem ordB_names (bk : Bk) : (ordB bk).map (·.1) = srt (bk.map (·.1)) := by
  rw [ordB, List.map_map]
  exact List.map_id'' (fun _ => rfl) _
theorem mem_ordB {bk : Bk} (nd : (bk.map (·.1)).Nodup) {r : RowD} : r ∈ ordB bk → ∃ r0 ∈ bk, r.1 = r0.1 ∧ r.2.1 = r0.2.1 ∧ r.2.2 = ordT r0.2.2 := fun h => by
  obtain ⟨s, hs, rfl⟩ := List.mem_map.mp h
  obtain ⟨r0, hr0, e⟩ := List.mem_map.mp ((srt_perm _).mem_iff.mp hs)
  refine ⟨r0, hr0, e.symm, ?_, ?_⟩
  · show (rowOf bk s).1 = _
    rw [← e, rowOf_self nd hr0]
  · show ordT (rowOf bk s).2 = _
    rw [← e, rowOf_self nd hr0]
theorem ordT_nd {ts : List (Str × Str)} (h : (ts.map (·.1)).Nodup) : ((ordT ts).map (·.1)).Nodup := by
  rw [ordT_keys]; exact (srt_perm _).nodup_iff.mpr h
theorem ordT_len (ts : List (Str × Str)) : (ordT ts).length = ts.length := by
  rw [← List.length_map (·.1), ordT_keys, (srt_perm _).length_eq, List.length_map]
theorem ordB_len (bk : Bk) : (ordB bk).length = bk.length := by
  rw [← List.length_map (·.1), ordB_names, (srt_perm _).length_eq, List.length_map]
theorem DOk.obok {bk : Bk} {st : Str} (h : DOk bk st) : BOk (ordB bk) := by
  refine ⟨by rw [ordB_names]; exact (srt_perm _).nodup_iff.mpr h.nd, by rw [ordB_len]; have := h.len; omega, fun r hr => ?_⟩
  obtain ⟨r0, h0, _, _, e⟩ := mem_ordB h.nd hr
  rw [e]
  exact ⟨ordT_nd (h.tk r0 h0), by rw [ordT_len]; have := h.len2 r0 h0; omega⟩
theorem srt_srt (l : List Str) : srt (srt l) = srt l := srt_congr (srt_perm l)
theorem goalT_ordT {ts : List (Str × Str)} {k : Str} (h : k ∈ ts.map (·.1)) : goalT (ordT ts) k = goalT ts k := by
  have hk : k ∈ (ordT ts).map (·.1) := by rw [ordT_keys]; exact (srt_perm _).mem_iff.mpr h
  obtain ⟨t, e, e1, ht⟩ := find_some hk
  obtain ⟨k2, _, rfl⟩ := List.mem_map.mp ht
  have : k2 = k := e1
  subst this
  rw [goalT, e]; rfl
theorem ordT_ordT (ts : List (Str × Str)) : ordT (ordT ts) = ordT ts := by
  show (srt ((ordT ts).map (·.1))).map (fun k => (k, goalT (ordT ts) k)) = _
  rw [ordT_keys, srt_srt]
  refine List.map_congr_left fun k hk => ?_
  rw [goalT_ordT ((srt_perm _).mem_iff.mp hk)]
theorem ordB_ordB {bk : Bk} (nd : (bk.map (·.1)).Nodup) : ordB (ordB bk) = ordB bk := by
  have nd2 : ((ordB bk).map (·.1)).Nodup := by rw [ordB_names]; exact (srt_perm _).nodup_iff.mpr nd
  show (srt ((ordB bk).map (·.1))).map (fun s => (s, (rowOf (ordB bk) s).1, ordT (rowOf (ordB bk) s).2)) = _
  rw [ordB_names, srt_srt]
  refine List.map_congr_left fun s hs => ?_
  have hm : (s, (rowOf bk s).1, ordT (rowOf bk s).2) ∈ ordB bk := List.mem_map.mpr ⟨s, hs, rfl⟩
  have := rowOf_self nd2 hm
  rw [show rowOf (ordB bk) s = ((rowOf bk s).1, ordT (rowOf bk s).2) from this]
  show (s, (rowOf bk s).1, ordT (ordT (rowOf bk s).2)) = _
  rw [ordT_ordT]
theorem updd2 {H : Hp} {a : Addr} {o o' : HO} : L2.upd (L2.upd H a o) a o' = L2.upd H a o' := by
  funext b
  by_cases h : b = a
  · rw [h, upd_same, upd_same]
  · rw [upd_ne h, upd_ne h, upd_ne h]
theorem Rows.updI {H : Hp} {q C dx : Addr} {fs : List (Str × V)} {kvs : List (Key × V)} {bk : Bk} {o : HO} (h : Rows H kvs bk) (hq : H q = some (.ins C dx fs)) : Rows (L2.upd H q o) kvs bk := by
  unfold Rows at h ⊢
  induction h with
  | nil => exact .nil
  | cons h1 _ ih =>
    obtain ⟨e, t, a, ev, ht, ha⟩ := h1
    refine .cons ⟨e, t, a, ev, ?_, ?_⟩ ih
    · rw [upd_ne fun z => by rw [z, hq] at ht; cases ht]; exact ht
    · rw [TurnsAt, upd_ne fun z => by rw [TurnsAt, z, hq] at ha; cases ha]; exact ha
section
variable {P : Program} {w : World} {K : PySem.W.Frag} {mg : Str → Option Value} {base : Heap}
abbrev CIsBook (P : Program) (w : World) (K : PySem.W.Frag) (mg : Str → Option Value) (base : Heap) := Cal P w K mg base "is_book" 3 ["value"] spIsBook
abbrev CIsState (P : Program) (w : World) (K : PySem.W.Frag) (mg : Str → Option Value) (base : Heap) := Cal P w K mg base "is_state_of" 1 ["book", "value"] spIsState
abbrev COrdB (P : Program) (w : World) (K : PySem.W.Frag) (mg : Str → Option Value) (base : Heap) := Cal P w K mg base "ordered_book" 2 ["book"] spOrdB
theorem scDi : FnScope ["self", "book", "start"] ["self", "book", "start"] (defScope sDInit) := ⟨rfl, rfl, rfl, by decide +kernel, rfl, by decide +kernel, by decide +kernel⟩
theorem ok_dinit {f C : Addr} {fd : FuncData} (F : Fun K "__init__" "Desk.__init__" sDInit f fd) (D : DTxt K mg C) (CB : CIsBook P w K mg base) (CS : CIsState P w K mg base) (CO : COrdB P w K mg base) : FnOk P w K mg base CX0 4 f fd ["self", "book", "start"] (spDInit C) := by
  refine F.ok scDi (fun vs H Q E h => ?_) (fun cdv A outer s H vs Q E hr h => ?_)
  · obtain ⟨q, dx, b, bk, st, rfl, _⟩ := h; rfl
  · obtain ⟨q, dx, b, bk, st, rfl, hq, hb, ok, k⟩ := h
    refine ⟨_, pss_cons (ps_if (pt_not (pt_val (pe_cal CB (hr.mono (by decide)) rfl (pa_cons (pv 1) pa_nil)))) (pss_one ps_never) pss_nil)
      (pss_cons (ps_if (pt_not (pt_val (pe_cal CS (hr.mono (by decide)) rfl (pa_cons (pv 1) (pa_cons (pv 2) pa_nil))))) (pss_one ps_never) pss_nil)
      (pss_cons (ps_fld (pv 0) (pe_cal CO (hr.mono (by decide)) rfl (pa_cons (pv 1) pa_nil)) rfl)
      (pss_one (ps_fld (pv 0) (pv 2) rfl)))), ?_⟩
    refine ⟨_, rfl, b, bk, rfl, hb, ok.toBWf, fun H1 s1 => ⟨_, rfl, iteF ?_⟩⟩
    obtain ⟨kvs, hk1, hR1⟩ := hb.same s1
    obtain ⟨v, ev, _⟩ := hR1.look ok.st
    refine ⟨_, rfl, _, rfl, b, kvs, st, rfl, .inl hk1, by rw [ev]; rfl, ⟨_, rfl, iteF ?_⟩⟩
    refine ⟨_, rfl, b, bk, rfl, (hb.same s1).r, ok.bok, fun H2 R s2 hR hO => ?_⟩
    have s12 := Same.trans s1 s2
    have hq2 := s12 _ _ hq
    have nqR : q ≠ R := ne_of_none (s1 _ _ hq) hR
    refine ⟨_, rfl, q, C, dx, [], rfl, hq2, D.cl, D.nB, (by show 0 < 1000; decide), _, rfl, _, rfl, q, C, dx, _, rfl, upd_same, D.cl, D.nS, (by show 1 < 1000; decide), ?_⟩
    rw [updd2]
    have sN : ∀ o, Same (newH H1 H2) (newH H (L2.upd H2 q o)) := fun o c u e => by
      obtain ⟨n, e⟩ := new_some (new_mono s1 _ _ e)
      rw [new_out n, upd_ne fun z => by rw [z, hq] at n; cases n]; exact e
    refine k _ (fun c u nc e => ?_) ⟨dx, R, upd_same, (hO.same (sN _)).r.same new_le⟩ ⟨dx, R, upd_same, (hO.same (sN _)).r⟩
    rw [upd_ne nc]; exact s12 _ _ e
theorem scDb : FnScope ["self"] ["self"] (defScope sDBook) := ⟨rfl, rfl, rfl, by decide +kernel, rfl, by decide +kernel, by decide +kernel⟩
theorem ok_dbook {f C : Addr} {fd : FuncData} (F : Fun K "book" "Desk.book" sDBook f fd) (D : DTxt K mg C) (CO : COrdB P w K mg base) : FnOk P w K mg base CX0 3 f fd ["self"] (spDBook C) := by
  refine F.ok scDb (fun vs H Q E h => ?_) (fun cdv A outer s H vs Q E hr h => ?_)
  · obtain ⟨q, bk, st, rfl, _⟩ := h; rfl
  · obtain ⟨q, bk, st, rfl, ⟨dx, b, hq, hb⟩, ok, k⟩ := h
    refine ⟨_, pss_one (ps_ret (pe_cal CO (hr.mono (by decide)) rfl (pa_cons (pe_fld (pv 0) rfl) pa_nil))), ?_⟩
    refine ⟨_, rfl, q, C, dx, _, _, rfl, hq, D.cl, D.nB, dflds_book _ _, b, ordB bk, rfl, hb, ok.obok, fun H' R s' hR hO => ?_⟩
    rw [ordB_ordB ok.nd] at hO
    exact k H' R s' hR (hO.same new_le)
theorem scDs : FnScope ["self"] ["self"] (defScope sDStart) := ⟨rfl, rfl, rfl, by decide +kernel, rfl, by decide +kernel, by decide +kernel⟩
theorem ok_dstart {f C : Addr} {fd : FuncData} (F : Fun K "start" "Desk.start" sDStart f fd) (D : DTxt K mg C) : FnOk P w K mg base CX0 1 f fd ["self"] (spDStart C) := by
  refine F.ok scDs (fun vs H Q E h => ?_) (fun cdv A outer s H vs Q E hr h => ?_)
  · obtain ⟨q, bk, st, rfl, _⟩ := h; rfl
  · obtain ⟨q, bk, st, rfl, ⟨dx, b, hq, hb⟩, k⟩ := h
    refine ⟨_, pss_one (ps_ret (pe_fld (pv 0) rfl)), ?_⟩
    exact ⟨_, rfl, q, C, dx, _, _, rfl, hq, D.cl, D.nS, dflds_start _ _, k⟩
end
end D1
end L2
/-! need_desk, graph_of, node_behind, the talks' small defs -/
namespace L2
namespace D1
open PySem PySem.Spec PyProof.Rows
/-- a method that keeps a promise -/
structure CalM (P : Program) (w : World) (K : PySem.W.Frag) (mg : Str → Option Value) (base : Heap) (C : Addr) (m : Str) (k : Nat) (ps : List Str) (sp : Sp) : Prop where
  ex : ∃ f fd, Meth K C m f ∧ FnOk P w K mg base CX0 k f fd ps sp ∧ Binds K fd ps []
def spNeed (C : Addr) : Sp := fun vs H Q _ => ∃ (q dx : Addr) (fs : List (Str × V)), vs = [.ref q] ∧ H q = some (.ins C dx fs) ∧ Q .non H
/-- a graph's rows -/
def GRows (H : Hp) : List (Key × V) → Bk → Prop := Paired fun kv r => kv.1 = Sum.inr r.1 ∧ ∃ a, kv.2 = .ref a ∧ TurnsAt H a r.2.2
theorem GRows.same {H H' : Hp} {kvs : List (Key × V)} {bk : Bk} (h : GRows H kvs bk) (s : Same H H') : GRows H' kvs bk := by
  unfold GRows at h ⊢
  induction h with
  | nil => exact .nil
  | cons a b ih => obtain ⟨e, c, e2, h3⟩ := a; exact .cons ⟨e, c, e2, h3.same s⟩ ih
theorem GRows.app {H : Hp} {kvs : List (Key × V)} {bk : Bk} {s k : Str} {a : Addr} {ts : List (Str × Str)} (h : GRows H kvs bk) (r : TurnsAt H a ts) : GRows H (kvs ++ [(.inr s, .ref a)]) (bk ++ [(s, k, ts)]) := by
  unfold GRows at h ⊢
  induction h with
  | nil => exact .cons ⟨rfl, a, rfl, r⟩ .nil
  | cons a b ih => exact .cons a ih
theorem GRows.keys {H : Hp} {kvs : List (Key × V)} {bk : Bk} (h : GRows H kvs bk) : kvs.map (·.1) = bk.map fun r => Sum.inr r.1 := by
  unfold GRows at h
  induction h with
  | nil => rfl
  | cons a b ih => rw [List.map_cons, List.map_cons, ih, a.1]
theorem GRows.look {H : Hp} {kvs : List (Key × V)} {bk : Bk} {s : Str} (h : GRows H kvs bk) (m : s ∈ bk.map (·.1)) : ∃ a, valV kvs (.inr s) = some (.ref a) ∧ TurnsAt H a (rowOf bk s).2 := by
  unfold GRows at h
  induction h with
  | nil => cases m
  | @cons x r kvs bk h1 _ ih =>
    obtain ⟨e1, a, e2, h3⟩ := h1
    by_cases e : r.1 = s
    · refine ⟨a, (valV_pos (by rw [e1, e])).trans (congrArg some e2), ?_⟩
      rw [rowOf, List.find?_cons, decide_eq_true e]; exact h3
    · have m' : s ∈ bk.map (·.1) := by
        rcases List.mem_cons.mp m with z | z
        · exact absurd z.symm e
        · exact z
      obtain ⟨a', h4, h5⟩ := ih m'
      have er : rowOf (r :: bk) s = rowOf bk s := by rw [rowOf, List.find?_cons, decide_eq_false e]; rfl
      exact ⟨a', by rw [valV_neg (by rw [e1]; exact fun z => e (Sum.inr.inj z))]; exact h4, by rw [er]; exact h5⟩
def GraphAt (H : Hp) (g : Addr) (bk : Bk) : Prop := ∃ kvs, H g = some (.dK kvs) ∧ GRows H kvs bk
theorem GraphAt.same {H H' : Hp} {g : Addr} {bk : Bk} (h : GraphAt H g bk) (s : Same H H') : GraphAt H' g bk := by
  obtain ⟨kvs, e, r⟩ := h; exact ⟨kvs, s _ _ e, r.same s⟩
def spGraph (C : Addr) : Sp := fun vs H Q _ => ∃ (q : Addr) (bk : Bk) (st : Str), vs = [.ref q] ∧ DeskAt C H q bk st ∧ DOk bk st ∧ ∀ H' R, Same H H' → GraphAt H' R (ordB bk) → Q (.ref R) H'
/-- where a word leads -/
def nextT (ts : List (Str × Str)) (x : Str) : Option Str := (ts.find? fun t => decide (t.1 = x)).map (·.2)
def walkB (bk : Bk) : Str → List Str → Option Str
  | s, [] => some s
  | s, x :: r => match nextT (rowOf bk s).2 x with
    | none => none
    | some g => walkB bk g r
def optV : Option Str → V
  | none => .non
  | some s => .str s
theorem nextT_none {ts : List (Str × Str)} {x : Str} : nextT ts x = none ↔ x ∉ ts.map (·.1) := by
  constructor
  · intro h m
    obtain ⟨t, e, _⟩ := find_some m
    rw [nextT, e] at h; cases h
  · intro h
    cases e : nextT ts x with
    | none => rfl
    | some g =>
      obtain ⟨t, e1, _⟩ := Option.map_eq_some_iff.mp e
      have e2 := List.find?_some e1
      exact absurd (List.mem_map.mpr ⟨t, List.mem_of_find?_eq_some e1, of_decide_eq_true e2⟩) h
theorem nextT_ord (ts : List (Str × Str)) (x : Str) : nextT (ordT ts) x = nextT ts x := by
  by_cases h : x ∈ ts.map (·.1)
  · have h' : x ∈ (ordT ts).map (·.1) := by rw [ordT_keys]; exact (srt_perm _).mem_iff.mpr h
    have g := goalT_ordT h
    obtain ⟨t, e, _⟩ := find_some h
    obtain ⟨t', e', _⟩ := find_some h'
    rw [goalT, goalT, e, e'] at g
    rw [nextT, nextT, e, e']
    exact congrArg some g
  · have h' : x ∉ (ordT ts).map (·.1) := by rw [ordT_keys]; exact fun z => h ((srt_perm _).mem_iff.mp z)
    rw [nextT_none.mpr h, nextT_none.mpr h']
theorem nextT_mem {ts : List (Str × Str)} {x g : Str} (h : nextT ts x = some g) : ∃ t ∈ ts, t.1 = x ∧ t.2 = g := by
  obtain ⟨t, e1, e2⟩ := Option.map_eq_some_iff.mp h
  have e3 := List.find?_some e1
  exact ⟨t, List.mem_of_find?_eq_some e1, of_decide_eq_true e3, e2⟩
theorem valV_next (ts : List (Str × Str)) (x : Str) : valV (kT ts) (.inr x) = (nextT ts x).map V.str := by
  rw [valV_kT, nextT, Option.map_map]; rfl
theorem rowOf_ord {bk : Bk} (nd : (bk.map (·.1)).Nodup) {s : Str} (h : s ∈ bk.map (·.1)) : rowOf (ordB bk) s = ((rowOf bk s).1, ordT (rowOf bk s).2) := by
  have nd2 : ((ordB bk).map (·.1)).Nodup := by rw [ordB_names]; exact (srt_perm _).nodup_iff.mpr nd
  have hm : (s, (rowOf bk s).1, ordT (rowOf bk s).2) ∈ ordB bk := List.mem_map.mpr ⟨s, (srt_perm _).mem_iff.mpr h, rfl⟩
  exact rowOf_self nd2 hm
theorem row_mem {bk : Bk} {s : Str} (h : s ∈ bk.map (·.1)) : (s, rowOf bk s) ∈ bk := by
  obtain ⟨r, hr, e⟩ := List.mem_map.mp h
  cases z : bk.find? fun r => decide (r.1 = s) with
  | none => exact absurd (decide_eq_true e) (List.find?_eq_none.mp z r hr)
  | some u =>
    have e1 : u.1 = s := of_decide_eq_true (by have := List.find?_some z; exact this)
    have : rowOf bk s = u.2 := by rw [rowOf, z]; rfl
    rw [this, ← e1]
    exact List.mem_of_find?_eq_some z
def spNode : Sp := fun vs H Q _ => ∃ (g L : Addr) (bk : Bk) (st : Str) (way : List Str), vs = [.ref g, .str st, .ref L] ∧ GraphAt H g (ordB bk) ∧ DOk bk st ∧ SL H L way ∧ Q (optV (walkB bk st way)) H
def spIsTalk : Sp := spIsNames
def spNeedT : Sp := fun vs H Q _ => ∃ (L : Addr) (ss : List Str), vs = [.ref L] ∧ SL H L ss ∧ ss.length ≤ 1000 ∧ (∀ x ∈ ss, Wd x) ∧ ∀ H', Same H H' → Q .non H'
def spSB (C : Addr) : Sp := fun vs H Q _ => ∃ (q L : Addr) (bk : Bk) (st : Str) (way : List Str), vs = [.ref q, .ref L] ∧ DeskAt C H q bk st ∧ DOk bk st ∧ SL H L way ∧ way.length ≤ 1000 ∧ (∀ x ∈ way, Wd x) ∧ ∀ H', Same H H' → Q (optV (walkB bk st way)) H'
section
variable {P : Program} {w : World} {K : PySem.W.Frag} {mg : Str → Option Value} {base : Heap}
theorem scNd : FnScope ["desk"] ["desk"] (defScope sNeed) := ⟨rfl, rfl, rfl, by decide +kernel, rfl, by decide +kernel, by decide +kernel⟩
theorem ok_need {f C : Addr} {fd : FuncData} (F : Fun K "need_desk" "need_desk" sNeed f fd) (T : Free3 mg) (D : DTxt K mg C) (c : C8.InsC K C) : FnOk P w K mg base CX0 1 f fd ["desk"] (spNeed C) := by
  refine F.ok scNd (fun vs H Q E h => ?_) (fun cdv A outer s H vs Q E hr h => ?_)
  · obtain ⟨q, dx, fs, rfl, _⟩ := h; rfl
  · obtain ⟨q, dx, fs, rfl, hq, k⟩ := h
    refine ⟨_, pss_one (ps_if (pt_not (pt_val (pe_callB (C8.call_isC c) (by rfl) T.isi (by decide +kernel) (pa_cons (pv 0) (pa_cons (pe_glob (v := .ref C) rfl D.mgC rfl) pa_nil))))) (pss_one ps_never) pss_nil), ?_⟩
    exact ⟨_, rfl, q, dx, fs, rfl, hq, _, rfl, iteF k⟩
abbrev CNode (P : Program) (w : World) (K : PySem.W.Frag) (mg : Str → Option Value) (base : Heap) := Cal P w K mg base "node_behind" 1 ["graph", "start", "way"] spNode
end
end D1
end L2
/-! graph_of, is_talk, need_talk, done_states, state_behind, is_whole -/
namespace L2
namespace D1
open PySem PySem.Spec PyProof.Rows
theorem Rows.at {H : Hp} {kvs : List (Key × V)} {bk : Bk} (h : Rows H kvs bk) : ∀ {i : Nat} {k : Key} {v : V}, kvs[i]? = some (k, v) → ∃ r, bk[i]? = some r ∧ k = Sum.inr r.1 ∧ RowAt H v r.2.1 r.2.2 := by
  unfold Rows at h
  induction h with
  | nil => intro i k v e; simp at e
  | @cons x r kvs bk h1 _ ih =>
    intro i k v e
    cases i with
    | zero => cases e; exact ⟨r, rfl, h1.1, h1.2⟩
    | succ i => exact ih e
def isDone (r : RowD) : Bool := decide (r.2.1 = "done")
def spDone (C : Addr) : Sp := fun vs H Q _ => ∃ (q : Addr) (bk : Bk) (st : Str), vs = [.ref q] ∧ DeskAt C H q bk st ∧ DOk bk st ∧ ∀ H' R, Same H H' → SL H' R (((ordB bk).filter isDone).map (·.1)) → Q (.ref R) H'
/-- whether a talk leads to an end -/
def wholeB (bk : Bk) (st : Str) (way : List Str) : Bool := match walkB bk st way with
  | none => false
  | some s => decide ((rowOf bk s).1 = "done")
def spWhole (C : Addr) : Sp := fun vs H Q _ => ∃ (q L : Addr) (bk : Bk) (st : Str) (way : List Str), vs = [.ref q, .ref L] ∧ DeskAt C H q bk st ∧ DOk bk st ∧ SL H L way ∧ way.length ≤ 1000 ∧ (∀ x ∈ way, Wd x) ∧ ∀ H', Same H H' → Q (.bl (wholeB bk st way)) H'
theorem DOk.ond {bk : Bk} {st : Str} (h : DOk bk st) : ((ordB bk).map (·.1)).Nodup := by rw [ordB_names]; exact (srt_perm _).nodup_iff.mpr h.nd
theorem ordB_ne {bk : Bk} (h : bk ≠ []) : ordB bk ≠ [] := fun e => by
  have := ordB_len bk
  rw [e] at this
  exact h (List.length_eq_zero_iff.mp this.symm)
theorem walk_mem {bk : Bk} {st0 : Str} (ok : DOk bk st0) : ∀ {way : List Str} {st s : Str}, st ∈ bk.map (·.1) → walkB bk st way = some s → s ∈ bk.map (·.1)
  | [], st, s, h, e => by cases e; exact h
  | x :: r, st, s, h, e => by
    rw [walkB] at e
    cases en : nextT (rowOf bk st).2 x with
    | none => rw [en] at e; cases e
    | some g =>
      rw [en] at e
      obtain ⟨t, ht, _, e3⟩ := nextT_mem en
      exact walk_mem ok (by rw [← e3]; exact (ok.rs _ (row_mem h)).2.2 t ht) e
section
variable {P : Program} {w : World} {K : PySem.W.Frag} {mg : Str → Option Value} {base : Heap} {C : Addr}
abbrev CMBook (P : Program) (w : World) (K : PySem.W.Frag) (mg : Str → Option Value) (base : Heap) (C : Addr) := CalM P w K mg base C "book" 3 ["self"] (spDBook C)
abbrev CMStart (P : Program) (w : World) (K : PySem.W.Frag) (mg : Str → Option Value) (base : Heap) (C : Addr) := CalM P w K mg base C "start" 1 ["self"] (spDStart C)
abbrev CNeed (P : Program) (w : World) (K : PySem.W.Frag) (mg : Str → Option Value) (base : Heap) (C : Addr) := Cal P w K mg base "need_desk" 1 ["desk"] (spNeed C)
abbrev CGraph (P : Program) (w : World) (K : PySem.W.Frag) (mg : Str → Option Value) (base : Heap) (C : Addr) := Cal P w K mg base "graph_of" 4 ["desk"] (spGraph C)
abbrev CIsTalk (P : Program) (w : World) (K : PySem.W.Frag) (mg : Str → Option Value) (base : Heap) := Cal P w K mg base "is_talk" 3 ["value"] spIsTalk
abbrev CNeedT (P : Program) (w : World) (K : PySem.W.Frag) (mg : Str → Option Value) (base : Heap) := Cal P w K mg base "need_talk" 4 ["talk"] spNeedT
abbrev CIsNames (P : Program) (w : World) (K : PySem.W.Frag) (mg : Str → Option Value) (base : Heap) := Cal P w K mg base "is_names" 2 ["value"] spIsNames
theorem scGr : FnScope ["desk", "book", "state"] ["desk"] (defScope sGraph) := ⟨rfl, rfl, rfl, by decide +kernel, rfl, by decide +kernel, by decide +kernel⟩
theorem ok_graph {f : Addr} {fd : FuncData} (F : Fun K "graph_of" "graph_of" sGraph f fd) (D : DTxt K mg C) (MB : CMBook P w K mg base C) : FnOk P w K mg base CX0 4 f fd ["desk"] (spGraph C) := by
  obtain ⟨fB, fdB, mB, FB, bB⟩ := MB.ex
  refine F.ok scGr (fun vs H Q E h => ?_) (fun cdv A outer s H vs Q E hr h => ?_)
  · obtain ⟨q, bk, st, rfl, _⟩ := h; rfl
  · obtain ⟨q, bk, st, rfl, hq, ok, k⟩ := h
    have hu := hu_of hr
    refine ⟨_, pss_cons (ps_set (i := 1) scGr.nd rfl (Or.inr rfl) (pe_meth0 (pv 0) D.cl mB FB (hr.mono (by decide)) bB .nil pass0))
      (pss_one (ps_ret (pe_lock (pe_dc (own := [("state", 2)]) (g := gName 2) (tt := tYes) (tk := tVar 2) (tv := tOp (rIxT K) (tDGet (tVar 1) (tVar 2)) (tC (.int 1))) rfl scGr.nd (pi_keys (pv 1))
        (blkOk_by (N := ["desk", "book", "state"]) (sc := defScope sGraph) (by decide +kernel)) (fun _ _ _ _ _ => pg_name (i := 2) scGr.nd rfl (Or.inl rfl)) (fun _ _ _ _ _ => pts_nil) (fun _ _ _ _ _ => pv 2)
        (fun _ _ _ _ _ => pe_ix ix_tup (pe_dget hu (pv 1) (pv 2) (fun _ _ => rfl)) pe_int (fun _ _ => rfl)))))), ?_⟩
    obtain ⟨dx, b0, e0, hb0⟩ := id hq
    refine ⟨_, rfl, q, dx, _, rfl, e0, dflds_no _ _ (by decide +kernel) (by decide +kernel), q, bk, st, rfl, hq, ok, fun H1 B s1 hB ⟨kvs, hk, hR⟩ => ?_⟩
    refine ⟨B, _, hk, trivial, fun od => ?_⟩
    refine ⟨_, rfl, B, od, rfl, .inl ⟨kvs, upd_same, fun D hD => ?_⟩⟩
    have nD : B ≠ D := fun e => by rw [← e, upd_same] at hD; cases hD
    have hD0 := upd_none' hD
    have hRL := hR.lock (o := .frz od (.dK kvs)) hk (ordB_ne ok.ne)
    refine dc_it (walk_keys (d := B) (o := od) (kvs := kvs)) (fun i H' => Same (L2.upd H1 B (.frz od (.dK kvs))) H' ∧ ∃ kv2, H' D = some (.dK kv2) ∧ GRows H1 kv2 ((ordB bk).take i)) ⟨Same.new hD, [], upd_same, .nil⟩ (fun i H' _ z => z.1 _ _ upd_same) ?_ ?_
    · rintro i x H2 H3 hi ⟨sm, kv2, hk2, hG⟩ ⟨rfl, kk, v0, hkv, rfl⟩
      obtain ⟨r, hr', rfl, _⟩ := hR.at hkv
      have hrm : r ∈ ordB bk := List.mem_of_getElem? hr'
      have hs : r.1 ∈ (ordB bk).map (·.1) := List.mem_map_of_mem hrm
      obtain ⟨v, ev, ⟨t, a, rfl, ht, ha⟩, _⟩ := hR.look hs
      obtain ⟨v', ev', hrow', _⟩ := hRL.look hs
      rw [ev] at ev'
      cases ev'
      obtain ⟨t', a', et, ht', ha'⟩ := hrow'
      cases et
      have ht2 := sm _ _ ht'
      rw [rowOf_self ok.ond hrm] at ht ha ht2 ha' ht'
      have ea : a' = a := by
        have nt : t ≠ B := fun e => by rw [e, hk] at ht; cases ht
        rw [upd_ne nt, ht] at ht'
        have := HO.tup.inj (Option.some.inj ht')
        injection this with _ h2
        injection h2 with h3
        injection h3 with h4
        exact h4.symm
      subst ea
      refine ⟨rfl, ?_⟩
      dsimp only [tYes]
      rw [if_pos rfl]
      have hn : (Sum.inr r.1 : Key) ∉ kv2.map (·.1) := fun hm => by
        rw [hG.keys] at hm
        obtain ⟨r2, hr2, e2⟩ := List.mem_map.mp hm
        have e2 : r2.1 = r.1 := Sum.inr.inj e2
        obtain ⟨m, hm1, hm2⟩ := List.mem_take_iff_getElem.mp hr2
        have h1 : ((ordB bk).map (·.1))[m]? = some r.1 := by rw [List.getElem?_map, List.getElem?_eq_getElem (by omega), hm2, ← e2]; rfl
        have h2 : ((ordB bk).map (·.1))[i]? = some r.1 := by rw [List.getElem?_map, hr']; rfl
        have hil : i < (ordB bk).length := (List.getElem?_eq_some_iff.mp hr').1
        have := (List.getElem?_inj (by rw [List.length_map]; omega) ok.ond).mp (h1.trans h2.symm)
        omega
      have l2 : kv2.length ≤ 60 := by
        have := congrArg List.length hG.keys
        rw [List.length_map, List.length_map, List.length_take, ordB_len] at this
        have := ok.len; omega
      refine ⟨_, rfl, _, rfl, _, rfl, B, _, rfl, .inl ⟨kvs, .inr r.1, .inr ⟨od, sm _ _ upd_same⟩, rfl, ev.symm⟩, t, _, _, _, rfl, rfl, SqT.of ht2, atI_nat (j := 1) rfl, kv2, .inr r.1, rfl, hk2, by rw [sizeLine_eq]; omega, ?_, _, upd_same, ?_⟩
      · intro c u e
        rw [upd_ne (ne_of_none e hD)]; exact sm _ _ e
      · rw [putK_new hn, take_succ_get hr']
        exact hG.app ha
    · rintro H2 ⟨sm, kv2, hk2, hG⟩
      have hl : kvs.length = (ordB bk).length := hR.len
      rw [hl, List.take_length] at hG
      have su := Same.unlock hk sm
      exact ⟨sm _ _ upd_same, k _ D (Same.trans s1 su) ⟨kv2, by rw [upd_ne nD.symm]; exact hk2, hG.same su⟩⟩
end
end D1
end L2
/-! done_states, is_whole; state_had, turns_behind, spoken of talks that a desk has -/
namespace L2
namespace D1
open PySem PySem.Spec PyProof.Rows
def spHad (C : Addr) : Sp := fun vs H Q _ => ∃ (q L : Addr) (bk : Bk) (st s : Str) (way : List Str), vs = [.ref q, .ref L] ∧ DeskAt C H q bk st ∧ DOk bk st ∧ SL H L way ∧ way.length ≤ 1000 ∧ (∀ x ∈ way, Wd x) ∧ walkB bk st way = some s ∧ ∀ H', Same H H' → Q (.str s) H'
def keysO (ts : List (Str × Str)) : List Str := srt (ts.map (·.1))
def spTB (C : Addr) : Sp := fun vs H Q _ => ∃ (q L : Addr) (bk : Bk) (st s : Str) (way : List Str), vs = [.ref q, .ref L] ∧ DeskAt C H q bk st ∧ DOk bk st ∧ SL H L way ∧ way.length ≤ 1000 ∧ (∀ x ∈ way, Wd x) ∧ walkB bk st way = some s ∧
  ∀ (H' : Hp) (R M : Addr), Same H H' → H R = none → H M = none → H' R = some (.tup [.str (rowOf bk s).1, .ref M]) → SL H' M (keysO (rowOf bk s).2) → Q (.ref R) H'
/-- who says each word of a talk -/
def spokenB (bk : Bk) : Str → List Str → List (Str × Str)
  | _, [] => []
  | s, x :: r => ((rowOf bk s).1, x) :: spokenB bk (goalT (rowOf bk s).2 x) r
def PairsAt (H : Hp) (R : Addr) (ps : List (Str × Str)) : Prop := ∃ ts : List Addr, H R = some (.lst (ts.map V.ref)) ∧ Paired (fun t (p : Str × Str) => H t = some (.tup [.str p.1, .str p.2])) ts ps
def spSpoken (C : Addr) : Sp := fun vs H Q _ => ∃ (q L : Addr) (bk : Bk) (st s : Str) (way : List Str), vs = [.ref q, .ref L] ∧ DeskAt C H q bk st ∧ DOk bk st ∧ SL H L way ∧ way.length ≤ 1000 ∧ (∀ x ∈ way, Wd x) ∧ walkB bk st way = some s ∧
  ∀ (H' : Hp) (R : Addr), Same H H' → H R = none → PairsAt H' R (spokenB bk st way) → Q (.ref R) H'
theorem next_goal {ts : List (Str × Str)} {x g : Str} (h : nextT ts x = some g) : goalT ts x = g := by
  obtain ⟨t, e1, e2⟩ := Option.map_eq_some_iff.mp h
  rw [goalT, e1]; exact e2
theorem prs_same {H H' : Hp} {ts : List Addr} {ps : List (Str × Str)} (h : Paired (fun t (p : Str × Str) => H t = some (.tup [.str p.1, .str p.2])) ts ps) (s : Same H H') : Paired (fun t (p : Str × Str) => H' t = some (.tup [.str p.1, .str p.2])) ts ps := by
  induction h with
  | nil => exact .nil
  | cons a b ih => exact .cons (s _ _ a) ih
theorem prs_app {H : Hp} {ts : List Addr} {ps : List (Str × Str)} {t : Addr} {p : Str × Str} (h : Paired (fun t (p : Str × Str) => H t = some (.tup [.str p.1, .str p.2])) ts ps) (e : H t = some (.tup [.str p.1, .str p.2])) : Paired (fun t (p : Str × Str) => H t = some (.tup [.str p.1, .str p.2])) (ts ++ [t]) (ps ++ [p]) := by
  induction h with
  | nil => exact .cons e .nil
  | cons a b ih => exact .cons a ih
theorem prs_len {H : Hp} {ts : List Addr} {ps : List (Str × Str)} (h : Paired (fun t (p : Str × Str) => H t = some (.tup [.str p.1, .str p.2])) ts ps) : ts.length = ps.length := by
  induction h with
  | nil => rfl
  | cons a b ih => rw [List.length_cons, List.length_cons, ih]
section
variable {P : Program} {w : World} {K : PySem.W.Frag} {mg : Str → Option Value} {base : Heap} {C : Addr}
abbrev CSB (P : Program) (w : World) (K : PySem.W.Frag) (mg : Str → Option Value) (base : Heap) (C : Addr) := Cal P w K mg base "state_behind" 5 ["desk", "talk"] (spSB C)
abbrev CDone (P : Program) (w : World) (K : PySem.W.Frag) (mg : Str → Option Value) (base : Heap) (C : Addr) := Cal P w K mg base "done_states" 4 ["desk"] (spDone C)
abbrev CHad (P : Program) (w : World) (K : PySem.W.Frag) (mg : Str → Option Value) (base : Heap) (C : Addr) := Cal P w K mg base "state_had" 6 ["desk", "talk"] (spHad C)
theorem inV_opt (o : Option Str) (ss : List Str) : inV (optV o) (ss.map V.str) = match o with | none => false | some s => decide (s ∈ ss) := by
  cases o with
  | some s => exact inV_str s ss
  | none =>
    show (ss.map V.str).any (fun y => eqV y .non) = false
    induction ss with
    | nil => rfl
    | cons a r ih => rw [List.map_cons, List.any_cons, ih]; rfl
theorem done_mem {bk : Bk} {st s : Str} (ok : DOk bk st) (h : s ∈ bk.map (·.1)) : (s ∈ ((ordB bk).filter isDone).map (·.1)) ↔ (rowOf bk s).1 = "done" := by
  constructor
  · intro m
    obtain ⟨r, hr, e⟩ := List.mem_map.mp m
    obtain ⟨h1, h2⟩ := List.mem_filter.mp hr
    have e1 := rowOf_self ok.ond h1
    rw [e, rowOf_ord ok.nd h] at e1
    have e2 : r.2.1 = "done" := of_decide_eq_true h2
    rw [← e1] at e2
    exact e2
  · intro e
    have hm : (s, (rowOf bk s).1, ordT (rowOf bk s).2) ∈ ordB bk := List.mem_map.mpr ⟨s, (srt_perm _).mem_iff.mpr h, rfl⟩
    exact List.mem_map.mpr ⟨_, List.mem_filter.mpr ⟨hm, decide_eq_true e⟩, rfl⟩
end
end D1
end L2
/-! exact -/
namespace L2
namespace D1
open PySem PySem.Spec PyProof.Rows
inductive Leaf : V → Prop
  | non : Leaf .non
  | bl (b : Bool) : Leaf (.bl b)
  | str (x : Str) : Leaf (.str x)
/-- alike data, at most n deep -/
def EqX : Nat → Hp → V → V → Prop
  | 0, _, x, y => Leaf x ∧ y = x
  | n + 1, H, x, y => EqX n H x y ∨ (∃ a b xs ys, x = .ref a ∧ y = .ref b ∧ H a = some (.lst xs) ∧ H b = some (.lst ys) ∧ xs.length ≤ 10000 ∧ Paired (EqX n H) xs ys) ∨
      (∃ a b xs ys, x = .ref a ∧ y = .ref b ∧ H a = some (.tup xs) ∧ H b = some (.tup ys) ∧ xs.length ≤ 10000 ∧ Paired (EqX n H) xs ys) ∨
      (1 ≤ n ∧ ∃ (a b : Addr) (ks ls : List (Key × V)) (ss : List Str), x = .ref a ∧ y = .ref b ∧ H a = some (.dK ks) ∧ H b = some (.dK ls) ∧ ks.map (·.1) = ss.map Sum.inr ∧ ls.map (·.1) = ss.map Sum.inr ∧ ss.Nodup ∧ ss.length ≤ 10000 ∧ Paired (fun p q => EqX n (cut [a] H) p.2 q.2) ks ls)
theorem paired_imp {α β : Type} {R R' : α → β → Prop} (h : ∀ a b, R a b → R' a b) : ∀ {xs : List α} {ys : List β}, Paired R xs ys → Paired R' xs ys
  | _, _, .nil => .nil
  | _, _, .cons a b => .cons (h _ _ a) (paired_imp h b)
theorem paired_at {α β : Type} {R : α → β → Prop} : ∀ {xs : List α} {ys : List β} {i : Nat} {x : α} {y : β}, Paired R xs ys → xs[i]? = some x → ys[i]? = some y → R x y
  | _, _, i, x, y, .nil, h, _ => by simp at h
  | _, _, 0, x, y, .cons a _, h1, h2 => by cases h1; cases h2; exact a
  | _, _, i + 1, x, y, .cons _ b, h1, h2 => paired_at (i := i) b h1 h2
theorem paired_len {α β : Type} {R : α → β → Prop} : ∀ {xs : List α} {ys : List β}, Paired R xs ys → xs.length = ys.length
  | _, _, .nil => rfl
  | _, _, .cons _ b => by rw [List.length_cons, List.length_cons, paired_len b]
theorem EqX.same : ∀ (n : Nat) {H H' : Hp} {x y : V}, Same H H' → EqX n H x y → EqX n H' x y
  | 0, _, _, _, _, _, h => h
  | n + 1, H, H', x, y, s, h => by
    rcases h with h | ⟨a, b, xs, ys, h1, h2, h3, h4, h5, h6⟩ | ⟨a, b, xs, ys, h1, h2, h3, h4, h5, h6⟩ | ⟨h0, a, b, ks, ls, ss, h1, h2, h3, h4, h5, h6, h7, h8, h9⟩
    · exact .inl (EqX.same n s h)
    · exact .inr (.inl ⟨a, b, xs, ys, h1, h2, s _ _ h3, s _ _ h4, h5, paired_imp (fun _ _ => EqX.same n s) h6⟩)
    · exact .inr (.inr (.inl ⟨a, b, xs, ys, h1, h2, s _ _ h3, s _ _ h4, h5, paired_imp (fun _ _ => EqX.same n s) h6⟩))
    · exact .inr (.inr (.inr ⟨h0, a, b, ks, ls, ss, h1, h2, s _ _ h3, s _ _ h4, h5, h6, h7, h8, paired_imp (fun _ _ => EqX.same n (cut_same s)) h9⟩))
theorem EqX.up {H : Hp} {m n : Nat} {x y : V} (h : EqX m H x y) (l : m ≤ n) : EqX n H x y := by
  induction l with
  | refl => exact h
  | step _ ih => exact .inl ih
theorem eqx_str {H : Hp} {n : Nat} (x : Str) : EqX n H (.str x) (.str x) := EqX.up (m := 0) ⟨.str x, rfl⟩ (Nat.zero_le _)
theorem eqx_strs {H : Hp} {n : Nat} : ∀ ss : List Str, Paired (EqX n H) (ss.map V.str) (ss.map V.str)
  | [] => .nil
  | x :: r => .cons (eqx_str x) (eqx_strs r)
abbrev sExact : Stmt := top 41
def spExact (n : Nat) : Sp := fun vs H Q _ => ∃ x y, vs = [x, y] ∧ EqX n H x y ∧ ∀ H', Same H H' → Q (.bl true) H'
def spDeep (n : Nat) : Sp := fun vs H Q _ => ∃ x y, vs = [x, y] ∧ ((∃ a b xs ys, x = .ref a ∧ y = .ref b ∧ H a = some (.lst xs) ∧ H b = some (.lst ys) ∧ xs.length ≤ 10000 ∧ Paired (EqX n H) xs ys) ∨
      (∃ a b xs ys, x = .ref a ∧ y = .ref b ∧ H a = some (.tup xs) ∧ H b = some (.tup ys) ∧ xs.length ≤ 10000 ∧ Paired (EqX n H) xs ys) ∨
      (1 ≤ n ∧ ∃ (a b : Addr) (ks ls : List (Key × V)) (ss : List Str), x = .ref a ∧ y = .ref b ∧ H a = some (.dK ks) ∧ H b = some (.dK ls) ∧ ks.map (·.1) = ss.map Sum.inr ∧ ls.map (·.1) = ss.map Sum.inr ∧ ss.Nodup ∧ ss.length ≤ 10000 ∧ Paired (fun p q => EqX n (cut [a] H) p.2 q.2) ks ls)) ∧ ∀ H', Same H H' → Q (.bl true) H'
theorem fnok_or {P : Program} {w : World} {K : PySem.W.Frag} {mg : Str → Option Value} {base : Heap} {k : Nat} {f : Addr} {fd : FuncData} {ps : List Str} {sp sp1 sp2 : Sp} (h1 : FnOk P w K mg base CX0 k f fd ps sp1) (h2 : FnOk P w K mg base CX0 k f fd ps sp2)
    (h : ∀ vs H Q E, sp vs H Q E → sp1 vs H Q E ∨ sp2 vs H Q E) : FnOk P w K mg base CX0 k f fd ps sp :=
  ⟨fun vs H Q E q => (h vs H Q E q).elim (h1.len vs H Q E) (h2.len vs H Q E), fun A outer s H args us vs Q E hr he hb hv hs => (h _ _ _ _ hs).elim (fun q => h1.run A outer s H args us vs Q E hr he hb hv q) fun q => h2.run A outer s H args us vs Q E hr he hb hv q⟩
theorem val_at {kvs : List (Key × V)} (nd : (kvs.map (·.1)).Nodup) : ∀ {i : Nat} {k : Key} {v : V}, kvs[i]? = some (k, v) → valV kvs k = some v := by
  induction kvs with
  | nil => intro i k v e; simp at e
  | cons p r ih =>
    intro i k v e
    have nd' := List.nodup_cons.mp nd
    cases i with
    | zero => cases e; exact valV_pos (p := (k, v)) rfl
    | succ i =>
      rw [valV_neg fun z => nd'.1 (List.mem_map.mpr ⟨(k, v), List.mem_of_getElem? e, z.symm⟩)]
      exact ih nd'.2 e
theorem inr_nd' {l : List Str} (h : l.Nodup) : (l.map (Sum.inr : Str → Key)).Nodup := by
  induction l with
  | nil => exact List.nodup_nil
  | cons a r ih =>
    have h' := List.nodup_cons.mp h
    refine List.nodup_cons.mpr ⟨fun z => ?_, ih h'.2⟩
    obtain ⟨b, hb, e⟩ := List.mem_map.mp z
    exact h'.1 (by rw [← Sum.inr.inj e]; exact hb)
theorem walk_zipT {K : PySem.W.Frag} {a b : Addr} {xs ys : List V} {n : Nat} (hn : n = min xs.length ys.length) : Walk (RZ.ItzT K a b) n (fun H => SqT K H a xs ∧ SqT K H b ys) (YPair (fun i => xs[i]?) (fun i => ys[i]?)) := by
  subst hn
  refine ⟨fun i H hi q => ?_, fun H q => ⟨xs, ys, q.1, q.2, by omega⟩, fun i H v H' hi q y => ?_⟩
  · have h1 : i < xs.length := by omega
    have h2 : i < ys.length := by omega
    exact ⟨xs, ys, xs[i], ys[i], q.1, q.2, by simp [h1], by simp [h2]⟩
  · obtain ⟨T, x, z, h1, h2, h3, h4, h5⟩ := y
    exact ⟨T, x, z, h1, h2, h3, h4 xs q.1, h5 ys q.2⟩
theorem kitTwo {K : PySem.W.Frag} {t : String} {b1 b2 : Bool} (h1 : kitB t "list" = some b1) (h2 : kitB t "tuple" = some b2) : PySem.W.kitAny K (.type t) [.type "list", .type "tuple"] = some (b1 || b2) := by
  refine kitAny_cons (kit_ty h1) (fun e => ?_) (fun e => by rw [e]; rfl)
  rw [e]
  exact kitAny_cons (kit_ty h2) (fun e2 => by rw [e2]; exact kitAny_nil) (fun e2 => by rw [e2]; rfl)
theorem leaf_ty {x : V} (lx : Leaf x) : ∃ (t : String) (b : Bool), (∀ (K : PySem.W.Frag) (H : Hp), TyX K H x (.type t)) ∧ kitB t "list" = some false ∧ kitB t "tuple" = some false ∧ kitB t "dict" = some false ∧ kitB t "bool" = some b := by
  cases lx with
  | non => exact ⟨"NoneType", _, fun _ _ => .base .non, by decide +kernel, by decide +kernel, by decide +kernel, (by decide +kernel : kitB "NoneType" "bool" = some false)⟩
  | bl v => exact ⟨"bool", _, fun _ _ => .base (.bl v), by decide +kernel, by decide +kernel, by decide +kernel, (by decide +kernel : kitB "bool" "bool" = some true)⟩
  | str v => exact ⟨"str", _, fun _ _ => .base (.str v), by decide +kernel, by decide +kernel, by decide +kernel, (by decide +kernel : kitB "str" "bool" = some false)⟩
section
variable {P : Program} {w : World} {K : PySem.W.Frag} {mg : Str → Option Value} {base : Heap}
theorem scEx : FnScope ["_law_mine", "_law_theirs", "_law_alike", "_law_a", "_law_b", "_law_key"] ["_law_mine", "_law_theirs"] (defScope sExact) := ⟨rfl, rfl, rfl, by decide +kernel, rfl, by decide +kernel, by decide +kernel⟩
theorem ok_exact {f : Addr} {fd : FuncData} (F : Fun K "_law_exact" "_law_exact" sExact f fd) (T : Free3 mg) (gE : mg "_law_exact" = some (.ref f)) (bE : Binds K fd ["_law_mine", "_law_theirs"] []) : ∀ n : Nat, FnOk P w K mg base CX0 (n + 1) f fd ["_law_mine", "_law_theirs"] (spExact n) := by
  intro n
  induction n with
  | zero =>
    refine F.ok scEx (fun vs H Q E h => ?_) (fun cdv A outer s H vs Q E hr h => ?_)
    · obtain ⟨x, y, rfl, _⟩ := h; rfl
    · obtain ⟨x, y, rfl, ⟨lx, e⟩, k⟩ := h
      have e := e.symm
      subst e
      have hu := hu_of hr
      refine ⟨_, pss_cons (ps_if (pt_val (pe_callB call_isiT (by rfl) T.isi (by decide +kernel) (pa_cons (pv 0) (pa_cons (pe_tup (pa_cons (pe_bltn (v := .ty "list") rfl T.list (by decide +kernel) rfl) (pa_cons (pe_bltn (v := .ty "tuple") rfl T.tuple (by decide +kernel) rfl) pa_nil))) pa_nil)))) pss_never pss_nil)
        (pss_cons (ps_if (pt_val (pe_callB call_isi (by rfl) T.isi (by decide +kernel) (pa_cons (pv 0) (pa_cons (pe_bltn (v := .ty "dict") rfl T.dict (by decide +kernel) rfl) pa_nil)))) pss_never pss_nil)
        (pss_one (ps_ret (pe_and (pe_cmpR op_eq (pe_callB call_isi (by rfl) T.isi (by decide +kernel) (pa_cons (pv 0) (pa_cons (pe_bltn (v := .ty "bool") rfl T.bool (by decide +kernel) rfl) pa_nil))) (pe_callB call_isi (by rfl) T.isi (by decide +kernel) (pa_cons (pv 1) (pa_cons (pe_bltn (v := .ty "bool") rfl T.bool (by decide +kernel) rfl) pa_nil))) (nomark _)) (pe_one (pe_cmpR op_eq (pv 0) (pv 1) (nomark _))))))), ?_⟩
      obtain ⟨t, b, ty, e1, e2, e3, e4⟩ := leaf_ty lx
      refine ⟨_, rfl, by show 2 ≤ sizeLine; decide, fun T1 hT1 => ?_⟩
      refine ⟨x, T1, [.ty "list", .ty "tuple"], .type t, [.type "list", .type "tuple"], false, rfl, upd_same, .cons (.ty _) (.cons (.ty _) .nil), ty _ _, kitTwo e1 e2, _, rfl, iteF ?_⟩
      refine ⟨_, rfl, _, .ty "dict", .type t, .type "dict", false, rfl, .ty _, ty _ _, kit_ty e3, _, rfl, iteF ?_⟩
      refine ⟨_, rfl, _, .ty "bool", .type t, .type "bool", b, rfl, .ty _, ty _ _, kit_ty e4, _, rfl, _, .ty "bool", .type t, .type "bool", b, rfl, .ty _, ty _ _, kit_ty e4, rfl, _, rfl, ?_⟩
      rw [decide_eq_true rfl]
      refine iteT ⟨_, rfl, _, rfl, by cases lx <;> rfl, ?_⟩
      rw [decide_eq_true rfl]
      exact k _ (Same.new hT1)
  | succ n ih =>
    have CE : Cal P w K mg base "_law_exact" (n + 1) ["_law_mine", "_law_theirs"] (spExact n) := Cal.of gE F.kp ih bE
    have deep : FnOk P w K mg base CX0 (n + 2) f fd ["_law_mine", "_law_theirs"] (spDeep n) := by
     refine F.ok scEx (fun vs H Q E h => ?_) (fun cdv A outer s H vs Q E hr h => ?_)
     · obtain ⟨x, y, rfl, _⟩ := h; rfl
     · obtain ⟨x, y, rfl, hx, k⟩ := h
       have hu := hu_of hr
       refine ⟨_, pss_cons (ps_if (pt_val (pe_callB call_isiT (by rfl) T.isi (by decide +kernel) (pa_cons (pv 0) (pa_cons (pe_tup (pa_cons (pe_bltn (v := .ty "list") rfl T.list (by decide +kernel) rfl) (pa_cons (pe_bltn (v := .ty "tuple") rfl T.tuple (by decide +kernel) rfl) pa_nil))) pa_nil)))) (pss_cons (ps_set (i := 2) scEx.nd rfl (Or.inl rfl) (pe_and (pe_cmpR op_eq (pe_callB call_isi (by rfl) T.isi (by decide +kernel) (pa_cons (pv 1) (pa_cons (pe_bltn (v := .ty "list") rfl T.list (by decide +kernel) rfl) pa_nil))) (pe_callB call_isi (by rfl) T.isi (by decide +kernel) (pa_cons (pv 0) (pa_cons (pe_bltn (v := .ty "list") rfl T.list (by decide +kernel) rfl) pa_nil))) (nomark _)) (pe_one (pe_cmpR op_eq (pe_callB call_isi (by rfl) T.isi (by decide +kernel) (pa_cons (pv 1) (pa_cons (pe_bltn (v := .ty "tuple") rfl T.tuple (by decide +kernel) rfl) pa_nil))) (pe_callB call_isi (by rfl) T.isi (by decide +kernel) (pa_cons (pv 0) (pa_cons (pe_bltn (v := .ty "tuple") rfl T.tuple (by decide +kernel) rfl) pa_nil))) (nomark _)))))
           (pss_one (ps_ret (pe_and (pv 2) (pe_and (pe_cmpR op_eq (pe_callB call_len_seq (by rfl) T.len PySem.boot_len (pa_cons (pv 0) pa_nil)) (pe_callB call_len_seq (by rfl) T.len PySem.boot_len (pa_cons (pv 1) pa_nil)) (nomark _)) (pe_one (pe_callB (cr_all rfl) (by rfl) T.all (by decide +kernel) (pa_cons (pe_lc (own := [("_law_a", 3), ("_law_b", 4)]) (g := gTup K 2 (gCons (gName 3) (gCons (gName 4) gNil))) (tt := tYes) (te := tCall (spExact n) [] E0 (tCons (tVar 3) (tCons (tVar 4) tNil))) rfl scEx.nd (RZ.pi_zipA (by rfl) T.zip (pa_cons (pv 0) (pa_cons (pv 1) pa_nil)))
             (blkOk_by (N := ["_law_mine", "_law_theirs", "_law_alike", "_law_a", "_law_b", "_law_key"]) (sc := defScope sExact) (by decide +kernel)) (fun _ _ _ _ _ => pg_tup rfl (pgs_cons (pg_name (i := 3) scEx.nd rfl (Or.inl rfl)) (pgs_cons (pg_name (i := 4) scEx.nd rfl (Or.inl rfl)) pgs_nil))) (fun _ _ _ _ _ => pts_nil)
             (fun _ _ _ _ _ => pe_cal CE (hr.mono (by omega)) rfl (pa_cons (pv 3) (pa_cons (pv 4) pa_nil)))) pa_nil)))))))) pss_nil)
         (pss_cons (ps_if (pt_val (pe_callB call_isi (by rfl) T.isi (by decide +kernel) (pa_cons (pv 0) (pa_cons (pe_bltn (v := .ty "dict") rfl T.dict (by decide +kernel) rfl) pa_nil)))) (pss_cons (ps_set (i := 2) scEx.nd rfl (Or.inl rfl) (pe_and (pe_callB call_isi (by rfl) T.isi (by decide +kernel) (pa_cons (pv 1) (pa_cons (pe_bltn (v := .ty "dict") rfl T.dict (by decide +kernel) rfl) pa_nil))) (pe_one (pe_cal CE (hr.mono (by omega)) rfl (pa_cons (pe_callTy (call_listD rfl) (by rfl) T.list (by decide +kernel) (pa_cons (pv 0) pa_nil)) (pa_cons (pe_callTy (call_listD rfl) (by rfl) T.list (by decide +kernel) (pa_cons (pv 1) pa_nil)) pa_nil))))))
           (pss_one (ps_ret (pe_and (pv 2) (pe_one (pe_callB (cr_all rfl) (by rfl) T.all (by decide +kernel) (pa_cons (pe_lock (pe_lc (own := [("_law_key", 5)]) (g := gName 5) (tt := tYes) (te := tCall (spExact n) [] E0 (tCons (tDGet (tVar 0) (tVar 5)) (tCons (tDGet (tVar 1) (tVar 5)) tNil))) rfl scEx.nd (pi_keys (pv 0))
             (blkOk_by (N := ["_law_mine", "_law_theirs", "_law_alike", "_law_a", "_law_b", "_law_key"]) (sc := defScope sExact) (by decide +kernel)) (fun _ _ _ _ _ => pg_name (i := 5) scEx.nd rfl (Or.inl rfl)) (fun _ _ _ _ _ => pts_nil)
             (fun _ _ _ _ _ => pe_cal CE (hr.mono (by omega)) rfl (pa_cons (pe_dget hu (pv 0) (pv 5) (fun _ _ => rfl)) (pa_cons (pe_dget hu (pv 1) (pv 5) (fun _ _ => rfl)) pa_nil))))) pa_nil))))))) pss_nil)
         pss_never), ?_⟩
       rcases hx with ⟨a, b, xs, ys, rfl, rfl, ha, hb, l0, hp⟩ | ⟨a, b, xs, ys, rfl, rfl, ha, hb, l0, hp⟩ | ⟨h1n, a, b, ks, ls, ss, rfl, rfl, ha, hb, e1, e2, nd, l0, hp⟩
       · refine ⟨_, rfl, by show 2 ≤ sizeLine; decide, fun T1 hT1 => ?_⟩
         have ha1 := Same.new (o := .tup [.ty "list", .ty "tuple"]) hT1 _ _ ha
         have hb1 := Same.new (o := .tup [.ty "list", .ty "tuple"]) hT1 _ _ hb
         have hp1 := paired_imp (fun _ _ => EqX.same n (Same.new (o := .tup [.ty "list", .ty "tuple"]) hT1)) hp
         have s1 := Same.new (o := .tup [.ty "list", .ty "tuple"]) hT1
         refine ⟨.ref a, T1, [.ty "list", .ty "tuple"], .type "list", [.type "list", .type "tuple"], true, rfl, upd_same, .cons (.ty _) (.cons (.ty _) .nil), .base (.lst (by assumption)), kitTwo (b1 := true) (b2 := false) (by decide +kernel) (by decide +kernel), _, rfl, iteT ?_⟩
         generalize L2.upd H T1 (.tup [.ty "list", .ty "tuple"]) = H1 at ha1 hb1 hp1 s1
         refine ⟨_, rfl, _, .ty "list", .type "list", .type "list", true, rfl, .ty _, .base (.lst (by assumption)), kit_ty (by decide +kernel), _, rfl, _, .ty "list", .type "list", .type "list", true, rfl, .ty _, .base (.lst (by assumption)), kit_ty (by decide +kernel), rfl, _, rfl, ?_⟩
         refine iteT ⟨_, rfl, _, .ty "tuple", .type "list", .type "tuple", false, rfl, .ty _, .base (.lst (by assumption)), kit_ty (by decide +kernel), _, rfl, _, .ty "tuple", .type "list", .type "tuple", false, rfl, .ty _, .base (.lst (by assumption)), kit_ty (by decide +kernel), rfl, ?_⟩
         refine ⟨_, rfl, _, rfl, iteT ⟨_, rfl, a, xs, rfl, .inl (SqL.of ha1), _, rfl, b, ys, rfl, .inl (SqL.of hb1), rfl, _, rfl, ?_⟩⟩
         have le := paired_len hp
         rw [le, decide_eq_true rfl]
         refine iteT ⟨_, rfl, _, rfl, a, b, xs, ys, rfl, .inl ⟨SqL.of ha1, SqL.of hb1, fun D hD => ?_⟩⟩
         refine lc_it (walk_zip (K := K) (a := a) (b := b) (xs := xs) (ys := ys) (n := xs.length) (by omega)) (fun i H' => Same H1 H' ∧ H' D = some (.lst ((List.replicate i true).map V.bl))) ⟨Same.new hD, upd_same⟩ (fun i H' _ z => ⟨SqL.of (z.1 _ _ ha1), SqL.of (z.1 _ _ hb1)⟩) ?_ ?_
         · rintro i v H2 H3 hi ⟨sm, hl⟩ ⟨T2, x, y, rfl, hT2, rfl, ex, ey⟩
           have exy := paired_at hp1 ex ey
           have nDT : D ≠ T2 := ne_of_none hl hT2
           refine ⟨T2, _, rfl, SqT.of upd_same, rfl, _, _, rfl, _, _, rfl, rfl, rfl, ?_⟩
           dsimp only [tYes]
           rw [if_pos rfl]
           refine ⟨_, rfl, _, rfl, x, y, rfl, EqX.same n (fun c u e => Same.new hT2 _ _ (sm _ _ e)) exy, fun H4 s4 => ?_⟩
           refine ⟨_, s4 _ _ (by rw [upd_ne nDT]; exact hl), by rw [List.length_map, List.length_replicate, sizeLine_eq]; omega, fun c u e => ?_, by rw [upd_same, repl_snoc]⟩
           rw [upd_ne (ne_of_none e hD)]; exact s4 _ _ (Same.new hT2 _ _ (sm _ _ e))
         · rintro H2 ⟨sm, hl⟩
           refine ⟨D, _, rfl, SqL.of hl, ?_⟩
           rw [all_true]
           exact k H2 (Same.trans s1 sm)
       · refine ⟨_, rfl, by show 2 ≤ sizeLine; decide, fun T1 hT1 => ?_⟩
         have ha1 := Same.new (o := .tup [.ty "list", .ty "tuple"]) hT1 _ _ ha
         have hb1 := Same.new (o := .tup [.ty "list", .ty "tuple"]) hT1 _ _ hb
         have hp1 := paired_imp (fun _ _ => EqX.same n (Same.new (o := .tup [.ty "list", .ty "tuple"]) hT1)) hp
         have s1 := Same.new (o := .tup [.ty "list", .ty "tuple"]) hT1
         refine ⟨.ref a, T1, [.ty "list", .ty "tuple"], .type "tuple", [.type "list", .type "tuple"], true, rfl, upd_same, .cons (.ty _) (.cons (.ty _) .nil), .base (.tup (by assumption)), kitTwo (b1 := false) (b2 := true) (by decide +kernel) (by decide +kernel), _, rfl, iteT ?_⟩
         generalize L2.upd H T1 (.tup [.ty "list", .ty "tuple"]) = H1 at ha1 hb1 hp1 s1
         refine ⟨_, rfl, _, .ty "list", .type "tuple", .type "list", false, rfl, .ty _, .base (.tup (by assumption)), kit_ty (by decide +kernel), _, rfl, _, .ty "list", .type "tuple", .type "list", false, rfl, .ty _, .base (.tup (by assumption)), kit_ty (by decide +kernel), rfl, _, rfl, ?_⟩
         refine iteT ⟨_, rfl, _, .ty "tuple", .type "tuple", .type "tuple", true, rfl, .ty _, .base (.tup (by assumption)), kit_ty (by decide +kernel), _, rfl, _, .ty "tuple", .type "tuple", .type "tuple", true, rfl, .ty _, .base (.tup (by assumption)), kit_ty (by decide +kernel), rfl, ?_⟩
         refine ⟨_, rfl, _, rfl, iteT ⟨_, rfl, a, xs, rfl, .inr (SqT.of ha1), _, rfl, b, ys, rfl, .inr (SqT.of hb1), rfl, _, rfl, ?_⟩⟩
         have le := paired_len hp
         rw [le, decide_eq_true rfl]
         refine iteT ⟨_, rfl, _, rfl, a, b, xs, ys, rfl, .inr ⟨SqT.of ha1, SqT.of hb1, fun D hD => ?_⟩⟩
         refine lc_it (walk_zipT (K := K) (a := a) (b := b) (xs := xs) (ys := ys) (n := xs.length) (by omega)) (fun i H' => Same H1 H' ∧ H' D = some (.lst ((List.replicate i true).map V.bl))) ⟨Same.new hD, upd_same⟩ (fun i H' _ z => ⟨SqT.of (z.1 _ _ ha1), SqT.of (z.1 _ _ hb1)⟩) ?_ ?_
         · rintro i v H2 H3 hi ⟨sm, hl⟩ ⟨T2, x, y, rfl, hT2, rfl, ex, ey⟩
           have exy := paired_at hp1 ex ey
           have nDT : D ≠ T2 := ne_of_none hl hT2
           refine ⟨T2, _, rfl, SqT.of upd_same, rfl, _, _, rfl, _, _, rfl, rfl, rfl, ?_⟩
           dsimp only [tYes]
           rw [if_pos rfl]
           refine ⟨_, rfl, _, rfl, x, y, rfl, EqX.same n (fun c u e => Same.new hT2 _ _ (sm _ _ e)) exy, fun H4 s4 => ?_⟩
           refine ⟨_, s4 _ _ (by rw [upd_ne nDT]; exact hl), by rw [List.length_map, List.length_replicate, sizeLine_eq]; omega, fun c u e => ?_, by rw [upd_same, repl_snoc]⟩
           rw [upd_ne (ne_of_none e hD)]; exact s4 _ _ (Same.new hT2 _ _ (sm _ _ e))
         · rintro H2 ⟨sm, hl⟩
           refine ⟨D, _, rfl, SqL.of hl, ?_⟩
           rw [all_true]
           exact k H2 (Same.trans s1 sm)
       · refine ⟨_, rfl, by show 2 ≤ sizeLine; decide, fun T1 hT1 => ?_⟩
         have s1 := Same.new (o := .tup [.ty "list", .ty "tuple"]) hT1
         have ha1 := s1 _ _ ha
         have hb1 := s1 _ _ hb
         have hp1 := paired_imp (fun _ _ => EqX.same n (cut_same s1)) hp
         refine ⟨.ref a, T1, [.ty "list", .ty "tuple"], .type "dict", [.type "list", .type "tuple"], false, rfl, upd_same, .cons (.ty _) (.cons (.ty _) .nil), .base (.dK ha1), kitTwo (b1 := false) (b2 := false) (by decide +kernel) (by decide +kernel), _, rfl, iteF ?_⟩
         generalize L2.upd H T1 (.tup [.ty "list", .ty "tuple"]) = H1 at ha1 hb1 hp1 s1
         refine ⟨_, rfl, _, .ty "dict", .type "dict", .type "dict", true, rfl, .ty _, .base (.dK ha1), kit_ty (by decide +kernel), _, rfl, iteT ?_⟩
         refine ⟨_, rfl, _, .ty "dict", .type "dict", .type "dict", true, rfl, .ty _, .base (.dK hb1), kit_ty (by decide +kernel), _, rfl, iteT ?_⟩
         have eks : ks.map (fun kv => kV kv.1) = ss.map V.str := by
           have : ks.map (fun kv => kV kv.1) = (ks.map (·.1)).map kV := by rw [List.map_map]; rfl
           rw [this, e1, List.map_map]; rfl
         have els : ls.map (fun kv => kV kv.1) = ss.map V.str := by
           have : ls.map (fun kv => kV kv.1) = (ls.map (·.1)).map kV := by rw [List.map_map]; rfl
           rw [this, e2, List.map_map]; rfl
         refine ⟨_, rfl, a, ks, rfl, .inl ha1, fun M1 hM1 => ⟨_, rfl, b, ls, rfl, .inl (Same.new hM1 _ _ hb1), fun M2 hM2 => ?_⟩⟩
         rw [eks, els] at *
         have nM : M1 ≠ M2 := fun e => by rw [← e, upd_same] at hM2; cases hM2
         refine ⟨_, _, rfl, ?_, fun H2 s2 => ?_⟩
         · refine EqX.up (m := 1) (.inr (.inl ⟨M1, M2, ss.map V.str, ss.map V.str, rfl, rfl, by rw [upd_ne nM, upd_same], by rw [upd_same], by rw [List.length_map]; exact l0, ?_⟩)) h1n
           exact paired_imp (fun _ _ z => z) (eqx_strs (n := 0) ss)
         have s12 : Same H1 H2 := fun c u e => s2 _ _ (Same.new hM2 _ _ (Same.new hM1 _ _ e))
         have ha2 := s12 _ _ ha1
         have hb2 := s12 _ _ hb1
         have hp2 := paired_imp (fun _ _ => EqX.same n (cut_same s12)) hp1
         refine ⟨_, rfl, _, rfl, iteT ⟨a, _, ha2, trivial, fun od => ?_⟩⟩
         refine ⟨_, rfl, a, od, rfl, .inl ⟨ks, upd_same, fun D hD => ?_⟩⟩
         have nD : a ≠ D := fun e => by rw [← e, upd_same] at hD; cases hD
         have sL : Same (cut [a] H2) (L2.upd H2 a (.frz od (.dK ks))) := fun c u e => by
           obtain ⟨nc, e⟩ := cut_some e
           rw [upd_ne (by simpa using nc)]; exact e
         have le := paired_len hp
         have lks : ks.length = ss.length := by rw [← List.length_map (·.1), e1, List.length_map]
         refine lc_it (walk_keys (d := a) (o := od) (kvs := ks)) (fun i H' => Same (L2.upd H2 a (.frz od (.dK ks))) H' ∧ H' D = some (.lst ((List.replicate i true).map V.bl))) ⟨Same.new hD, upd_same⟩ (fun i H' _ z => z.1 _ _ upd_same) ?_ ?_
         · rintro i v H3 H4 hi ⟨sm, hl⟩ ⟨rfl, kk, v0, hkv, rfl⟩
           have hli : i < ls.length := by omega
           have hlv := List.getElem?_eq_getElem hli
           have exy := paired_at hp2 hkv hlv
           have ek : (ks.map (·.1))[i]? = some kk := by rw [List.getElem?_map, hkv]; rfl
           have el : (ls.map (·.1))[i]? = some (ls[i].1) := by rw [List.getElem?_map, hlv]; rfl
           rw [e1] at ek
           rw [e2, ek] at el
           have el : kk = ls[i].1 := Option.some.inj el
           have v1 : valV ks kk = some v0 := val_at (by rw [e1]; exact inr_nd' nd) hkv
           have v2 : valV ls kk = some ls[i].2 := val_at (by rw [e2]; exact inr_nd' nd) (by rw [hlv, el])
           have rb : Rd H4 b (.dK ls) := by
             by_cases c : b = a
             · subst c
               rw [ha2] at hb2
               have : ks = ls := by injection hb2 with z; injection z
               rw [← this]
               exact .inr ⟨od, sm _ _ upd_same⟩
             · exact .inl (sm _ _ (by rw [upd_ne c]; exact hb2))
           refine ⟨rfl, ?_⟩
           dsimp only [tYes]
           rw [if_pos rfl]
           refine ⟨_, rfl, _, rfl, a, v0, rfl, .inl ⟨ks, kk, .inr ⟨od, sm _ _ upd_same⟩, rfl, v1.symm⟩, _, rfl, _, rfl, b, _, rfl, .inl ⟨ls, kk, rb, rfl, v2.symm⟩, _, _, rfl, EqX.same n (fun c u e => sm _ _ (sL _ _ e)) exy, fun H5 s5 => ?_⟩
           refine ⟨_, s5 _ _ hl, by rw [List.length_map, List.length_replicate, sizeLine_eq]; omega, fun c u e => ?_, by rw [upd_same, repl_snoc]⟩
           rw [upd_ne (ne_of_none e hD)]; exact s5 _ _ (sm _ _ e)
         · rintro H3 ⟨sm, hl⟩
           refine ⟨sm _ _ upd_same, D, _, rfl, SqL.of (by rw [upd_ne nD.symm]; exact hl), ?_⟩
           rw [all_true]
           exact k _ (Same.trans (Same.trans s1 s12) (Same.unlock ha2 sm))
    exact fnok_or (ih.mono (by omega)) deep fun vs H Q E ⟨x, y, e, h, k⟩ => by
      rcases h with h | h
      · exact .inl ⟨x, y, e, h, k⟩
      · exact .inr ⟨x, y, e, h, k⟩
end
end D1
end L2
/-! == of alike dicts; == of desks; a desk of a world -/
namespace L2
namespace D1
open PySem PySem.Spec PyProof.Rows
theorem tree_up {prog : Program} {w : World} {s : Shared} {n : Nat} {v y : Value} {b : Bool} (t : PySem.W.EqTree prog w s n v y b) : PySem.W.EqTree prog w s (n + 1) v y b := by
  induction t with
  | leaf h => exact .leaf fun A hu => h A (by omega)
  | same => exact .same
  | lists h1 h2 h3 h4 _ ih => exact .lists h1 h2 h3 h4 ih
  | listsLen h1 h2 h3 h4 => exact .listsLen h1 h2 h3 h4
  | tuples h1 h2 h3 _ ih => exact .tuples h1 h2 h3 ih
  | dicts h1 h2 h3 h4 h5 _ ih => exact .dicts h1 h2 h3 h4 h5 ih
/-- the values of two dicts with the same keys, by their keys -/
theorem kv_tree {X : Cx} {s : Shared} {n : Nat} {R : V → V → Prop} {ks ls : List (Key × V)} {va vb : List (Key × Value)} (ra : KV ks va) (rb : KV ls vb) (nd : (ls.map (·.1)).Nodup) (e : ks.map (·.1) = ls.map (·.1))
    (h : Paired (fun p q => R p.2 q.2) ks ls) (f : ∀ x y u v, R x y → RelV x u → RelV y v → PySem.W.EqTree X.prog X.w s n u v true) : ∀ k v y, (k, v) ∈ va → valueAt vb k = some y → PySem.W.EqTree X.prog X.w s n v y true := by
  intro k v y hm hv
  obtain ⟨i, hi, e1⟩ := List.getElem_of_mem hm
  have hva : va[i]? = some (k, v) := by rw [List.getElem?_eq_getElem hi, e1]
  have lk : ks.length = va.length := paired_len ra
  have ll : ks.length = ls.length := paired_len h
  have h1 := List.getElem?_eq_getElem (l := ks) (i := i) (by omega)
  have h2 := List.getElem?_eq_getElem (l := ls) (i := i) (by omega)
  have a1 := paired_at (show Paired _ ks va from ra) h1 hva
  have a2 := paired_at h h1 h2
  have ek : (ks.map (·.1))[i]? = some ks[i].1 := by rw [List.getElem?_map, h1]; rfl
  rw [e, List.getElem?_map, h2] at ek
  have ek : ls[i].1 = ks[i].1 := Option.some.inj ek
  have ek2 : ls[i].1 = k := by rw [ek]; exact a1.1
  have v2 : valV ls k = some ls[i].2 := val_at nd (by rw [h2, ← ek2])
  have r := rb.val k
  rw [v2] at r
  obtain ⟨w', ew, rw'⟩ := RelO.some_of r
  rw [hv] at ew
  cases ew
  exact f _ _ _ _ a2 a1.2 rw'
theorem all_some {ls : List (Key × V)} {va vb : List (Key × Value)} (rb : KV ls vb) (h : ∀ p ∈ va, p.1 ∈ ls.map (·.1)) : (va.all fun p => (valueAt vb p.1).isSome && true) = true := by
  refine List.all_eq_true.mpr fun p hp => ?_
  rw [Bool.and_true, ← RelO.isSome_eq (rb.val p.1), ← valV_any]
  obtain ⟨q, hq, e⟩ := List.mem_map.mp (h p hp)
  exact List.any_eq_true.mpr ⟨q, hq, decide_eq_true e⟩
theorem eqx_tree {X : Cx} {pins : List (Addr × Obj)} {σ : L2.St} {s : Shared} : ∀ (n : Nat) {H : Hp} {x y : V} {u v : Value}, Inv X pins σ H s → EqX n H x y → RelV x u → RelV y v → PySem.W.EqTree X.prog X.w s n u v true
  | 0, H, x, y, u, v, I, h, ru, rv => by
    obtain ⟨lx, e⟩ := h
    subst e
    exact .leaf fun A _ => eqAt_same ru rv (by cases lx <;> rfl)
  | n + 1, H, x, y, u, v, I, h, ru, rv => by
    rcases h with h | ⟨a, b, xs, ys, rfl, rfl, h3, h4, h5, h6⟩ | ⟨a, b, xs, ys, rfl, rfl, h3, h4, h5, h6⟩ | ⟨h0, a, b, ks, ls, ss, rfl, rfl, h3, h4, h5, h6, h7, h8, h9⟩
    · exact tree_up (eqx_tree n I h ru rv)
    · cases ru; cases rv
      by_cases hab : a = b
      · subst hab; exact .same
      obtain ⟨its, r, pl, _⟩ := I.list (SqL.of h3)
      obtain ⟨its2, r2, pl2, _⟩ := I.list (SqL.of h4)
      have l1 := r.length
      have l2 := r2.length
      have l3 := paired_len h6
      have t := PySem.W.EqTree.lists (prog := X.prog) (w := X.w) (n := n) (e := fun _ => true) hab pl.isList pl2.isList (by simp only [List.size_toArray]; omega) fun j h1 h2 => by
        simp only [List.size_toArray] at h1 h2
        have e1 : xs[j]? = some xs[j] := List.getElem?_eq_getElem (by omega)
        have e2 : ys[j]? = some ys[j] := List.getElem?_eq_getElem (by omega)
        obtain ⟨u1, q1, p1⟩ := r.get e1
        obtain ⟨u2, q2, p2⟩ := r2.get e2
        have q1 : its.toArray[j] = u1 := by
          have : its[j]? = some its[j] := List.getElem?_eq_getElem h1
          rw [this] at q1; simpa using Option.some.inj q1
        have q2 : its2.toArray[j] = u2 := by
          have : its2[j]? = some its2[j] := List.getElem?_eq_getElem h2
          rw [this] at q2; simpa using Option.some.inj q2
        rw [q1, q2]
        exact eqx_tree n I (paired_at h6 e1 e2) p1 p2
      have e : (List.range its.toArray.size).all (fun _ => true) = true := by simp
      rwa [e] at t
    · cases ru; cases rv
      by_cases hab : a = b
      · subst hab; exact .same
      obtain ⟨its, r, pl, _⟩ := I.tuple (SqT.of h3)
      obtain ⟨its2, r2, pl2, _⟩ := I.tuple (SqT.of h4)
      have l1 := r.length
      have l2 := r2.length
      have l3 := paired_len h6
      have t := PySem.W.EqTree.tuples (prog := X.prog) (w := X.w) (n := n) (e := fun _ => true) hab pl pl2 fun j h1 h2 => by
        simp only [List.size_toArray] at h1 h2
        have e1 : xs[j]? = some xs[j] := List.getElem?_eq_getElem (by omega)
        have e2 : ys[j]? = some ys[j] := List.getElem?_eq_getElem (by omega)
        obtain ⟨u1, q1, p1⟩ := r.get e1
        obtain ⟨u2, q2, p2⟩ := r2.get e2
        have q1 : its.toArray[j] = u1 := by
          have : its[j]? = some its[j] := List.getElem?_eq_getElem h1
          rw [this] at q1; simpa using Option.some.inj q1
        have q2 : its2.toArray[j] = u2 := by
          have : its2[j]? = some its2[j] := List.getElem?_eq_getElem h2
          rw [this] at q2; simpa using Option.some.inj q2
        rw [q1, q2]
        exact eqx_tree n I (paired_at h6 e1 e2) p1 p2
      have e : ((List.range (min its.toArray.size its2.toArray.size)).all (fun _ => true) && its.toArray.size == its2.toArray.size) = true := by
        simp only [List.size_toArray]
        simp; omega
      rwa [e] at t
    · cases ru; cases rv
      by_cases hab : a = b
      · subst hab; exact .same
      obtain ⟨_, ya, va, ra, da⟩ := (show ObjOk X.prog X.w H s.heap a (.dK ks) from I.hok a _ h3)
      obtain ⟨_, yb, vb, rb, db⟩ := (show ObjOk X.prog X.w H s.heap b (.dK ls) from I.hok b _ h4)
      have ndl : (ls.map (·.1)).Nodup := by rw [h6]; exact inr_nd' h7
      have ekl : ks.map (·.1) = ls.map (·.1) := h5.trans h6.symm
      have t := PySem.W.EqTree.dicts (knd := mixKind X.prog X.w) (n := n) (e := fun _ => true) hab ya yb da db (kv_tree ra rb ndl ekl h9 fun x y u v z r1 r2 => eqx_tree n I (EqX.same n cut_le z) r1 r2)
      have l1 : va.length = vb.length := by rw [← paired_len ra, ← paired_len rb]; exact paired_len h9
      have e : (va.length == vb.length && va.all fun p => (valueAt vb p.1).isSome && true) = true := by
        rw [all_some rb, l1]
        · simp
        · intro p hp
          rw [← ekl, KV.keys ra]
          exact List.mem_map_of_mem hp
      rwa [e] at t
/-- == of two alike dicts -/
theorem op_eqDX {X : Cx} (n : Nat) (hu : X.A.units + (n + 1) < cLine) : OpR X (compareOp .Eq) (fun x y H Q => ∃ (a b : Addr) (ks ls : List (Key × V)) (ss : List Str), x = .ref a ∧ y = .ref b ∧ Rd H a (.dK ks) ∧ Rd H b (.dK ls) ∧ ks.map (·.1) = ss.map Sum.inr ∧ ls.map (·.1) = ss.map Sum.inr ∧ ss.Nodup ∧ Paired (fun p q => EqX n H p.2 q.2) ks ls ∧ Q (.bl true) H) := by
  intro pins s σ H x y v u Q I rx ry h
  obtain ⟨a, b, ks, ls, ss, rfl, rfl, h3, h4, h5, h6, h7, h9, q⟩ := h
  obtain rfl : v = Value.ref a := rx
  obtain rfl : u = Value.ref b := ry
  obtain ⟨_, ya, va, ra, da⟩ := dk_rd I.hok h3
  obtain ⟨_, yb, vb, rb, db⟩ := dk_rd I.hok h4
  have ndl : (ls.map (·.1)).Nodup := by rw [h6]; exact inr_nd' h7
  have ekl : ks.map (·.1) = ls.map (·.1) := h5.trans h6.symm
  have l1 : va.length = vb.length := by rw [← paired_len ra, ← paired_len rb]; exact paired_len h9
  have e : (va.length == vb.length && va.all fun p => (valueAt vb p.1).isSome && true) = true := by
    rw [all_some rb, l1]
    · simp
    · intro p hp
      rw [← ekl, KV.keys ra]
      exact List.mem_map_of_mem hp
  exact PySem.W.eq_dictsT (knd := mixKind X.prog X.w) (n := n) (e := fun _ => true) ya yb da db (kv_tree ra rb ndl ekl h9 fun x y u v z r1 r2 => eqx_tree n I z r1 r2) hu (fin_bl I q e.symm)
abbrev CExact (P : Program) (w : World) (K : PySem.W.Frag) (mg : Str → Option Value) (base : Heap) (n : Nat) := Cal P w K mg base "_law_exact" (n + 1) ["_law_mine", "_law_theirs"] (spExact n)
theorem eqx_rows {H : Hp} : ∀ {ks ls : List (Key × V)} {bk : Bk}, Rows H ks bk → Rows H ls bk → (∀ r ∈ bk, (r.2.2.map (·.1)).Nodup ∧ r.2.2.length ≤ 10000) → Paired (fun p q => EqX 3 H p.2 q.2) ks ls
  | _, _, _, .nil, .nil, _ => .nil
  | _, _, _, .cons (b := r) h1 t1, .cons h2 t2, hb => by
    refine .cons ?_ (eqx_rows t1 t2 fun r hr => hb r (List.mem_cons_of_mem _ hr))
    obtain ⟨_, t, a, e1, g1, g2⟩ := h1
    obtain ⟨_, t', a', e1', g1', g2'⟩ := h2
    rw [e1, e1']
    obtain ⟨nd, ll⟩ := hb r List.mem_cons_self
    refine .inr (.inr (.inl ⟨t, t', _, _, rfl, rfl, g1, g1', by show 2 ≤ 10000; decide, .cons (eqx_str _) (.cons ?_ .nil)⟩))
    have ek : (kT r.2.2).map (·.1) = (r.2.2.map (·.1)).map Sum.inr := by rw [kT, List.map_map, List.map_map]; rfl
    refine .inr (.inr (.inr ⟨Nat.le_refl _, a, a', kT r.2.2, kT r.2.2, r.2.2.map (·.1), rfl, rfl, g2, g2', ek, ek, nd, by rw [List.length_map]; exact ll, ?_⟩))
    have : ∀ l : List (Str × Str), Paired (fun (p q : Key × V) => EqX 1 (cut [a] H) p.2 q.2) (kT l) (kT l) := fun l => by
      induction l with
      | nil => exact .nil
      | cons p l ih => exact .cons (eqx_str p.2) ih
    exact this _
theorem rows_cut {H : Hp} {a : Addr} {ks : List (Key × V)} {bk : Bk} (h1 : H a = some (.dK ks)) (r1 : Rows H ks bk) (ne : bk ≠ []) : ∀ {kv2 : List (Key × V)} {bk2 : Bk}, Rows H kv2 bk2 → Rows (cut [a] H) kv2 bk2 := fun {kv2 bk2} h2 => by
  unfold Rows at h2 ⊢
  induction h2 with
  | nil => exact .nil
  | cons g _ ih =>
    obtain ⟨e, t, a', ev, ht, ha⟩ := g
    have n1 : t ≠ a := fun z => by rw [z, h1] at ht; cases ht
    have n2 : a' ≠ a := book_ne h1 r1 ne ha
    exact .cons ⟨e, t, a', ev, by rw [cut_out (by simpa using n1)]; exact ht, by rw [TurnsAt, cut_out (by simpa using n2)]; exact ha⟩ ih
/-- two books that read alike -/
theorem eqx_book {H : Hp} {a b : Addr} {bk : Bk} (ha : BookAt H a bk) (hb : BookAt H b bk) (ok : BOk bk) (ne : bk ≠ []) : EqX 4 H (.ref a) (.ref b) := by
  obtain ⟨ks, h1, r1⟩ := ha
  obtain ⟨ls, h2, r2⟩ := hb
  have e1 : ks.map (·.1) = (bk.map (·.1)).map Sum.inr := by rw [r1.keys, List.map_map]; rfl
  have e2 : ls.map (·.1) = (bk.map (·.1)).map Sum.inr := by rw [r2.keys, List.map_map]; rfl
  have hrs : ∀ r ∈ bk, (r.2.2.map (·.1)).Nodup ∧ r.2.2.length ≤ 10000 := fun r hr => ⟨(ok.rs r hr).1, by have := (ok.rs r hr).2; omega⟩
  refine .inr (.inr (.inr ⟨by decide, a, b, ks, ls, bk.map (·.1), rfl, rfl, h1, h2, e1, e2, ok.nd, by rw [List.length_map]; have := ok.len; omega, ?_⟩))
  exact eqx_rows (rows_cut h1 r1 ne r1) (rows_cut h1 r1 ne r2) hrs
section
variable {P : Program} {w : World} {K : PySem.W.Frag} {mg : Str → Option Value} {base : Heap} {C : Addr}
/-- two desks that read alike -/
def REq (C : Addr) : Addr → Addr → Hp → Prop := fun q r H => ∃ bk st, DeskAt C H q bk st ∧ DeskAt C H r bk st ∧ DOk bk st
theorem scDe : FnScope ["self", "other"] ["self", "other"] (defScope sDEq) := ⟨rfl, rfl, rfl, by decide +kernel, rfl, by decide +kernel, by decide +kernel⟩
theorem pair_app {α β : Type} {R : α → β → Prop} {xs : List α} {ys : List β} {x : α} {y : β} (h : Paired R xs ys) (e : R x y) : Paired R (xs ++ [x]) (ys ++ [y]) := by
  induction h with
  | nil => exact .cons e .nil
  | cons a _ ih => exact .cons a ih
theorem unl_at {H : Hp} {b p : Addr} {u o : HO} {od : Obj} {xs : List V} (h : H b = some (.frz od u)) (e : H p = some (.tup xs)) : (L2.upd H b o) p = some (.tup xs) := by
  rw [upd_ne fun z => by rw [z, h] at e; cases e]; exact e
theorem merge_id2 {kvs : List (Key × V)} (nd : (kvs.map (·.1)).Nodup) : mergeK [] kvs = kvs := by
  have h : ∀ (more acc : List (Key × V)), (∀ p ∈ more, p.1 ∉ acc.map (·.1)) → (more.map (·.1)).Nodup → mergeK acc more = acc ++ more := by
    intro more
    induction more with
    | nil => intro acc _ _; exact (List.append_nil _).symm
    | cons p r ih =>
      intro acc h nd
      have nd' := List.nodup_cons.mp nd
      show mergeK (putK acc p.1 p.2) r = _
      rw [D1.putK_new (h p List.mem_cons_self), ih _ ?_ nd'.2, List.append_assoc]
      · rfl
      · intro q hq z
        rw [List.map_append] at z
        rcases List.mem_append.mp z with z | z
        · exact h q (List.mem_cons_of_mem _ hq) z
        · have : q.1 = p.1 := List.mem_singleton.mp z
          exact nd'.1 (by show p.1 ∈ _; rw [← this]; exact List.mem_map_of_mem hq)
  rw [h kvs [] (by simp) nd]; rfl
theorem rows_unl {H : Hp} {b : Addr} {u o : HO} {od : Obj} {kvs : List (Key × V)} {bk : Bk} (hb : H b = some (.frz od u)) (h : Rows H kvs bk) : Rows (L2.upd H b o) kvs bk := by
  unfold Rows at h ⊢
  induction h with
  | nil => exact .nil
  | cons h1 _ ih =>
    obtain ⟨e, t, a, ev, ht, ha⟩ := h1
    refine .cons ⟨e, t, a, ev, ?_, ?_⟩ ih
    · rw [upd_ne fun z => by rw [z, hb] at ht; cases ht]; exact ht
    · rw [TurnsAt, upd_ne fun z => by rw [TurnsAt, z, hb] at ha; cases ha]; exact ha
/-- the law's desk of a world -/
abbrev sLDesk : Stmt := top 48
def spLDesk (C : Addr) : Sp := fun vs H Q _ => ∃ (W : Addr) (bk : Bk) (st : Str), vs = [.ref W] ∧ WorldAt H W bk st ∧ DOk bk st ∧ ∀ H' q, Same H H' → H q = none → DeskAt C H' q bk st → Q (.ref q) H'
abbrev CMInit (P : Program) (w : World) (K : PySem.W.Frag) (mg : Str → Option Value) (base : Heap) (C : Addr) : Prop := ∃ f fd, Mk K C f ∧ FnOk P w K mg base CX0 4 f fd ["self", "book", "start"] (spDInit C) ∧ Binds K fd ["self", "book", "start"] []
theorem scLd : FnScope ["_law_world_here", "_law_state"] ["_law_world_here"] (defScope sLDesk) := ⟨rfl, rfl, rfl, by decide +kernel, rfl, by decide +kernel, by decide +kernel⟩
theorem ok_ldesk {f : Addr} {fd : FuncData} (F : Fun K "_law_desk" "_law_desk" sLDesk f fd) (T : Free3 mg) (D : DTxt K mg C) (MI : CMInit P w K mg base C) : FnOk P w K mg base CX0 6 f fd ["_law_world_here"] (spLDesk C) := by
  obtain ⟨fI, fdI, mI, FI, bI⟩ := MI
  refine F.ok scLd (fun vs H Q E h => ?_) (fun cdv A outer s H vs Q E hr h => ?_)
  · obtain ⟨W, bk, st, rfl, _⟩ := h; rfl
  · obtain ⟨W, bk, st, rfl, ⟨b, hW, ⟨kvs, hb, hR⟩⟩, ok, k⟩ := h
    have hu := hu_of hr
    refine ⟨_, pss_one (ps_ret (pe_make mI FI (hr.mono (by decide)) rfl D.mgC bI .nil pass0 (pa_cons (pe_callTy (call_dictP rfl) (by rfl) T.dict (by decide +kernel) (pa_cons (pe_lock (pe_lc (own := [("_law_state", 1)]) (g := gName 1) (tt := tYes)
        (te := tTup (tCons (tVar 1) (tCons (tTup (tCons (tOp (rIxT K) (tDGet (tOp (rIxL K) (tVar 0) (tC (.int 0))) (tVar 1)) (tC (.int 0))) (tCons (tCB (fun xs H Q => ∃ (a : Addr) (kvs : List (Key × V)), xs = [.ref a] ∧ Rd H a (.dK kvs) ∧ ∀ p, H p = none → Q (.ref p) (L2.upd H p (.dK kvs))) (tCons (tOp (rIxT K) (tDGet (tOp (rIxL K) (tVar 0) (tC (.int 0))) (tVar 1)) (tC (.int 1))) tNil)) tNil))) tNil)))
        rfl scLd.nd (pi_keys (pe_ix ix_list (pv 0) pe_int (fun _ _ => rfl)))
        (blkOk_by (N := ["_law_world_here", "_law_state"]) (sc := defScope sLDesk) (by decide +kernel)) (fun _ _ _ _ _ => pg_name (i := 1) scLd.nd rfl (Or.inl rfl)) (fun _ _ _ _ _ => pts_nil)
        (fun _ _ _ _ _ => pe_tup (pa_cons (pv 1) (pa_cons (pe_tup (pa_cons (pe_ix ix_tup (pe_dget hu (pe_ix ix_list (pv 0) pe_int (fun _ _ => rfl)) (pv 1) (fun _ _ => rfl)) pe_int (fun _ _ => rfl)) (pa_cons (pe_callTy call_dictD (by rfl) T.dict (by decide +kernel) (pa_cons (pe_ix ix_tup (pe_dget hu (pe_ix ix_list (pv 0) pe_int (fun _ _ => rfl)) (pv 1) (fun _ _ => rfl)) pe_int (fun _ _ => rfl)) pa_nil)) pa_nil))) pa_nil))))) pa_nil))
        (pa_cons (pe_ix ix_list (pv 0) pe_int (fun _ _ => rfl)) pa_nil)))), ?_⟩
    have a0 : ∀ {H' : Hp}, Same H H' → ∃ xs, xs = ([.ref b, .str st] : List V) ∧ H' W = some (.lst xs) := fun s => ⟨_, rfl, s _ _ hW⟩
    refine ⟨b, _, hb, trivial, fun od => ?_⟩
    have nWb : W ≠ b := fun e => by rw [e, hb] at hW; cases hW
    have hWL : (L2.upd H b (.frz od (.dK kvs))) W = some (.lst [.ref b, .str st]) := by rw [upd_ne nWb]; exact hW
    have hRL := hR.lock (o := .frz od (.dK kvs)) hb ok.ne
    refine ⟨_, rfl, W, _, _, _, rfl, rfl, SqL.of hWL, atI_nat (j := 0) rfl, b, od, rfl, .inl ⟨kvs, upd_same, fun M hM => ?_⟩⟩
    have nM : b ≠ M := fun e => by rw [← e, upd_same] at hM; cases hM
    have lb := ok.len
    refine lc_it (walk_keys (d := b) (o := od) (kvs := kvs)) (fun i H' => Same (L2.upd H b (.frz od (.dK kvs))) H' ∧ ∃ (ps : List Addr) (kv2 : List (Key × V)), H' M = some (.lst (ps.map V.ref)) ∧ Paired (fun p (kv : Key × V) => (cut [M] H') p = some (.tup [kV kv.1, kv.2])) ps kv2 ∧ Rows (cut [M] H') kv2 (bk.take i)) ⟨Same.new hM, [], [], upd_same, .nil, .nil⟩ (fun i H' _ z => z.1 _ _ upd_same) ?_ ?_
    · rintro i x H2 H3 hi ⟨sm, ps, kv2, hM2, hp, hR2⟩ ⟨rfl, kk, v0, hkv, rfl⟩
      obtain ⟨r, hr', rfl, _⟩ := hR.at hkv
      have hrm : r ∈ bk := List.mem_of_getElem? hr'
      have hs : r.1 ∈ bk.map (·.1) := List.mem_map_of_mem hrm
      obtain ⟨v, ev, ⟨t, a, rfl, ht, ha⟩, _⟩ := (hRL.same sm).look hs
      rw [rowOf_self ok.nd hrm] at ht ha
      have hW3 := SqL.of (K := K) (sm _ _ hWL)
      have hil : i < bk.length := (List.getElem?_eq_some_iff.mp hr').1
      have dg : ∀ {H4 : Hp}, Same H3 H4 → DGet H4 b (V.str r.1) (some (.ref t)) := fun s => .inl ⟨kvs, .inr r.1, .inr ⟨od, s _ _ (sm _ _ upd_same)⟩, rfl, ev.symm⟩
      refine ⟨rfl, ?_⟩
      dsimp only [tYes]
      rw [if_pos rfl]
      refine ⟨_, rfl, _, rfl, W, _, _, _, rfl, rfl, hW3, atI_nat (j := 0) rfl, _, rfl, b, _, rfl, dg (Same.refl _), t, _, _, _, rfl, rfl, SqT.of ht, atI_nat (j := 0) rfl, ?_⟩
      refine ⟨_, rfl, W, _, _, _, rfl, rfl, hW3, atI_nat (j := 0) rfl, _, rfl, b, _, rfl, dg (Same.refl _), t, _, _, _, rfl, rfl, SqT.of ht, atI_nat (j := 1) rfl, a, kT r.2.2, rfl, .inl ha, fun E1 hE1 => ?_⟩
      refine ⟨by show 2 ≤ sizeLine; decide, fun T1 hT1 => ⟨by show 2 ≤ sizeLine; decide, fun T2 hT2 => ?_⟩⟩
      have g1 := Same.new (o := .dK (kT r.2.2)) hE1
      have g2 := Same.new (o := .tup [.str r.2.1, .ref E1]) hT1
      have g3 := Same.new (o := .tup [.str r.1, .ref T1]) hT2
      have g := Same.trans (Same.trans g1 g2) g3
      have nE : E1 ≠ M := fun e => by rw [e, hM2] at hE1; cases hE1
      have nT : T1 ≠ M := fun e => by rw [e, g1 _ _ hM2] at hT1; cases hT1
      have nT2 : T2 ≠ M := fun e => by rw [e, g2 _ _ (g1 _ _ hM2)] at hT2; cases hT2
      have lps : ps.length = kv2.length := paired_len hp
      have lkv : kv2.length = i := by rw [hR2.len, List.length_take]; omega
      refine ⟨_, g _ _ hM2, by rw [List.length_map, lps, lkv, sizeLine_eq]; omega, fun c u e => ?_, ps ++ [T2], kv2 ++ [(.inr r.1, .ref T1)], by rw [upd_same, List.map_append]; rfl, ?_, ?_⟩
      · rw [upd_ne (ne_of_none e hM)]; exact g _ _ (sm _ _ e)
      · rw [cut_upd (by simp)]
        have hp' := paired_imp (R' := fun p (kv : Key × V) => (cut [M] (L2.upd (L2.upd (L2.upd H3 E1 (.dK (kT r.2.2))) T1 (.tup [.str r.2.1, .ref E1])) T2 (.tup [.str r.1, .ref T1]))) p = some (.tup [kV kv.1, kv.2])) (fun p kv e => cut_same g _ _ e) hp
        exact pair_app hp' (by rw [cut_out (by simpa using nT2)]; exact upd_same)
      · rw [cut_upd (by simp), take_succ_get hr']
        refine (hR2.same (cut_same g)).app ⟨T1, E1, rfl, ?_, ?_⟩
        · rw [cut_out (by simpa using nT)]; exact g3 _ _ upd_same
        · rw [TurnsAt, cut_out (by simpa using nE)]; exact g3 _ _ (g2 _ _ upd_same)
    · rintro H2 ⟨sm, ps, kv2, hM2, hp, hR2⟩
      have hl : kvs.length = bk.length := hR.len
      rw [hl, List.take_length] at hR2
      have su := Same.unlock hb sm
      have hp3 : Paired (fun p (kv : Key × V) => SqT K (L2.upd H2 b (.dK kvs)) p [kV kv.1, kv.2]) ps kv2 := paired_imp (fun p kv e => SqT.of (unl_at (sm _ _ upd_same) (cut_le _ _ e))) hp
      refine ⟨sm _ _ upd_same, M, ps, kv2, rfl, SqL.of (by rw [upd_ne nM.symm]; exact hM2), hp3, fun B hB => ?_⟩
      have e1 : kv2.map (·.1) = (bk.map (·.1)).map Sum.inr := by rw [hR2.keys, List.map_map]; rfl
      rw [merge_id2 (by rw [e1]; exact inr_nd' ok.nd)]
      have hR3 : Rows (L2.upd H2 b (.dK kvs)) kv2 bk := rows_unl (sm _ _ upd_same) (hR2.same cut_le)
      have s3 := Same.new (o := .dK kv2) hB
      refine ⟨_, rfl, W, _, _, _, rfl, rfl, SqL.of (s3 _ _ (su _ _ hW)), atI_nat (j := 1) rfl, fun q dx hq hdx ndx => ?_⟩
      have s4 : Same H (L2.upd (L2.upd (L2.upd (L2.upd H2 b (.dK kvs)) B (.dK kv2)) dx (.own q)) q (.ins C dx [])) := fun c u e => by
        have e3 := s3 _ _ (su _ _ e)
        rw [upd_ne (ne_of_none e3 hq), upd_ne (ne_of_none e3 hdx)]; exact e3
      have hq0 : H q = none := (Same.trans su s3).free hq
      refine ⟨q, dx, B, bk, st, rfl, upd_same, ⟨kv2, ?_, ?_⟩, ok, fun H5 b5 hd _ => ⟨rfl, k H5 q (fun c u e => ?_) hq0 hd⟩⟩
      · have z := upd_same (H := L2.upd H2 b (.dK kvs)) (a := B) (o := .dK kv2)
        rw [upd_ne (ne_of_none z hq), upd_ne (ne_of_none z hdx)]; exact z
      · refine (hR3.same s3).same fun c u e => ?_
        rw [upd_ne (ne_of_none e hq), upd_ne (ne_of_none e hdx)]; exact e
      · exact b5 _ _ (ne_of_none e hq0) (s4 _ _ e)
end
end D1
end L2
/-! behind, spoken, talk_of, talks (the law's) -/
namespace L2
namespace D1
open PySem PySem.Spec PyProof.Rows
abbrev sBehind : Stmt := top 50
def spBehind : Sp := fun vs H Q _ => ∃ (W L : Addr) (bk : Bk) (st : Str) (way : List Str), vs = [.ref W, .ref L] ∧ WorldAt H W bk st ∧ DOk bk st ∧ SL H L way ∧ Q (optV (walkB bk st way)) H
def spLSpoken : Sp := fun vs H Q _ => ∃ (W L : Addr) (bk : Bk) (st s : Str) (way : List Str), vs = [.ref W, .ref L] ∧ WorldAt H W bk st ∧ DOk bk st ∧ SL H L way ∧ way.length ≤ 1000 ∧ walkB bk st way = some s ∧ ∀ (H' : Hp) (R : Addr), Same H H' → H R = none → PairsAt H' R (spokenB bk st way) → Q (.ref R) H'
section
variable {P : Program} {w : World} {K : PySem.W.Frag} {mg : Str → Option Value} {base : Heap} {C : Addr}
theorem scBe : FnScope ["_law_world_here", "_law_talk", "_law_state", "_law_word_here"] ["_law_world_here", "_law_talk"] (defScope sBehind) := ⟨rfl, rfl, rfl, by decide +kernel, rfl, by decide +kernel, by decide +kernel⟩
theorem ok_behind {f : Addr} {fd : FuncData} (F : Fun K "_law_behind" "_law_behind" sBehind f fd) : FnOk P w K mg base CX0 1 f fd ["_law_world_here", "_law_talk"] spBehind := by
  refine F.ok scBe (fun vs H Q E h => ?_) (fun cdv A outer s H vs Q E hr h => ?_)
  · obtain ⟨W, L, bk, st, way, rfl, _⟩ := h; rfl
  · obtain ⟨W, L, bk, st, way, rfl, ⟨b, hW, ⟨kvs, hb, hR⟩⟩, ok, hL, k⟩ := h
    have hu := hu_of hr
    refine ⟨_, pss_cons (ps_set (i := 2) scBe.nd rfl (Or.inl rfl) (pe_ix ix_list (pv 0) pe_int (fun _ _ => rfl)))
      (pss_cons (ps_for PassesOwn.never rfl (pi_list (pv 1)) (pg_name (i := 3) scBe.nd rfl (Or.inl rfl))
        (pss_one (ps_if (pt_cmp (pc_notN (pv 2)) rfl) (pss_one (ps_set (i := 2) scBe.nd rfl (Or.inl rfl) (pe_dget2 hu (pe_ix ix_tup (pe_dget hu (pe_ix ix_list (pv 0) pe_int (fun _ _ => rfl)) (pv 2) (fun _ _ => rfl)) pe_int (fun _ _ => rfl)) (pv 3) pe_non (by constructor <;> rfl)))) pss_nil)))
      (pss_one (ps_ret (pv 2)))), ?_⟩
    refine ⟨_, rfl, W, _, _, _, rfl, rfl, SqL.of hW, atI_nat (j := 1) rfl, ?_⟩
    refine ⟨_, rfl, L, rfl, ⟨_, hL.sq⟩, ?_⟩
    refine for_list (K := K) (a := L) (xs := way.map V.str) (fun i σ H' => ∃ (v : Option V) (o : Option Str), σ = [some (.ref W), some (.ref L), some (optV o), v] ∧ H' = H ∧ (∀ s, o = some s → s ∈ bk.map (·.1)) ∧ o.bind (fun s => walkB bk s (way.drop i)) = walkB bk st way) ⟨none, some st, rfl, rfl, fun s e => by cases e; exact ok.st, rfl⟩ (fun i σ H' _ ⟨_, _, _, e, _⟩ => by rw [e]; exact hL.sq) ?_ ?_
    · rintro i x σ H' hx ⟨v, o, rfl, rfl, hn, ew⟩
      obtain ⟨z, hz, rfl⟩ := get_map hx
      have hi : i < way.length := (List.getElem?_eq_some_iff.mp hz).1
      have hd : way.drop i = z :: way.drop (i + 1) := by
        rw [List.drop_eq_getElem_cons hi]
        congr 1
        rw [List.getElem?_eq_getElem hi] at hz
        exact Option.some.inj hz
      cases o with
      | none =>
        refine ⟨_, rfl, _, rfl, ?_⟩
        refine (if_neg (by decide)).mpr ⟨_, none, rfl, rfl, fun s e => (by cases e), ew⟩
      | some node =>
        have hm := hn node rfl
        obtain ⟨v', ev, ⟨t, a, rfl, ht, ha⟩, _⟩ := hR.look hm
        have ew : walkB bk node (way.drop i) = walkB bk st way := ew
        rw [hd, walkB] at ew
        refine ⟨_, rfl, _, rfl, ?_⟩
        refine (if_pos (by rw [show decide (optV (some node) = V.non) = false from decide_eq_false fun z => by cases z]; rfl)).mpr ?_
        refine ⟨_, rfl, W, _, _, _, rfl, rfl, SqL.of hW, atI_nat (j := 0) rfl, _, rfl, b, _, rfl, .inl ⟨kvs, .inr node, .inl hb, rfl, ev.symm⟩, t, _, _, _, rfl, rfl, SqT.of ht, atI_nat (j := 1) rfl, ?_⟩
        refine ⟨a, rfl, .inl ⟨_, .inl ha⟩, _, rfl, (nextT (rowOf bk node).2 z).map V.str, .inl ⟨_, .inr z, .inl ha, rfl, by rw [valV_next]⟩, ?_⟩
        refine ⟨some (.str z), nextT (rowOf bk node).2 z, ?_, rfl, fun s e => ?_, ?_⟩
        · cases nextT (rowOf bk node).2 z <;> rfl
        · obtain ⟨t0, ht0, _, e3⟩ := nextT_mem e
          rw [← e3]; exact (ok.rs _ (row_mem hm)).2.2 t0 ht0
        · rw [← ew]
          cases nextT (rowOf bk node).2 z <;> rfl
    · rintro σ H' ⟨v, o, rfl, rfl, hn, ew⟩
      rw [List.length_map, List.drop_length] at ew
      refine ⟨_, rfl, ?_⟩
      have : o = walkB bk st way := by
        rw [← ew]; cases o <;> rfl
      rw [← this] at k
      exact k
end
end D1
end L2
/-! talks -/
namespace L2
namespace D1
open PySem PySem.Spec PyProof.Rows
abbrev sTalks : Stmt := top 49
/-- a list of lists of texts -/
def LL (H : Hp) (R : Addr) (tss : List (List Str)) : Prop := ∃ as : List Addr, H R = some (.lst (as.map V.ref)) ∧ Paired (fun a ts => SL H a ts) as tss
theorem LL.same {H H' : Hp} {R : Addr} {tss : List (List Str)} (h : LL H R tss) (s : Same H H') : LL H' R tss := by
  obtain ⟨as, e, p⟩ := h; exact ⟨as, s _ _ e, paired_imp (fun _ _ z => z.same s) p⟩
theorem paired_cat {α β : Type} {R : α → β → Prop} {xs : List α} {ys : List β} {zs : List α} {ws : List β} (h : Paired R xs ys) (g : Paired R zs ws) : Paired R (xs ++ zs) (ys ++ ws) := by
  induction h with
  | nil => exact g
  | cons a _ ih => exact .cons a ih
/-- talks of at most m words of ws -/
def TsOk (ws : List Str) (m : Nat) (tss : List (List Str)) : Prop := ∀ ts ∈ tss, ts.length ≤ m ∧ ∀ x ∈ ts, x ∈ ws
def spTalks : Sp := fun vs H Q _ => ∃ (W : Addr) (ws : List Str) (n : Int), vs = [.ref W, .int n] ∧ SL H W ws ∧ ws.length ≤ 7 ∧ 0 ≤ n ∧ n ≤ 3 ∧ ∀ (H' : Hp) (R : Addr) (tss : List (List Str)), Same H H' → H R = none → LL H' R tss → TsOk ws 3 tss → tss.length ≤ 1300 → Q (.ref R) H'
section
variable {P : Program} {w : World} {K : PySem.W.Frag} {mg : Str → Option Value} {base : Heap} {C : Addr}
theorem scTk : FnScope ["_law_words_here", "_law_size", "_law_found", "_law_layer", "_law_turn", "_law_longer", "_law_talk", "_law_word_here"] ["_law_words_here", "_law_size"] (defScope sTalks) := ⟨rfl, rfl, rfl, by decide +kernel, rfl, by decide +kernel, by decide +kernel⟩
theorem ok_talks {f : Addr} {fd : FuncData} (F : Fun K "_law_talks" "_law_talks" sTalks f fd) (T : Free3 mg) : FnOk P w K mg base CX0 1 f fd ["_law_words_here", "_law_size"] spTalks := by
  refine F.ok scTk (fun vs H Q E h => ?_) (fun cdv A outer s H vs Q E hr h => ?_)
  · obtain ⟨W, ws, n, rfl, _⟩ := h; rfl
  · obtain ⟨W, ws, n, rfl, hW, lw, n0, n3, k⟩ := h
    refine ⟨_, pss_cons (ps_par (i := 2) (j := 3) rfl scTk.nd rfl rfl (by decide) rfl rfl (pa_cons (pe_lst (pa_cons (pe_lst pa_nil) pa_nil)) (pa_cons (pe_lst (pa_cons (pe_lst pa_nil) pa_nil)) pa_nil)) (by rfl))
      (pss_cons (ps_for PassesOwn.never rfl (pi_range1 rfl T.range (pa_cons (pv 1) pa_nil)) (pg_name (i := 4) scTk.nd rfl (Or.inl rfl))
        (pss_cons (ps_set (i := 5) scTk.nd rfl (Or.inl rfl) (pe_lst pa_nil))
        (pss_cons (ps_for PassesOwn.never rfl (pi_list (pv 3)) (pg_name (i := 6) scTk.nd rfl (Or.inr rfl))
          (pss_one (ps_set (i := 5) scTk.nd rfl (Or.inl rfl) (pe_op op_cat (pv 5) (pe_lc (own := [("_law_word_here", 7)]) (g := gName 7) (tt := tYes) rfl scTk.nd (pi_list (pv 0))
            (blkOk_by (N := ["_law_words_here", "_law_size", "_law_found", "_law_layer", "_law_turn", "_law_longer", "_law_talk", "_law_word_here"]) (sc := defScope sTalks) (by decide +kernel)) (fun _ _ _ _ _ => pg_name (i := 7) scTk.nd rfl (Or.inl rfl)) (fun _ _ _ _ _ => pts_nil)
            (fun _ _ _ _ _ => pe_op op_cat (pv 6) (pe_lst (pa_cons (pv 7) pa_nil))))))))
        (pss_one (ps_par (i := 2) (j := 3) rfl scTk.nd rfl rfl (by decide) rfl rfl (pa_cons (pe_op op_cat (pv 2) (pv 5)) (pa_cons (pv 5) pa_nil)) (by rfl))))))
      (pss_one (ps_ret (pv 2)))), ?_⟩
    refine ⟨by decide, fun a1 h1 => ⟨by show 1 ≤ sizeLine; decide, fun F0 hF0 => ⟨by decide, fun a2 h2 => ⟨by show 1 ≤ sizeLine; decide, fun L0 hL0 => ⟨_, _, rfl, ?_⟩⟩⟩⟩⟩
    have g1 := Same.new (o := .lst []) h1
    have g2 := Same.new (o := .lst [.ref a1]) hF0
    have g3 := Same.new (o := .lst []) h2
    have g4 := Same.new (o := .lst [.ref a2]) hL0
    have e1 := upd_same (H := H) (a := a1) (o := .lst [])
    have e2 := upd_same (H := L2.upd H a1 (.lst [])) (a := F0) (o := .lst [.ref a1])
    have e3 := upd_same (H := L2.upd (L2.upd H a1 (.lst [])) F0 (.lst [.ref a1])) (a := a2) (o := .lst [])
    have e4 := upd_same (H := L2.upd (L2.upd (L2.upd H a1 (.lst [])) F0 (.lst [.ref a1])) a2 (.lst [])) (a := L0) (o := .lst [.ref a2])
    generalize L2.upd H a1 (.lst []) = H1 at g1 g2 g3 g4 e1 e2 e3 e4 hF0
    generalize L2.upd H1 F0 (.lst [.ref a1]) = H2 at g2 g3 g4 e2 e3 e4
    generalize L2.upd H2 a2 (.lst []) = H3 at g3 g4 e3 e4
    generalize L2.upd H3 L0 (.lst [.ref a2]) = H4 at g4 e4
    have f0 : H F0 = none := g1.free hF0
    have s4 : Same H H4 := Same.trans (Same.trans (Same.trans g1 g2) g3) g4
    refine ⟨_, rfl, n, rfl, by omega, by omega, ?_⟩
    refine for_range (n := n.toNat) (fun i σ H' => ∃ (F1 L1 : Addr) (v4 v5 v6 : Option V) (tss uss : List (List Str)), σ = [some (.ref W), some (.int n), some (.ref F1), some (.ref L1), v4, v5, v6, none] ∧ Same H H' ∧ H F1 = none ∧ LL H' F1 tss ∧ LL H' L1 uss ∧ TsOk ws i tss ∧ TsOk ws i uss ∧ uss.length ≤ 7 ^ i ∧ tss.length ≤ 400 * i + 1)
      ⟨F0, L0, none, none, none, [[]], [[]], rfl, s4, f0, ⟨[a1], g4 _ _ (g3 _ _ e2), .cons (g4 _ _ (g3 _ _ (g2 _ _ e1))) .nil⟩, ⟨[a2], e4, .cons (g4 _ _ e3) .nil⟩, by intro t ht; obtain rfl := List.mem_singleton.mp ht; exact ⟨Nat.le_refl _, by simp⟩, by intro t ht; obtain rfl := List.mem_singleton.mp ht; exact ⟨Nat.le_refl _, by simp⟩, by decide, by show 1 ≤ 400 * 0 + 1; decide⟩ ?_ ?_
    · rintro i σ H5 hi ⟨F1, L1, v4, v5, v6, tss, uss, rfl, sm, f1, hF, hU, tF, tU, lu, lt⟩
      have i3 : i < 3 := by omega
      have pw : 7 ^ i ≤ 49 := by
        match i, i3 with
        | 0, _ => decide
        | 1, _ => decide
        | 2, _ => decide
      refine ⟨by decide, fun G0 hG0 => ?_⟩
      have sG := Same.new (o := .lst []) hG0
      have eG := upd_same (H := H5) (a := G0) (o := .lst [])
      generalize L2.upd H5 G0 (.lst []) = H6 at sG eG
      obtain ⟨bs, hL1, pb⟩ := hU.same sG
      have lb := paired_len pb
      refine ⟨_, rfl, L1, rfl, ⟨_, SqL.of hL1⟩, ?_⟩
      refine for_list (K := K) (a := L1) (xs := bs.map V.ref) (fun j σ H' => ∃ (G1 : Addr) (v6 : Option V) (vss : List (List Str)), σ = [some (.ref W), some (.int n), some (.ref F1), some (.ref L1), some (.int (0 + (i : Int))), some (.ref G1), v6, none] ∧ Same H6 H' ∧ LL H' G1 vss ∧ TsOk ws (i + 1) vss ∧ vss.length ≤ 7 * j)
        ⟨G0, v6, [], rfl, Same.refl _, ⟨[], eG, .nil⟩, (fun t ht => by cases ht), Nat.zero_le _⟩ (fun j σ H' _ ⟨_, _, _, _, z, _⟩ => SqL.of (z _ _ hL1)) ?_ ?_
      · rintro j x σ H7 hx ⟨G1, v6, vss, rfl, s7, hG, tG, lG⟩
        obtain ⟨c, hc, rfl⟩ := get_map hx
        have hj : j < bs.length := (List.getElem?_eq_some_iff.mp hc).1
        have hju : j < uss.length := by omega
        have hus := List.getElem?_eq_getElem hju
        have hcs : SL H7 c uss[j] := (paired_at pb hc hus).same s7
        have hum := tU _ (List.getElem_mem hju)
        generalize uss[j] = us at hus hcs hum
        have hW7 : SL H7 W ws := hW.same (Same.trans (Same.trans sm sG) s7)
        refine ⟨_, rfl, _, rfl, W, rfl, ⟨_, hW7.sq⟩, fun D hD => ?_⟩
        refine lc_list (K := K) (a := W) (xs := ws.map V.str) (fun m H' => Same H7 H' ∧ ∃ (ds : List Addr) (wss : List (List Str)), H' D = some (.lst (ds.map V.ref)) ∧ Paired (fun a ts => SL (cut [D] H') a ts) ds wss ∧ TsOk ws (i + 1) wss ∧ wss.length = m) ⟨Same.new hD, [], [], upd_same, .nil, (fun t ht => by cases ht), rfl⟩ (fun m H' _ z => (hW7.same z.1).sq) ?_ ?_
        · rintro m v H8 hv ⟨s8, ds, wss, hD8, pd, td, ld⟩
          obtain ⟨z, hz, rfl⟩ := get_map hv
          have hm : m < ws.length := (List.getElem?_eq_some_iff.mp hz).1
          refine ⟨rfl, ?_⟩
          dsimp only [tYes]
          rw [if_pos rfl]
          refine ⟨_, rfl, _, rfl, by show 1 ≤ sizeLine; decide, fun e hE => ?_⟩
          have hc8 := (hcs.same s8)
          refine ⟨c, e, _, _, rfl, rfl, hc8.new hE, upd_same, by rw [List.length_map, sizeLine_eq]; show _ + 1 ≤ _; omega, fun e' hE' => ?_⟩
          have q1 := Same.new (o := .lst [.str z]) hE
          have q2 := Same.new (o := .lst (us.map V.str ++ [.str z])) hE'
          have q := Same.trans q1 q2
          have nD : e' ≠ D := fun h => by rw [h, q1 _ _ hD8] at hE'; cases hE'
          have lds := paired_len pd
          refine ⟨_, q _ _ hD8, by rw [List.length_map, lds, ld, sizeLine_eq]; omega, fun b u eb => ?_, ds ++ [e'], wss ++ [us ++ [z]], by rw [upd_same, List.map_append]; rfl, ?_, fun t ht => ?_, by rw [List.length_append, ld]; rfl⟩
          · rw [upd_ne (ne_of_none eb hD)]; exact q _ _ (s8 _ _ eb)
          · rw [cut_upd (by simp)]
            refine pair_app (paired_imp (fun _ _ z => z.same (cut_same q)) pd) ?_
            rw [SL, cut_out (by simpa using nD), upd_same, List.map_append]; rfl
          · rcases List.mem_append.mp ht with h | h
            · exact td t h
            · rw [List.mem_singleton.mp h]
              refine ⟨by rw [List.length_append]; show _ + 1 ≤ _; have := hum.1; omega, fun y hy => ?_⟩
              rcases List.mem_append.mp hy with h2 | h2
              · exact hum.2 y h2
              · rw [List.mem_singleton.mp h2]; exact List.mem_of_getElem? hz
        · rintro H8 ⟨s8, ds, wss, hD8, pd, td, ld⟩
          rw [List.length_map] at ld
          obtain ⟨cs, hG8, pc⟩ := hG.same s8
          have lds := paired_len pd
          have lcs := paired_len pc
          refine ⟨G1, D, _, _, rfl, rfl, hG8, hD8, by rw [List.length_map, List.length_map, sizeLine_eq]; omega, fun G2 hG2 => ?_⟩
          have q := Same.new (o := .lst (cs.map V.ref ++ ds.map V.ref)) hG2
          refine ⟨G2, _, vss ++ wss, rfl, Same.trans (Same.trans s7 s8) q, ⟨cs ++ ds, by rw [upd_same, List.map_append], ?_⟩, fun t ht => ?_, by rw [List.length_append]; omega⟩
          · exact paired_cat (paired_imp (fun _ _ z => z.same q) pc) (paired_imp (fun _ _ z => (z.same cut_le).same q) pd)
          · rcases List.mem_append.mp ht with h | h
            · exact tG t h
            · exact td t h
      · rintro σ H7 ⟨G1, v6', vss, rfl, s7, hG, tG, lG⟩
        rw [List.length_map] at lG
        have s57 := Same.trans sG s7
        obtain ⟨fs, hF7, pf⟩ := hF.same s57
        obtain ⟨gs, hG7, pg⟩ := id hG
        have lf := paired_len pf
        have lg := paired_len pg
        refine ⟨_, rfl, _, rfl, F1, G1, _, _, rfl, rfl, hF7, hG7, by rw [List.length_map, List.length_map, sizeLine_eq]; omega, fun F2 hF2 => ?_⟩
        have q := Same.new (o := .lst (fs.map V.ref ++ gs.map V.ref)) hF2
        have s07 := Same.trans sm s57
        refine ⟨_, rfl, _, _, rfl, F2, G1, _, _, _, tss ++ vss, vss, rfl, Same.trans s07 q, s07.free hF2, ⟨fs ++ gs, by rw [upd_same, List.map_append], ?_⟩, hG.same q, fun t ht => ?_, tG, ?_, ?_⟩
        · exact paired_cat (paired_imp (fun _ _ z => z.same q) pf) (paired_imp (fun _ _ z => z.same q) pg)
        · rcases List.mem_append.mp ht with h | h
          · exact ⟨by have := (tF t h).1; omega, (tF t h).2⟩
          · exact tG t h
        · rw [Nat.pow_succ]; omega
        · rw [List.length_append]; omega
    · rintro σ H5 ⟨F1, L1, v4, v5, v6, tss, uss, rfl, sm, f1, hF, hU, tF, tU, lu, lt⟩
      refine ⟨_, rfl, k H5 F1 tss sm f1 hF (fun t ht => ⟨by have := (tF t ht).1; omega, (tF t ht).2⟩) (by omega)⟩
end
end D1
end L2
/-! sets of texts that can be walked -/
namespace L2
namespace X3
open PySem PySem.Spec PyProof.Rows PySem.Froz
section
variable {P : Program} {w : World} {h h' : Heap} {a : Addr} {l : List Str}
/-- the set at a: l its members, in some order; its table rises and can be walked -/
def SetT (P : Program) (w : World) (h : Heap) (a : Addr) (l : List Str) : Prop :=
  ∃ D : SD, h.get? a = some (sObj "set" D) ∧ TxOk P w D l ∧ l.Nodup ∧ l.length < scanBound ∧ Ris D.2.2.place.toList ∧ (w.params.followText "set-order" = true ∨ D.2.2.led = true)
theorem SetT.at (R : SetT P w h a l) (k : ∀ o, h.get? a = some o → h'.get? a = some o) : SetT P w h' a l := by
  obtain ⟨D, e, r⟩ := R
  exact ⟨D, k _ e, r⟩
theorem setT_fresh : SetT P w (h.push { cls := .type "set", dict := none, data := .set #[] 0 (.fresh 0 0 (!w.params.followText "set-order")) }) h.objs.size [] := by
  refine ⟨(#[], 0, .fresh 0 0 (!w.params.followText "set-order")), Heap.get?_push_size _ rfl, TxOk.nil (by rfl), List.nodup_nil, by decide, List.Pairwise.nil, ?_⟩
  show _ ∨ (!w.params.followText "set-order") = true
  cases w.params.followText "set-order"
  · exact .inr rfl
  · exact .inl rfl
theorem off_ris {t : SetTable} (r : Ris t.place.toList) : Ris (if t.plain = true then { t with plain := false } else t).place.toList := by
  split <;> exact r
theorem off_led {t : SetTable} : (if t.plain = true then { t with plain := false } else t).led = t.led := by
  split <;> rfl
theorem tailTx_ris {ep : Nat} {es1 : Array (Int × Value)} {t2 : SetTable} {b : Bool} (r : Ris t2.place.toList) : Ris (tailTx ep es1 t2 b).2.2.place.toList := by
  unfold tailTx
  by_cases c : (!b && t2.tooFull) = true
  · rw [if_pos c]
    exact relayAll_ris _ _ _
  · rw [if_neg c]
    exact r
theorem tailTx_led {ep : Nat} {es1 : Array (Int × Value)} {t2 : SetTable} {b : Bool} : (tailTx ep es1 t2 b).2.2.led = t2.led := by
  unfold tailTx
  by_cases c : (!b && t2.tooFull) = true
  · rw [if_pos c]
    exact relayAll_led _ _ _
  · rw [if_neg c]
theorem addTx_ris {v : Value} {z : Int} {D : SD} (r : Ris D.2.2.place.toList) : Ris (addTx z v D).2.2.place.toList :=
  tailTx_ris (off_ris (layNew_ris _ _ _ _ r))
theorem addTx_led {v : Value} {z : Int} {D : SD} : (addTx z v D).2.2.led = D.2.2.led :=
  tailTx_led.trans (off_led.trans (layNew_led _ _ _ _))
end
section
variable {P : Program} {w : World} {A : Around} {E : Value → Shared → Prop} {s : Shared} {a : Addr} {l : List Str} {k : Str} {u : Tok}
/-- a text that is in the set already -/
theorem add_old {D : SD} {Q : Bool → Shared → Prop} (at_ : s.heap.get? a = some (sObj "set" D)) (F : TxOk P w D l) (hk : k ∈ l) (room : l.length < scanBound) (q : Q false s) : wpAny (model P w) A (setAddHashed a (.str k u) (hashStr w k)) Q E s := by
  obtain ⟨es, ep, t⟩ := D
  have small : es.size < scanBound := by rw [show es.size = l.length from F.sz]; exact room
  have kk : (strKind P w).is k (.str k u) = true := is_str k u
  obtain ⟨e, he, ke⟩ := (F.mem k).mp hk
  unfold setAddHashed setAddHashedIn
  refine wpAny_holding (wpAny_bind (wpAny_setState_of at_ (show (sObj "set" (es, ep, t)).data = .set es ep t from rfl) F.fit ?_))
  dsimp only
  rw [byScan_of rfl small F.el]
  simp only [↓reduceIte]
  unfold setAddByScan
  refine wpAny_bind (wpAny_bind (wpAny_rule (wpAny_bind (wpAny_setScan_of (knd := strKind P w) (k := k) kk at_ rfl F.fit F.el ?_))))
  cases hi : List.findIdx? (fun e => (strKind P w).is k e.2) es.toList with
  | some j =>
    dsimp only
    exact wpAny_pure (wpAny_pure q)
  | none =>
    have no := List.findIdx?_eq_none_iff.mp hi e he
    rw [ke] at no
    cases no
/-- found.add(k) -/
theorem setT_add {Q : Value → Shared → Prop} (R : SetT P w s.heap a l) (room : l.length + 1 < scanBound)
    (q : ∀ h', Heap.SameBut a s.heap h' → SetT P w h' a (if k ∈ l then l else k :: l) → Q .none { s with heap := h', toks := s.toks + 1 }) : wpAny (model P w) A (call (.builtin "set.add") [.ref a, .str k u]) Q E s := by
  obtain ⟨D, at_, F', nd, lt, ri, le⟩ := R
  refine wpAny_call_entry F.slot_set_add ⟨_, at_, rfl⟩ F.entry_set_add ?_ (F.args_set_add_2 _ _)
  unfold Builtin.«set.add» Builtin.Frozenset.oneOther
  simp only [List.isEmpty_nil, bind_assoc]
  unfold Builtin.Frozenset.addrOf setAdd
  refine wpAny_bind (wpAny_pure ?_)
  try dsimp only
  refine wpAny_bind (wpAny_pure ?_)
  try dsimp only
  refine wpAny_bind (wpAny_holding (wpAny_bind ((strKind P w).pyHash (is_str k u) ?_)))
  by_cases c : k ∈ l
  · refine add_old (s := { s with toks := s.toks + 1 }) at_ F' c lt (wpAny_pure ⟨_, rfl, ?_⟩)
    have z := q s.heap (Heap.SameBut.refl a s.heap)
    rw [if_pos c] at z
    exact z ⟨D, at_, F', nd, lt, ri, le⟩
  · refine add_x (s := { s with toks := s.toks + 1 }) at_ F' c room (wpAny_pure ⟨_, rfl, ?_⟩)
    have z := q (s.heap.update a fun _ => sObj "set" (addTx (hashStr w k) (.str k u) D)) (Heap.SameBut.update s.heap a _)
    rw [if_neg c] at z
    exact z ⟨_, get_upd _ at_ rfl, add_ok u F', List.nodup_cons.mpr ⟨c, nd⟩, room, addTx_ris ri, by rw [addTx_led]; exact le⟩
/-! ### sorted -/
def txv : Value → Str
  | .str x _ => x
  | _ => ⟨#[]⟩
def ltTx (v u : Value) : Bool := ltCps (txv v).cps.toList (txv u).cps.toList
theorem strs_txv : ∀ {vs : List Value}, (∀ v ∈ vs, ∃ x t, v = Value.str x t) → StrsAre vs (vs.map txv)
  | [], _ => .nil
  | v :: vs, h => by
    obtain ⟨x, t, rfl⟩ := h v (.head _)
    exact .cons x t (strs_txv fun u hu => h u (.tail _ hu))
theorem tx_sortable {vs : List Value} (hs : ∀ v ∈ vs, ∃ x t, v = Value.str x t) (h2 : 2 ≤ vs.length) : SrtO.SortableO P w A s a vs ltTx := by
  intro h' _
  refine ⟨oneType', fun Q E hq => ?_, fun p q hp hq => ?_⟩
  · match vs, hs, h2 with
    | v1 :: v2 :: rest, hs, _ =>
      rw [keyKind_strs (strs_txv hs)]
      exact wpAny_pure hq
    | [], _, h => exact absurd h (by decide)
    | [v], _, h => exact absurd h (by simp)
  · obtain ⟨x, t, e⟩ := hs _ hp
    obtain ⟨y, t', e'⟩ := hs _ hq
    show wpAny (model P w) A (keyLt' oneType' p.1 q.1) (fun r s' => s' = { s with heap := h' } ∧ r = ltTx p.1 q.1) (fun _ _ => False) { s with heap := h' }
    rw [e, e']
    exact PySem.W.kas_lt_str ⟨rfl, (ltCps_eq _ _).symm⟩
theorem perm_of_nodup {α : Type} [DecidableEq α] : ∀ {l m : List α}, l.Nodup → (∀ x ∈ l, x ∈ m) → m.length = l.length → m.Perm l
  | [], m, _, _, e => by
    have z : m = [] := List.eq_nil_of_length_eq_zero e
    rw [z]
  | x :: r, m, nd, h, e => by
    have nd' := List.nodup_cons.mp nd
    have hx := h x (.head _)
    refine (List.perm_cons_erase hx).trans (.cons x (perm_of_nodup nd'.2 (fun y hy => (List.mem_erase_of_ne (fun z => nd'.1 (by rw [← z]; exact hy))).mpr (h y (.tail _ hy))) ?_))
    rw [List.length_erase_of_mem hx, e, List.length_cons]
    omega
theorem mem_vals {D : SD} (F : TxOk P w D l) : ∀ v ∈ D.1.toList.map (·.2), ∃ x t, v = Value.str x t := fun v hv => by
  obtain ⟨e, he, rfl⟩ := List.mem_map.mp hv
  obtain ⟨⟨x, hx, _⟩, _⟩ := F.el e he
  have hx' : Value.isStrOf x e.2 = true := hx
  cases h : e.2 <;> rw [h] at hx' <;> first | exact ⟨_, _, rfl⟩ | (simp [Value.isStrOf] at hx')
theorem txv_perm {D : SD} (F : TxOk P w D l) (nd : l.Nodup) : ((D.1.toList.map (·.2)).map txv).Perm l := by
  refine perm_of_nodup nd (fun x hx => ?_) ?_
  · obtain ⟨e, he, ke⟩ := (F.mem x).mp hx
    obtain ⟨y, t, hy⟩ := mem_vals F e.2 (List.mem_map_of_mem he)
    have ke' : Value.isStrOf x e.2 = true := ke
    rw [hy] at ke'
    have exy : y = x := by simpa [Value.isStrOf] using ke'
    refine List.mem_map.mpr ⟨e.2, List.mem_map_of_mem he, ?_⟩
    rw [hy]
    exact exy
  · rw [List.length_map, List.length_map, Array.length_toList]
    exact F.sz
theorem sorted_setT {Q : Value → Shared → Prop} (O : SrtO.Swo ltTx) (R : SetT P w s.heap a l) (hh : A.handled = none)
    (q : ∀ s' p (out : List Value) (c : Nat), (∀ b o, s.heap.get? b = some o → s'.heap.get? b = some o) → s'.gens = s.gens → s'.os = s.os → s.heap.objs.size ≤ p → s'.heap.get? p = some (seqObj "list" out.toArray c) →
      StrsAre out (out.map txv) → (out.map txv).Perm l → (out.map txv).Pairwise (fun x y => ltCps y.cps.toList x.cps.toList = false) → Q (.ref p) s') :
    wpAny (model P w) A (call (.builtin "sorted") [.ref a]) Q E s := by
  obtain ⟨D, at_, F, nd, lt, ri, le⟩ := R
  obtain ⟨es, ep, t⟩ := D
  have small : es.size < scanBound := by rw [show es.size = l.length from F.sz]; exact lt
  refine Calls.call_function_entry kind_sorted plain_sorted entry_sorted (args_sorted1 _) ?_
  unfold Builtin.«sorted»
  refine wpAny_bind (m := checkCount "sorted" 1 1 _) (wpAny_pure (wpAny_bind (collect_set (A := A.in1) (es := es) (ep := ep) (t := t) hh ⟨_, at_, rfl, rfl⟩ F.fit small ri le fun s1 vs k1 hz g1 o1 pm => ?_)))
  have hv : ∀ v ∈ vs, ∃ x t, v = Value.str x t := fun v hv => mem_vals F v (pm.mem_iff.mp hv)
  have pv : (vs.map txv).Perm l := (pm.map txv).trans (txv_perm F nd)
  have lv : vs.length ≤ sizeLine := by
    have e := pv.length_eq
    rw [List.length_map] at e
    rw [e]
    exact fits_of_scanBound lt
  refine wpAny_bind (wpAny_newList ?_ lv)
  have lst : (s1.heap.push (seqObj "list" vs.toArray 0)).get? s1.heap.objs.size = some (seqObj "list" vs.toArray 0) := Heap.get?_push_size _ rfl
  refine wpAny_bind (wpAny_holding (wpAny_call_entry slot_list_sort ⟨_, lst, rfl⟩ entry_list_sort (SrtO.list_sort_ord O lst lv (fun two => tx_sortable hv two) fun out srtd stb => ⟨_, rfl, ?_⟩) (args_list_sort _)))
  obtain ⟨c, hc⟩ := sortedHeap_at (vs := vs) (out := out.toArray) lst
  refine wpAny_pure ⟨_, rfl, q _ s1.heap.objs.size out c (fun b u e => ?_) g1 o1 hz hc (strs_txv fun v h => hv v (stb.perm.mem_iff.mp h)) ((stb.perm.map txv).trans pv) (List.pairwise_map.mpr srtd)⟩
  have z := k1 b u e
  have bl := Heap.lt_size z
  exact (sortedHeap_old (Nat.ne_of_lt bl) (by rw [size_push']; exact Nat.lt_succ_of_lt bl)).trans (Heap.get?_push_of_some _ z)
end
/-! ### as tracked things -/
def SetTO (P : Program) (w : World) (a : Addr) (l : List Str) : HO := .ext fun h => SetT P w h a l
theorem setTO_new {P : Program} {w : World} {H : Hp} {h : Heap} {a : Addr} {l : List Str} (R : SetT P w h a l) : ObjOk P w H h a (SetTO P w a l) := by
  have ⟨D, e, _⟩ := R
  exact ⟨R, ⟨_, e⟩, fun h1 h2 p k => SetT.at p k⟩
section
variable {X : Cx}
theorem setTO_get {pins : List (Addr × Obj)} {σ : L2.St} {H : Hp} {s : Shared} {a : Addr} {l : List Str} (I : Inv X pins σ H s) (ha : H a = some (SetTO X.prog X.w a l)) : SetT X.prog X.w s.heap a l := (I.hok a _ ha).1
theorem addT_ok {pins : List (Addr × Obj)} {σ : L2.St} {H : Hp} {s : Shared} {E : Value → Shared → Prop} {D : Addr} {l : List Str} {k : Str} {u : Tok} {Q : Value → Shared → Prop} (I : Inv X pins σ H s) (hD : H D = some (SetTO X.prog X.w D l)) (room : l.length + 1 < scanBound)
    (q : ∀ s', Inv X pins σ (upd H D (SetTO X.prog X.w D (if k ∈ l then l else k :: l))) s' → Q .none s') : wpAny (model X.prog X.w) X.A (call (.builtin "set.add") [.ref D, .str k u]) Q E s := by
  refine setT_add (setTO_get I hD) room fun h' sb new => q _ (I.write (e := D) (t' := s.toks + 1) (by rw [hD]; trivial) (.inl rfl) (fun b o hb ho => (sb.2 b hb).trans ho) ?_ (setTO_new new))
  obtain ⟨D', e, _⟩ := new
  exact ⟨_, e⟩
/-- sorted(found), a set of texts -/
def rSortSetT (P : Program) (w : World) : List V → Hp → VK → Prop := fun vs H Q => ∃ (a : Addr) (l : List Str), vs = [V.ref a] ∧ H a = some (SetTO P w a l) ∧
  ∀ (ys : List Str) (p : Addr), ys.Perm l → ys.Pairwise (fun x y => ltCps y.cps.toList x.cps.toList = false) → H p = none → Q (.ref p) (upd H p (.lst (ys.map V.str)))
theorem cr_sortSetT (O : SrtO.Swo ltTx) (hc : X.calm = true) : CallR X (.builtin "sorted") (rSortSetT X.prog X.w) := by
  intro pins s σ H xs us Q I r h
  obtain ⟨a, l, rfl, ha, q⟩ := h
  obtain rfl := Vals.ref1 r
  have R := setTO_get I ha
  refine sorted_setT O R (I.ok.hd hc) fun s' p out c kk hg ho hp hl st pm pw => ?_
  have np : H p = none := I.hok.fresh hp
  have I1 : Inv X pins σ H s' := I.call' (ch := []) ho (Un.kept kk) (I.hok.kept kk) (by rw [hg]; exact I.bare) (fun _ z => nomatch z)
  have vals : ∀ {us : List Value} {xs : List Str}, StrsAre us xs → Vals (xs.map V.str) us := fun {us xs} z => by
    induction z with
    | nil => exact .nil
    | cons x t _ ih => exact .cons ⟨t, rfl⟩ ih
  have len : ((out.map txv).map V.str).length ≤ sizeLine := by
    obtain ⟨_, _, _, _, lt, _⟩ := R
    rw [List.length_map, pm.length_eq]
    exact fits_of_scanBound lt
  have f : FpOk X pins H p := I.fpOk hp np
  exact ⟨.ref p, _, I1.take (h' := s'.heap) (t' := s'.toks) (o := .lst ((out.map txv).map V.str)) (fun b o _ e => e) f (show ObjOk X.prog X.w _ _ _ (.lst ((out.map txv).map V.str)) from ⟨len, out, c, vals st, hl⟩), rfl, q _ p pm pw np⟩
end
end X3
end L2
/-! {e for a in A for b in B}, the members texts -/
namespace L2
namespace X4
open PySem PySem.Spec PyProof.Rows PySem.Froz X3
abbrev CC (e tA iA tB iB : Expr) (fA fB : List Expr) (sc : Scope) (ps : Pos) : Expr := .SetComp e [⟨tA, iA, fA, 0⟩, ⟨tB, iB, fB, 0⟩] sc ps
theorem turn_a (e tA iA tB iB : Expr) (fA fB : List Expr) (sc : Scope) (ps : Pos) (it acc : Value) (en : Env) :
    compTurn (CC e tA iA tB iB fA fB sc ps) 0 it acc en = (do
      standAt iA.pos
      match ← pyNext it with
      | none => pure (.done .next)
      | some got =>
        letOwnedTupleGo tA it got
        assign tA en got
        let mut go := true
        for q in fA do
          if go then go ← isTrue q en (eval q en)
        if go then
          let src ← eval iB en
          standAt iB.pos
          let src ← foldedSetIterable iB en src
          let _ ← runOwn (.compStart (CC e tA iA tB iB fA fB sc ps) 1 (← holding [src] (pyIter src)) acc en) en
        again (.compLoop (CC e tA iA tB iB fA fB sc ps) 0 it acc en)) := by rfl
theorem turn_b (e tA iA tB iB : Expr) (fA fB : List Expr) (sc : Scope) (ps : Pos) (it acc : Value) (en : Env) :
    compTurn (CC e tA iA tB iB fA fB sc ps) 1 it acc en = (do
      standAt iB.pos
      match ← pyNext it with
      | none => pure (.done .next)
      | some got =>
        letOwnedTupleGo tB it got
        assign tB en got
        let mut go := true
        for q in fB do
          if go then go ← isTrue q en (eval q en)
        if go then
          (do let y ← eval e en; standAt e.pos; let _ ← call (.builtin "set.add") [acc, y])
        again (.compLoop (CC e tA iA tB iB fA fB sc ps) 1 it acc en)) := by rfl
section
variable {P : Program} {w : World} {A : Around} {R : Result → Shared → Prop} {s : Shared} {e tA iA tB iB : Expr} {sc : Scope} {ps : Pos} {it acc : Value} {en : Env}
abbrev Er (P : Program) (w : World) (A : Around) (en : Env) (R : Result → Shared → Prop) : Value → Shared → Prop := notedBy (model P w) A en fun e s' => R (.error e) s'
theorem loop_a (hs : ∀ y, foldedSetIterable iB en y = pure y) (J : Nat → Shared → Prop)
    (turn : ∀ n s, J n s → wpAny (model P w) A (pyNext it) (fun r s1 => match r with
      | none => R (.ok .next) s1
      | some v => wpAny (model P w) A (letOwnedTupleGo tA it v) (fun _ s2 => wpAny (model P w) A (assign tA en v) (fun _ s3 => wpAny (model P w) A (eval iB en) (fun y s4 => wpAny (model P w) A (pyIter y) (fun it1 s5 =>
          codeAny (model P w) A (.compStart (CC e tA iA tB iB [] [] sc ps) 1 it1 acc en) (fun r s' => match r with
            | .ok _ => ∃ m, m < n ∧ J m s'
            | .error _ => False) s5) (Er P w A en R) s4) (Er P w A en R) s3) (Er P w A en R) s2) (Er P w A en R) s1) (Er P w A en R) s)
    (n : Nat) (h : J n s) : codeAny (model P w) A (.compLoop (CC e tA iA tB iB [] [] sc ps) 0 it acc en) R s := by
  refine codeAny_loop rfl J (fun n s hJ => ?_) n h
  show wpAny _ A ((compTurn (CC e tA iA tB iB [] [] sc ps) 0 it acc en).onRaise (fun x => do noteFrame x en; theTreesLotGoes x)) _ _ s
  refine wpAny_noted ?_; rw [turn_a]
  refine wpAny_bind (wpAny_standAt (wpAny_bind (wpAny_mono (turn n s hJ) (fun r s1 h1 => ?_) fun _ _ z => z)))
  match r with
  | none => exact wpAny_pure h1
  | some v =>
    refine wpAny_bind (wpAny_mono h1 (fun _ s2 h2 => wpAny_bind (wpAny_mono h2 (fun _ s3 h3 => ?_) fun _ _ z => z)) fun _ _ z => z)
    refine wpAny_bind (wpAny_pure ?_)
    refine wpAny_bind (wpAny_mono h3 (fun y s4 h4 => wpAny_bind (wpAny_standAt (wpAny_bind (wpAny_of_eq (hs y) (wpAny_bind (wpAny_holding (wpAny_mono h4 (fun it1 s5 h5 => ?_) fun _ _ z => z))))))) fun _ _ z => z)
    refine wpAny_bind (wpAny_runOwn ?_); rw [Around.mark_none]
    refine codeAny_mono h5 fun r s' hr => ?_
    match r with
    | .ok f => first | exact wpAny_pure ⟨rfl, hr⟩ | exact wpAny_bind (wpAny_pure (wpAny_pure ⟨rfl, hr⟩))
    | .error e => exact hr.elim
theorem loop_b (J : Nat → Shared → Prop)
    (turn : ∀ n s, J n s → wpAny (model P w) A (pyNext it) (fun r s1 => match r with
      | none => R (.ok .next) s1
      | some v => wpAny (model P w) A (letOwnedTupleGo tB it v) (fun _ s2 => wpAny (model P w) A (assign tB en v) (fun _ s3 => wpAny (model P w) A (eval e en) (fun y s4 => wpAny (model P w) A (call (.builtin "set.add") [acc, y]) (fun _ s5 => ∃ m, m < n ∧ J m s5)
          (Er P w A en R) s4) (Er P w A en R) s3) (Er P w A en R) s2) (Er P w A en R) s1) (Er P w A en R) s)
    (n : Nat) (h : J n s) : codeAny (model P w) A (.compLoop (CC e tA iA tB iB [] [] sc ps) 1 it acc en) R s := by
  refine codeAny_loop rfl J (fun n s hJ => ?_) n h
  show wpAny _ A ((compTurn (CC e tA iA tB iB [] [] sc ps) 1 it acc en).onRaise (fun x => do noteFrame x en; theTreesLotGoes x)) _ _ s
  refine wpAny_noted ?_; rw [turn_b]
  refine wpAny_bind (wpAny_standAt (wpAny_bind (wpAny_mono (turn n s hJ) (fun r s1 h1 => ?_) fun _ _ z => z)))
  match r with
  | none => exact wpAny_pure h1
  | some v =>
    refine wpAny_bind (wpAny_mono h1 (fun _ s2 h2 => wpAny_bind (wpAny_mono h2 (fun _ s3 h3 => ?_) fun _ _ z => z)) fun _ _ z => z)
    refine wpAny_bind (wpAny_pure ?_)
    exact wpAny_bind (wpAny_bind (wpAny_mono h3 (fun y s4 h4 => wpAny_bind (wpAny_standAt (wpAny_bind (wpAny_mono h4 (fun _ s5 h5 => wpAny_pure (wpAny_pure ⟨rfl, h5⟩)) fun _ _ z => z)))) fun _ _ z => z))
theorem start_b (h0 : codeAny (model P w) A (.compLoop (CC e tA iA tB iB [] [] sc ps) 1 it acc en) R s)
    (h : wpAny (model P w) A (pyIter it) (fun it' s' => codeAny (model P w) A (.compLoop (CC e tA iA tB iB [] [] sc ps) 1 it' acc en) R s') (Er P w A en R) s) :
    codeAny (model P w) A (.compStart (CC e tA iA tB iB [] [] sc ps) 1 it acc en) R s := by
  refine codeAny_of_tree ?_
  show wpAny _ _ ((compStart (CC e tA iA tB iB [] [] sc ps) 1 it acc en).onRaise (fun x => do noteFrame x en; standAt theWindowsPlace)) _ _ s
  refine wpAny_notedAt ?_; unfold compStart
  show wpAny _ _ (ask >>= _) _ _ s
  refine wpAny_bind (wpAny_askSetting (wpAny_ite ?_))
  split
  · first | exact wpAny_bind (wpAny_pure (wpAny_pure (And.intro rfl h0))) | exact wpAny_pure (And.intro rfl h0)
  · first
    | exact wpAny_bind (wpAny_rule (wpAny_bind (wpAny_standAt (wpAny_bind (wpAny_mono h (fun _ _ z => wpAny_pure (And.intro rfl z)) fun _ _ x => x)))))
    | (refine wpAny_bind (wpAny_rule ?_); show wpAny _ _ (standAt iB.pos >>= _) _ _ s; exact wpAny_bind (wpAny_standAt (wpAny_bind (wpAny_mono h (fun _ _ z => wpAny_pure (And.intro rfl z)) fun _ _ x => x))))
end
end X4
end L2
/-! {e for a in A for b in B} read: D the new set -/
namespace L2
namespace X4
open PySem PySem.Spec PyProof.Rows PySem.Froz X3
section
variable {X : Cx}
def tSc2 (P : Program) (w : World) (wA : TI) (gA : TG) (wB : TI) (gB : TG) (te : TE) (vs vB : List Nat) : TE := fun σ H Q => wA σ H fun J H1 => ∀ D, H1 D = none → ∃ W : Nat → Nat → Hp → Prop, (∃ m, W 0 m (upd H1 D (SetTO P w D []))) ∧
  ∀ i m H, W i m H → (J.stop i H ∧ Q (.ref D) H) ∨ (J.go i H ∧ ∃ Nx : Hp → Prop, (∀ H', Nx H' → ∃ m', m' < m ∧ W (i + 1) m' H') ∧
    ∀ x H', J.yld i H x H' → gA x (wipe σ vs) H' fun σ2 H2 => wipe σ2 vs = wipe σ vs ∧ wB σ2 H2 fun J1 H4 => ∃ V : Nat → Nat → Hp → Prop, (∃ m, V 0 m H4) ∧
      ∀ j k H, V j k H → (J1.stop j H ∧ Nx H) ∨ (J1.go j H ∧ ∃ Ny : Hp → Prop, (∀ H', Ny H' → ∃ k', k' < k ∧ V (j + 1) k' H') ∧
        ∀ x H', J1.yld j H x H' → gB x (wipe σ2 vB) H' fun σ3 H5 => wipe σ3 vB = wipe σ2 vB ∧ te σ3 H5 fun y H7 => ∃ l t, y = .str t ∧ H7 D = some (SetTO P w D l) ∧ l.length + 1 < scanBound ∧ Ny (upd H7 D (SetTO P w D (if t ∈ l then l else t :: l)))))
abbrev Blks (X : Cx) (sc : Scope) (q : Cx → Prop) : Prop := ∀ (s : Shared) (H : Hp) (C : Addr) (cl : List (PySem.Str × Addr)) (fp : List Addr), q (X.blk s H sc (compEnvC sc cl C X.env) fp)
theorem core2 {pins : List (Addr × Obj)} {s : Shared} {σ : L2.St} {H : Hp} {Q : VK} {e tA iA tB iB : Expr} {sc : Scope} {own : List (PySem.Str × Nat)} {vB : List Nat} {ps ps' : Pos} {wA wB : TI} {gA gB : TG} {te : TE} {use : Option (Value → Sem Unit)} {Qf : Value → Shared → Prop}
    (hc : X.calm = true) (hN : X.N.Nodup) (I : Inv X pins σ H s) (hA : PI X tA iA wA) (ok : BlkOk X.N X.env.scope sc own) (hv : ∀ i ∈ vB, i ∈ own.map (·.2))
    (hgA : Blks X sc fun X => PG X tA gA) (hB : Blks X sc fun X => PI X tB iB wB) (hgB : Blks X sc fun X => PG X tB gB) (he : Blks X sc fun X => PE X e te)
    (hsA : ∀ x, foldedSetIterable iA X.env x = pure x) (hsB : ∀ en x, foldedSetIterable iB en x = pure x)
    (h : tSc2 X.prog X.w wA gA wB gB te (own.map (·.2)) vB σ H Q)
    (out : ∀ D C s' m H', Inv X pins σ H' s' → Q (.ref D) H' → s'.heap.Ns C m → FpOk X pins H' C → compPost (model X.prog X.w) X.A X.xe use Qf (.ref D) C (.ok .next) s') :
    wpAny (model X.prog X.w) X.A (comprehension (CC e tA iA tB iB [] [] sc ps) sc X.env ps' (newSet (.type "set")) false (eval iA X.env) use) Qf X.xe s := by
  have fr : ∀ y ∈ sc.names, y.2 = .free → ∃ c, X.env.cells.lookup y.1 = some c := fun y hy e => (ok.free y hy e).elim (fun k => I.ok.has _ (.inl k)) (fun k => I.ok.has _ (.inr k))
  refine wpAny_comprehension_free (use := use) rfl hsA (closure_ok fr) ok.kind (fun y hy e => by rw [ok.uniq y hy, e]) (thn (hA.run pins s σ H _ I h) fun xv s1 hx => thn hx fun itv s2 h2 => ?_)
  obtain ⟨it, fp, tn, J, H2, ev, I2, T, st2, f2, q⟩ := h2
  subst ev
  refine PpSet.newSet_ok (newEnv_comp ?_)
  generalize hD : s2.heap.objs.size = D
  obtain ⟨W, ⟨m0, w0⟩, turn⟩ := q D (I2.hok.fresh (Nat.le_of_eq hD))
  generalize hs3 : ({ s2 with heap := s2.heap.push { cls := .type "set", dict := none, data := .set #[] 0 (.fresh 0 0 (!X.w.params.followText "set-order")) } } : Shared) = s3
  have I3 : Inv X pins σ (upd H2 D (SetTO X.prog X.w D [])) s3 := by
    rw [← hs3]; refine I2.laid (t' := s2.toks) (fun b o e => Heap.get?_push_of_some _ e) (Nat.le_of_eq hD) ?_
    rw [← hD]; exact setTO_new setT_fresh
  have h3 : s3.heap = s2.heap.push { cls := .type "set", dict := none, data := .set #[] 0 (.fresh 0 0 (!X.w.params.followText "set-order")) } := by rw [← hs3]
  have sz : ∀ b ∈ fp, b < s2.heap.objs.size := fun b hb => let ⟨_, e, _⟩ := T.obj _ _ st2 b hb; Heap.lt_size e
  have f3 : ∀ b ∈ fp, FpOk X pins (upd H2 D (SetTO X.prog X.w D [])) b ∧ b < s3.heap.objs.size := fun b hb =>
    ⟨⟨by rw [upd_ne (by rw [← hD]; exact Nat.ne_of_lt (sz b hb))]; exact (f2 b hb).1, (f2 b hb).2⟩, by rw [h3, Heap.size_push]; exact Nat.lt_succ_of_lt (sz b hb)⟩
  have st3 : tn 0 s3.heap := T.keep _ _ _ st2 fun b _ o e => by rw [h3]; exact Heap.get?_push_of_some _ e
  have I4 := block_start I3 ok hN f3
  generalize hH3 : upd H2 D (SetTO X.prog X.w D []) = H3 at I3 I4 w0 f3
  have pgA := hgA s3 H3 s3.heap.objs.size (cellsFrom (s3.heap.objs.size + 1) sc.names (cloFrom X.env.cells sc.names [])) fp
  have piB := hB s3 H3 s3.heap.objs.size (cellsFrom (s3.heap.objs.size + 1) sc.names (cloFrom X.env.cells sc.names [])) fp
  have pgB := hgB s3 H3 s3.heap.objs.size (cellsFrom (s3.heap.objs.size + 1) sc.names (cloFrom X.env.cells sc.names [])) fp
  have pe := he s3 H3 s3.heap.objs.size (cellsFrom (s3.heap.objs.size + 1) sc.names (cloFrom X.env.cells sc.names [])) fp
  show codeAny _ _ (.compStart (CC e tA iA tB iB [] [] sc ps) 0 (.ref it) (.ref D) (compEnvC sc (cellsFrom (s3.heap.objs.size + 1) sc.names (cloFrom X.env.cells sc.names [])) s3.heap.objs.size X.env)) (compPost (model X.prog X.w) X.A X.xe use Qf (.ref D) s3.heap.objs.size) { s3 with heap := pushCells (s3.heap.push { cls := .type "dict", data := .dict #[] }) sc.names }
  generalize hce : compEnvC sc (cellsFrom (s3.heap.objs.size + 1) sc.names (cloFrom X.env.cells sc.names [])) s3.heap.objs.size X.env = ce at I4 pgA piB pgB pe ⊢
  have cL : ce.locals = s3.heap.objs.size := by rw [← hce]; rfl
  generalize hs4 : ({ s3 with heap := pushCells (s3.heap.push { cls := .type "dict", data := .dict #[] }) sc.names } : Shared) = s4 at I4 ⊢
  have st4 : tn 0 s4.heap := T.keep _ _ _ st3 fun b _ o e => by rw [← hs4]; exact pushCells_keeps _ _ _ _ (Heap.get?_push_of_some _ e)
  generalize hX' : X.blk s3 H3 sc ce fp = X' at I4 pgA piB pgB pe
  have e1 : X'.prog = X.prog := by rw [← hX']
  have e2 : X'.w = X.w := by rw [← hX']
  have e3 : X'.K = X.K := by rw [← hX']
  have e4 : X'.calm = true := by rw [← hX']; exact hc
  subst hX'
  have stat : ∀ {σ' : L2.St} {H' : Hp} {s' : Shared}, Inv (X.blk s3 H3 sc ce fp) [] σ' H' s' → (∀ b ∈ fp, H' b = none) → ∀ b ∈ fp, FpOk (X.blk s3 H3 sc ce fp) [] H' b := fun I' hn b hb =>
    ⟨hn b hb, (I'.ok.exf b hb).1, I'.ok.exfs b hb, .inl hb, fun x c e => (I'.ok.exf b hb).2 x c e, fun p hp => absurd (show p ∈ ([] : List (Addr × Obj)) ++ [] from hp) (by simp)⟩
  have loop : codeAny (model X.prog X.w) X.A (.compLoop (CC e tA iA tB iB [] [] sc ps) 0 (.ref it) (.ref D) ce) (compPost (model X.prog X.w) X.A X.xe use Qf (.ref D) s3.heap.objs.size) s4 := by
    refine loop_a (hsB ce) (fun n s' => ∃ i H', Inv (X.blk s3 H3 sc ce fp) [] (wipe σ (own.map (·.2))) H' s' ∧ tn i s'.heap ∧ (∀ b ∈ fp, H' b = none) ∧ W i n H') ?_ m0 ⟨0, H3, I4, st4, fun b hb => (f3 b hb).1.1, w0⟩
    rintro n s5 ⟨i, H5, I5, st5, n5, w5⟩
    rcases turn i n H5 w5 with ⟨stop, qq⟩ | ⟨go, Nx, hNx, step⟩
    · refine thnF (T.done (X.blk s3 H3 sc ce fp) e1 e2 e3 e4 i [] s5 _ H5 (fun _ _ => False) I5 (stat I5 n5) st5 stop) fun r s6 ⟨hr, I6⟩ => ?_
      subst hr
      have I7 : Inv X pins σ H5 s6 := I3.call' (ch := fp) I6.os I6.base I6.hok I6.bare fun b hb => ⟨(f3 b hb).1.2.2.2.1, (f3 b hb).1.2.1, (f3 b hb).1.2.2.2.2.1, (f3 b hb).1.2.2.2.2.2⟩
      have nC : H5 s3.heap.objs.size = none := by have z : H5 ce.locals = none := I6.free; rw [cL] at z; exact z
      obtain ⟨m, hn, _⟩ := I6.loc
      have hn : s6.heap.Ns ce.locals m := hn
      rw [cL] at hn
      exact out D s3.heap.objs.size s6 m H5 I7 qq hn (I3.fpOk (Nat.le_refl _) nC)
    · refine thnF (T.item (X.blk s3 H3 sc ce fp) e1 e2 e3 e4 i [] s5 _ H5 (fun _ _ => False) I5 (stat I5 n5) st5 go) fun r s6 ⟨u, hr, h6⟩ => ?_
      subst hr
      refine thnF h6 fun _ s7 ⟨x, H7, I7, r7, y7, st7, n7⟩ => ?_
      refine thnF (pgA.run _ s7 _ H7 x u _ (I7.pinned (stat I7 n7) (T.obj _ _ st7)) r7 (step x H7 y7)) fun _ s8 ⟨σ8, H8, I8, hw8, q8⟩ => ?_
      have fin : ∀ {σ9 : L2.St} {s' : Shared} {H' : Hp}, Inv (X.blk s3 H3 sc ce fp) ([] ++ pinsAt fp s7.heap) σ9 H' s' → (wipe σ (own.map (·.2))).length = σ9.length → (∀ (j : Nat) v, (wipe σ (own.map (·.2)))[j]? = some (some v) → σ9[j]? = some (some v)) → Nx H' →
          ∃ m, m < n ∧ ∃ i H', Inv (X.blk s3 H3 sc ce fp) [] (wipe σ (own.map (·.2))) H' s' ∧ tn i s'.heap ∧ (∀ b ∈ fp, H' b = none) ∧ W i m H' := fun {σ9 s' H'} I' hl hk nx => by
        obtain ⟨m', hm, w'⟩ := hNx H' nx
        have pin : ∀ b ∈ fp, ∀ o, s7.heap.get? b = some o → s'.heap.get? b = some o ∧ H' b = none := fun b hb o e => let z := I'.pin (b, o) (List.mem_append_right _ (List.mem_append_right _ (mem_pinsAt hb e))); ⟨z.1, z.2.1⟩
        exact ⟨m', hm, i + 1, H', (I'.unpinned (pins := [])).weak hl hk, T.keep _ _ _ st7 fun b hb o e => (pin b hb o e).1, fun b hb => let ⟨o, e, _⟩ := T.obj _ _ st7 b hb; (pin b hb o e).2, w'⟩
      have l8 : (wipe σ (own.map (·.2))).length = σ8.length := by rw [← hw8, wipe_length]
      have k9 : ∀ (j : Nat) v, (wipe σ (own.map (·.2)))[j]? = some (some v) → (wipe σ8 vB)[j]? = some (some v) := fun j v e => by
        rw [← hw8] at e; obtain ⟨a1, a2⟩ := wipe_some e; rw [wipe_out fun z => a2 (hv j z)]; exact a1
      refine thnF (piB.run _ s8 σ8 H8 _ I8 q8) fun xv s10 hx => thnF hx fun itv s11 h11 => ?_
      obtain ⟨it1, fp1, tn1, J1, H11, ev1, I11, T1, st11, f11, V, ⟨m1, w1⟩, turn1⟩ := h11
      subst ev1
      have stat1 : ∀ {H' : Hp}, (∀ b ∈ fp1, H' b = none) → ∀ b ∈ fp1, FpOk (X.blk s3 H3 sc ce fp) ([] ++ pinsAt fp s7.heap) H' b := fun hn b hb => ⟨hn b hb, (f11 b hb).2⟩
      have inner : codeAny (model X.prog X.w) X.A (.compLoop (CC e tA iA tB iB [] [] sc ps) 1 (.ref it1) (.ref D) ce)
          (fun r s' => match r with
            | .ok _ => ∃ m, m < n ∧ ∃ i H', Inv (X.blk s3 H3 sc ce fp) [] (wipe σ (own.map (·.2))) H' s' ∧ tn i s'.heap ∧ (∀ b ∈ fp, H' b = none) ∧ W i m H'
            | .error _ => False) s11 := by
        refine loop_b (fun k s' => ∃ j H', Inv (X.blk s3 H3 sc ce fp) ([] ++ pinsAt fp s7.heap) (wipe σ8 vB) H' s' ∧ tn1 j s'.heap ∧ (∀ b ∈ fp1, H' b = none) ∧ V j k H') ?_ m1 ⟨0, H11, I11.weak (wipe_length _ _) (fun j v e => (wipe_some e).1), st11, fun b hb => (f11 b hb).1, w1⟩
        rintro k s12 ⟨j, H12, I12, st12, n12, w12⟩
        rcases turn1 j k H12 w12 with ⟨stop1, nx1⟩ | ⟨go1, Ny, hNy, step1⟩
        · refine thnF (T1.done (X.blk s3 H3 sc ce fp) rfl rfl rfl hc j _ s12 (wipe σ8 vB) H12 (fun _ _ => False) I12 (stat1 n12) st12 stop1) fun r s13 ⟨hr, I13⟩ => ?_
          subst hr
          exact fin I13 (l8.trans (wipe_length σ8 vB).symm) k9 nx1
        · refine thnF (T1.item (X.blk s3 H3 sc ce fp) rfl rfl rfl hc j _ s12 (wipe σ8 vB) H12 (fun _ _ => False) I12 (stat1 n12) st12 go1) fun r s13 ⟨u1, hr, h13⟩ => ?_
          subst hr
          refine thnF h13 fun _ s14 ⟨x1, H14, I14, r14, y14, st14, n14⟩ => ?_
          refine thnF (pgB.run _ s14 (wipe σ8 vB) H14 x1 u1 _ (I14.pinned (stat1 n14) (T1.obj _ _ st14)) r14 (step1 x1 H14 y14)) fun _ s15 ⟨σ15, H15, I15, hw15, q15⟩ => ?_
          refine thnF (pe.run _ s15 σ15 H15 _ I15 q15) fun z s17 ⟨yv, H17, I17, r17, l, t, ey, hD17, room, ny⟩ => ?_
          subst ey
          obtain ⟨tk, rfl⟩ : ∃ tk, z = .str t tk := r17
          refine addT_ok (X := X.blk s3 H3 sc ce fp) I17 hD17 room fun s18 I18 => ?_
          obtain ⟨m', hm, w'⟩ := hNy _ ny
          have pin : ∀ b ∈ fp1, ∀ o, s14.heap.get? b = some o → s18.heap.get? b = some o ∧ _ := fun b hb o e => let z := I18.pin (b, o) (List.mem_append_right _ (List.mem_append_right _ (mem_pinsAt hb e))); ⟨z.1, z.2.1⟩
          exact ⟨m', hm, j + 1, _, I18.unpinned.weak (by rw [← hw15, wipe_length]) (fun j v e => by rw [← hw15] at e; exact (wipe_some e).1), T1.keep _ _ _ st14 fun b hb o e => (pin b hb o e).1, fun b hb => let ⟨o, e, _⟩ := T1.obj _ _ st14 b hb; (pin b hb o e).2, w'⟩
      exact start_b inner (T1.self X.A 0 _ _ _ st11 inner)
  exact codeAny_compStart_set loop (T.self X.A 0 _ _ _ st4 loop)
theorem pe_sc2 {e tA iA tB iB : Expr} {sc : Scope} {own : List (PySem.Str × Nat)} {vB : List Nat} {ps : Pos} {wA wB : TI} {gA gB : TG} {te : TE} (hc : X.calm = true) (hN : X.N.Nodup) (hA : PI X tA iA wA) (ok : BlkOk X.N X.env.scope sc own) (hv : ∀ i ∈ vB, i ∈ own.map (·.2))
    (hgA : Blks X sc fun X => PG X tA gA) (hB : Blks X sc fun X => PI X tB iB wB) (hgB : Blks X sc fun X => PG X tB gB) (he : Blks X sc fun X => PE X e te)
    (hsA : ∀ x, foldedSetIterable iA X.env x = pure x := by intro _; rfl) (hsB : ∀ en x, foldedSetIterable iB en x = pure x := by intro _ _; rfl) :
    PE X (.SetComp e [⟨tA, iA, [], 0⟩, ⟨tB, iB, [], 0⟩] sc ps) (tSc2 X.prog X.w wA gA wB gB te (own.map (·.2)) vB) := by
  refine ⟨fun pins s σ H Q I h => ?_⟩
  rw [PpSet.eval_SetComp]
  refine core2 hc hN I hA ok hv hgA hB hgB he hsA hsB h fun D C s' m H' I' q hn f => ⟨m, hn, fun h'' sb => ?_⟩
  obtain ⟨f0, f1, f2, f3, f4, f5⟩ := f
  exact ⟨.ref D, H', I'.turned (t' := s'.toks) (fun b o hb e => (sb.2 b hb).trans e) f0 f1 f3 f4 f5, rfl, q⟩
end
end X4
end L2
/-! len(set(list of unlike texts)) -/
namespace L2
namespace X5
open PySem PySem.Spec PyProof.Rows
section
variable {P0 : Program} {w : World} {A : Around} {R : Result → Shared → Prop} {it : Addr} {fp wr : List Addr} {G : Array GenState → Array GenState → Prop} {n : Nat} {Y : Nat → Value → Prop} {St : Nat → Shared → Prop}
def has (zs : List PySem.Str) (i : Nat) : PySem.Str → Bool := fun k => (zs.take i).any (· == k)
theorem has_succ {zs : List PySem.Str} {i : Nat} {x : PySem.Str} (e : zs[i]? = some x) (k : PySem.Str) : has zs (i + 1) k = (has zs i k || decide (k = x)) := by
  unfold has
  rw [List.take_add_one, e]
  simp only [List.any_append, Option.toList, List.any_cons, List.any_nil, Bool.or_false]
  congr 1
  by_cases c : k = x
  · simp [c]
  · simp only [c, decide_false, beq_eq_false_iff_ne, ne_eq]
    exact fun z => c z.symm
theorem has_not {zs : List PySem.Str} (nd : zs.Nodup) {i : Nat} {x : PySem.Str} (e : zs[i]? = some x) : has zs i x = false := by
  unfold has
  rw [List.any_eq_false]
  intro y hy
  obtain ⟨j, hj⟩ := List.getElem?_of_mem hy
  have hj' := hj
  rw [List.getElem?_take] at hj'
  by_cases c : j < i
  · rw [if_pos c] at hj'
    intro z
    have eyx : y = x := by simpa using z
    have lt1 : i < zs.length := (List.getElem?_eq_some_iff.mp e).1
    have lt2 : j < zs.length := (List.getElem?_eq_some_iff.mp hj').1
    have a1 := (List.getElem?_eq_some_iff.mp e).2
    have a2 := (List.getElem?_eq_some_iff.mp hj').2
    exact absurd (a2.trans (eyx.trans a1.symm)) (List.pairwise_iff_getElem.mp nd j i lt2 lt1 c)
  · rw [if_neg c] at hj'
    cases hj'
theorem loopN (W : WalksS P0 w A.in1 it fp wr G n Y St) (D : Addr) (hD : D ∉ fp) (zs : List PySem.Str) (sz : zs.length = n) (nd : zs.Nodup) (room : n + 1 < scanBound)
    (val : ∀ i v, Y i v → ∃ t, v = .str (zs.getD i PySem.Str.empty) t) :
    ∀ (k i : Nat) (s : Shared), n - i = k → i ≤ n → St i s → s.heap.SetOf (PySem.strKind P0 w) D (has zs i) i →
      (∀ s', Moved (D :: wr) G s s' → s'.heap.SetOf (PySem.strKind P0 w) D (has zs n) n → R (.ok (.ret .none)) s') →
      codeAny (model P0 w) A (.builtin "set.update.loop" ⟨[.ref D, .ref it], []⟩) R s := by
  have dw : D ∉ wr := fun h => hD (W.sub _ h)
  intro k
  induction k with
  | zero =>
    intro i s hk hi hst hS hR
    have hin : i = n := by omega
    subst hin
    refine codeAny_builtin F.entry_set_update_loop ?_; rw [Around.under_plainId F.plain_set_update_loop _]
    show wpAny _ A.in1 (pyNext (.ref it) >>= _) _ _ s
    refine wpAny_bind (W.done s _ _ hst fun s' hm => ?_)
    show wpAny _ A.in1 (ret Value.none) _ _ s'
    refine wpAny_pure (hR s' (hm.mono fun b hb => List.mem_cons_of_mem _ hb) ?_)
    obtain ⟨o, es, ep, t, ho, rest⟩ := hS
    exact ⟨o, es, ep, t, hm.heap D _ dw ho, rest⟩
  | succ k ih =>
    intro i s hk hi hst hS hR
    have lt : i < n := by omega
    have ltz : i < zs.length := by omega
    refine codeAny_builtin F.entry_set_update_loop ?_; rw [Around.under_plainId F.plain_set_update_loop _]
    show wpAny _ A.in1 (pyNext (.ref it) >>= _) _ _ s
    refine wpAny_bind (W.item i s _ _ lt hst fun v s' hP hst' hm => ?_)
    obtain ⟨t, rfl⟩ := val i v hP
    have hS' : s'.heap.SetOf (PySem.strKind P0 w) D (has zs i) i := by
      obtain ⟨o, es, ep, tb, ho, rest⟩ := hS
      exact ⟨o, es, ep, tb, hm.heap D _ dw ho, rest⟩
    have ei : zs[i]? = some (zs.getD i PySem.Str.empty) := by rw [List.getD_eq_getElem?_getD, List.getElem?_eq_getElem ltz]; rfl
    generalize zs.getD i PySem.Str.empty = x at ei
    show wpAny _ A.in1 (holding [Value.str x t] (setAdd D (.str x t)) >>= _) _ _ s'
    refine wpAny_bind (wpAny_holding ?_); unfold setAdd; refine wpAny_holding ?_
    refine wpAny_bind ((PySem.strKind P0 w).pyHash (k := x) (strKind_is _ _ _ _) ?_)
    refine wpAny_setAddHashed_of (knd := PySem.strKind P0 w) (s := { s' with toks := s'.toks + 1 }) (strKind_is _ _ _ _) rfl hS' (by omega) fun h' sb hS2 => ?_
    have hSi : h'.SetOf (PySem.strKind P0 w) D (has zs (i + 1)) (i + 1) := SetOf_congr hS2 (fun k' => (has_succ ei k').symm) (by rw [has_not nd ei]; rfl)
    refine wpAny_pure ⟨plainId_quiet F.plain_set_update_loop _, ih (i + 1) _ (by omega) lt (W.frame _ s' _ _ hst' (Nat.le_succ _) fun b hb o e => ?_) hSi fun s'' hm'' hS'' => ?_⟩
    · exact (sb.2 b fun z : b = D => hD (z ▸ hb)).trans e
    · refine hR s'' (Moved.trans W.gtrans ((hm.mono fun b hb => List.mem_cons_of_mem _ hb).then_heap (Nat.le_succ _) fun b o hb e => (sb.2 b fun z : b = D => hb (by rw [z]; exact List.mem_cons_self)).trans e) hm'') hS''
end
section
variable {P0 : Program} {w : World} {A : Around} {E : Value → Shared → Prop} {s : Shared}
set_option maxHeartbeats 3200000 in
theorem call_set_unlike {l : Addr} {ar : Array Value} {zs : List PySem.Str} {Q : Value → Shared → Prop} (hh : A.handled = none) (hl : s.heap.IsList l ar) (hi : StrsAre ar.toList zs) (nd : zs.Nodup) (room : ar.size + 1 < scanBound)
    (h : ∀ (h' : Heap) (tk : Nat), h'.SetOf (PySem.strKind P0 w) s.heap.objs.size (has zs ar.size) ar.size → (∀ b o, b < s.heap.objs.size → s.heap.get? b = some o → h'.get? b = some o) → Q (.ref s.heap.objs.size) { s with heap := h', toks := tk }) :
    wpAny (model P0 w) A (call (.type "set") [.ref l]) Q E s := by
  obtain ⟨c, tl, hmro⟩ := PySem.F.called_set.mro
  have made := PySem.F.called_set.made
  have sub := PySem.F.called_set.sub
  refine wpAny_call (codeAny_of_tree ?_); show wpAny _ _ (callAny (.type "set") _) _ _ _
  refine wpAny_pure ⟨Code.quiet_builtin _ (by decide +kernel), codeAny_builtin PySem.F.entry_type_call ?_⟩
  rw [Around.under_plain (weight_type_call_type "set" [.ref l] []) rfl]
  have nt := PySem.F.called_set.notType
  have cc := PySem.F.called_set.canCreate
  have ct := PySem.F.typeCall_set_1 (.ref l)
  repeat (any_goals (first | assumption | wp_step))
  generalize hS0 : s.heap.objs.size = D at h ⊢
  refine codeAny_mono (code_set_new_1 (.ref l) (E := E) (Q₁ := fun obj s1 => ∃ led : Bool, obj = .ref s.heap.objs.size ∧ s1 = { s with heap := s.heap.push { cls := .type "set", dict := none, data := .set #[] 0 (.fresh 0 0 led) } }) fun led => ⟨led, rfl, rfl⟩) fun r s1 hr => ?_
  subst hS0
  match r with
  | .error e => exact hr
  | .ok (.ret obj) =>
      obtain ⟨led, rfl, rfl⟩ := hr
      have at0 : (s.heap.push { cls := .type "set", dict := none, data := .set #[] 0 (.fresh 0 0 led) }).get? s.heap.objs.size = some { cls := .type "set", dict := none, data := .set #[] 0 (.fresh 0 0 led) } := Heap.get?_push_size _ rfl
      have ty : Shared.TypeIs { s with heap := s.heap.push { cls := .type "set", dict := none, data := .set #[] 0 (.fresh 0 0 led) } } (.ref s.heap.objs.size) "set" := ⟨_, at0, rfl⟩
      have li := PySem.F.called_set.init.lookup
      have bi := PySem.F.called_set.init.bind (.ref s.heap.objs.size)
      repeat (any_goals (first | assumption | wp_step))
      refine codeAny_mono (codeAny_call_builtin (R := wants (fun r s2 => r = .none ∧ ∃ h' tk, s2 = { s with heap := h', toks := tk } ∧ h'.SetOf (PySem.strKind P0 w) s.heap.objs.size (has zs ar.size) ar.size ∧
          (∀ b o, b < s.heap.objs.size → s.heap.get? b = some o → h'.get? b = some o)) E) PySem.F.called_set.init.plain PySem.F.entry_set_init (check_set_init_1 ty ?_)) fun r2 s2 hr2 => ?_
      · obtain ⟨ol, hol, hcl, nl, hdl⟩ := hl
        obtain ⟨ocls, odict, odata, oslots⟩ := ol
        simp only at hcl hdl
        subst hcl hdl
        have atl : (s.heap.push { cls := .type "set", dict := none, data := .set #[] 0 (.fresh 0 0 led) }).get? l = some { cls := .type "list", dict := odict, data := .seq ar nl, slots := oslots } := Heap.get?_push_of_some _ hol
        have sls := PySem.F.sub_list_set
        have slf := PySem.F.sub_list_frozenset
        have lnd : (Value.type "list" == Value.type "dict") = false := by decide
        have isl : (s.heap.push { cls := .type "set", dict := none, data := .set #[] 0 (.fresh 0 0 led) }).IsList l ar := ⟨_, atl, rfl, nl, rfl⟩
        unfold Builtin.«set.__init__» noKeywords Builtin.Frozenset.updateFrom
        generalize hPI : pyIter = PI
        wp_walk
        subst hPI
        refine wpAny_pyIter_list isl ?_
        refine wpAny_bind (wpAny_runValue ?_)
        have lS : l < s.heap.objs.size := Heap.lt_size hol
        have lI : l ≠ (s.heap.push { cls := .type "set", dict := none, data := .set #[] 0 (.fresh 0 0 led) }).objs.size := by rw [Heap.size_push]; exact Nat.ne_of_lt (Nat.lt_succ_of_lt lS)
        have nf : s.heap.objs.size ∉ [(s.heap.push { cls := .type "set", dict := none, data := .set #[] 0 (.fresh 0 0 led) }).objs.size, l] := by
          rw [Heap.size_push]; simp only [List.mem_cons, List.not_mem_nil, or_false, not_or]
          exact ⟨Nat.ne_of_lt (Nat.lt_succ_self _), Nat.ne_of_gt lS⟩
        have sz : zs.length = ar.size := by rw [← StrsAre.len_eq hi, Array.length_toList]
        refine loopN ((Walks.list (show A.in1.in1.in1.handled = none by simp [hh]) _ l lI ar).toS) s.heap.objs.size nf zs sz nd room (fun i v hv => SS.strs_at hi i v (by rw [Array.getElem?_toList]; exact hv)) (ar.size - 0) 0 _ (by omega) (Nat.zero_le _)
          ⟨⟨_, Heap.get?_push_size _ rfl, rfl, rfl⟩, (isl.push _)⟩ ?gA ?gB
        case gA =>
          have g : ((s.heap.push { cls := .type "set", dict := none, data := .set #[] 0 (.fresh 0 0 led) }).push { cls := .type "list_iterator", data := .fields #[.ref l, .int 0 0] }).get? s.heap.objs.size = some { cls := .type "set", dict := none, data := .set #[] 0 (.fresh 0 0 led) } := Heap.get?_push_of_some _ at0
          exact SetOf_congr ((setObjOf_fresh (knd := PySem.strKind P0 w) led).setOf g (by unfold scanBound; omega)) (fun _ => rfl) rfl
        case gB =>
          intro s' hm hS'
          obtain ⟨h', g', d', tk', os'⟩ := s'
          obtain rfl : g' = s.gens := hm.gens
          obtain rfl : d' = s.drawn := hm.drawn
          obtain rfl : os' = s.os := hm.os
          show wpAny _ _ _ _ _ _
          refine wpAny_pure ?_
          show wpAny _ _ (ret Value.none) _ _ _
          refine wpAny_pure ⟨rfl, h', tk', rfl, hS', fun b o hb e => hm.heap b o ?_ (Heap.get?_push_of_some _ (Heap.get?_push_of_some _ e))⟩
          rw [Heap.size_push]; simp only [List.mem_cons, List.not_mem_nil, or_false, not_or]
          exact ⟨Nat.ne_of_lt hb, Nat.ne_of_lt (Nat.lt_succ_of_lt hb)⟩
      · match r2 with
        | .error e => exact hr2
        | .ok (.ret r) =>
            obtain ⟨rfl, h', tk, rfl, hS', hk'⟩ := hr2
            repeat (any_goals (first | assumption | wp_step))
            exact h _ _ hS' hk'
        | .ok .next => exact hr2.elim
        | .ok .brk => exact hr2.elim
        | .ok .cont => exact hr2.elim
  | .ok .next => exact hr.elim
  | .ok .brk => exact hr.elim
  | .ok .cont => exact hr.elim
end
section
variable {X : Cx}
/-- len(set(e)), e a list of unlike texts -/
def tLenUnlike (K : PySem.W.Frag) (ta : TE) : TE := fun σ H Q => ta σ H fun x H1 => ∃ l, ∃ zs : List PySem.Str, x = .ref l ∧ SqL K H1 l (zs.map V.str) ∧ zs.Nodup ∧ zs.length + 1 < scanBound ∧ Q (.int zs.length) H1
theorem pe_lenUnlike {a : Expr} {ta : TE} {p p2 q pos : Pos} (hc : X.calm = true) (g1 : Gl X "len") (m1 : X.mg "len" = none) (g2 : Gl X "set") (m2 : X.mg "set" = none) (ha : PE X a ta)
    (na : starEach [a] X.env = (false, eval a X.env) :: starEach [] X.env := by rfl) : PE X (.Call (.Name "len" p) [.Call (.Name "set" p2) [a] [] q] [] pos) (tLenUnlike X.K ta) := by
  refine ⟨fun pins s σ H Q I h => ?_⟩
  refine Call_ (ld_blt I g1 m1 boot_len (callWith_builtin1 (args_cons ?_ rfl) rfl rfl))
  refine Call_ (ld_blt I g2 m2 boot_set (callWith_type1 (args_cons (thn (ha.run pins s σ H _ I h) fun v s1 ⟨x, H1, I1, r1, q1⟩ => args_nil ?_) na) na rfl))
  obtain ⟨l, zs, rfl, hq, nd, rm, q1⟩ := q1
  cases r1
  obtain ⟨its, r, pl, hz⟩ := I1.list hq
  have el : its.toArray.size = zs.length := by rw [List.size_toArray, ← r.length, List.length_map]
  refine X5.call_set_unlike (I1.ok.hd hc) pl.isList (by simpa using strsAre_of r) nd (by omega) fun h' tk hS hk => args_nil ?_
  obtain ⟨o, es, ep, t, ho, hex, hd, _, _, _, hf, hn⟩ := hS
  have I2 : Inv X pins σ H1 { s1 with heap := h', toks := tk } := I1.kept fun b o e => hk b o (Heap.lt_size e) e
  have sb : scanBound < 9223372036854775808 := by decide
  exact call_len_set ho hex hd hf (by rw [hn, el]; omega) ⟨.int zs.length, H1, I2.tok _, ⟨_, by rw [hn, el]⟩, q1⟩
end
end X5
end L2
/-! list(d.values()) -/
namespace L2
namespace X6
open PySem PySem.Spec PyProof.Rows
section
variable {X : Cx} {o : Expr} {p pos apos mpos : Pos} {td : TE}
def tListVals (td : TE) : TE := fun σ H Q => td σ H fun x H1 => ∃ (a : Addr) (kvs : List (Key × V)), x = .ref a ∧ H1 a = some (.dK kvs) ∧ ∀ q, H1 q = none → Q (.ref q) (upd H1 q (.lst (kvs.map (·.2))))
theorem vals_at : ∀ {kvs : List (Key × V)} {vs : List (Key × Value)} {us : List Value}, KV kvs vs → us.length = vs.length → (∀ (j : Nat) v, us[j]? = some v → ∃ k, vs[j]? = some (k, v)) → Vals (kvs.map (·.2)) us
  | _, _, [], .nil, _, _ => .nil
  | _, _, _ :: _, .nil, e, _ => by simp at e
  | _, _, [], .cons _ _, e, _ => by simp at e
  | _, _, u :: us, .cons (a := a) (b := b) r t, e, h => by
    refine .cons ?_ (vals_at t (by simpa using e) fun j v g => ?_)
    · obtain ⟨k, g⟩ := h 0 u rfl
      have g : b = (k, u) := Option.some.inj g
      have r2 := r.2
      rw [g] at r2
      exact r2
    · obtain ⟨k, g2⟩ := h (j + 1) v (by simpa using g)
      exact ⟨k, by simpa using g2⟩
theorem pe_listVals (hc : X.calm = true) (hg : Gl X "list") (hm : X.mg "list" = none) (hd : PE X o td) (hbase : attributeBase o "values" X.env (eval o X.env) = eval o X.env := by rfl) (hline : (apos.endLine == mpos.line) = true := by rfl)
    (hse : starEach [Expr.Call (.Attribute o "values" apos) [] [] mpos] X.env = (false, eval (Expr.Call (.Attribute o "values" apos) [] [] mpos) X.env) :: starEach [] X.env := by rfl) :
    PE X (.Call (.Name "list" p) [.Call (.Attribute o "values" apos) [] [] mpos] [] pos) (tListVals td) := by
  refine ⟨fun pins s σ H Q I h => ?_⟩
  refine wpAny_Call_Name_kw (ld_blt I hg hm (u := .type "list") (by first | rfl | decide +kernel) ?_ (by first | decide +kernel | decide) (by first | decide +kernel | decide))
  refine callWith_type1 (args_cons (wpAny_Call_method0_late hbase hline (thn (hd.run pins s σ H _ I h) fun v s1 ⟨x, H1, I1, r1, a, kvs, ex, ha, q⟩ => ?_)) hse) hse rfl
  subst ex
  obtain rfl : v = Value.ref a := r1
  obtain ⟨hz, hsys, vs, rel, dof⟩ := dk_of I1.hok ha
  obtain ⟨ep, dat⟩ := dof.dictAt
  obtain ⟨ob, es, ho, ex, _⟩ := id dat
  refine ⟨"dict", "dict.values", F.plainAttrs_dict, F.slot_dict_values, F.type_dict_values, ⟨ob, ho, ex.1⟩, fun b e => ?_, Calls.callWith_builtin rfl (PySem.evalArgs_none ?_)⟩
  · cases e
    exact ⟨ob, ho, ex.2.1⟩
  refine call_meetsIn F.slot_dict_values ⟨ob, ho, ex.1⟩ F.entry_dict_values (F.args_dict_values_1 _) (meets_dict_values (mixKind X.prog X.w) a hsys) ⟨⟨vs, dof⟩, ?_⟩
  refine args_nil ?_
  have old : ∀ b u, s1.heap.get? b = some u → (s1.heap.push { cls := .type "dict_values", data := .fields #[.ref a] }).get? b = some u := fun b u e => Heap.get?_push_of_some _ e
  have dat1 : (s1.heap.push { cls := .type "dict_values", data := .fields #[.ref a] }).DictAt (mixKind X.prog X.w) a vs ep := dat.keep old
  refine PySem.W.kdl_call (PySem.W.kdl_values (knd := mixKind X.prog X.w) (r := s1.heap.objs.size) (d := a) (kvs := vs) (ep := ep)) (I1.ok.hd hc) ⟨⟨_, Heap.get?_push_size _ rfl, rfl, rfl⟩, dat1⟩ (by rw [← KV.length rel]; exact hz) fun h' tk acc c' hk hD hacc => ?_
  have sz : s1.heap.objs.size ≤ (s1.heap.push { cls := .type "dict_values", data := .fields #[.ref a] }).objs.size := by rw [Heap.size_push]; exact Nat.le_succ _
  have hv : Vals (kvs.map (·.2)) acc.toList := vals_at rel (by rw [Array.length_toList]; exact hacc.1) fun j v e => hacc.2 j v (by rw [← Array.getElem?_toList]; exact e)
  exact ⟨.ref _, _, I1.laid (t' := tk) (fun b u e => hk b u (old b u e)) sz (show ObjOk X.prog X.w _ _ _ (.lst (kvs.map (·.2))) from ⟨by rw [List.length_map]; exact hz, acc.toList, c', hv, by rw [Array.toArray_toList]; exact hD⟩), rfl, q _ (I1.hok.fresh sz)⟩
end
end X6
end L2
/-! == and != of desks, also of such as start elsewhere -/
namespace L2
namespace D2
open PySem PySem.Spec PyProof.Rows D1
/-- an own == that tells r -/
def spEqB (R : Addr → Addr → Bool → Hp → Prop) : Sp := fun vs H Q _ => ∃ a b r, vs = [.ref a, .ref b] ∧ R a b r H ∧ Q (.bl r) H
/-- every object of the class has this ==, and no own != -/
structure NeF (K : PySem.W.Frag) (C f : Addr) : Prop where
  ne : ∀ (h : Heap) (x : Addr) (o : Obj), K.In h → h.get? x = some o → o.cls = .ref C → h.OwnEqNoNe x C f "object" [.type "object"]
def rEqB (C : Addr) (R : Addr → Addr → Bool → Hp → Prop) (w : Bool → Bool) : R2 := fun x y H Q => ∃ a b dx dy fs gs r, x = .ref a ∧ y = .ref b ∧ H a = some (.ins C dx fs) ∧ H b = some (.ins C dy gs) ∧ R a b r H ∧ Q (.bl (w r)) H
section
variable {X : Cx} {n : Nat}
theorem call_eqB {CX : CXT} {f : Addr} {fd : FuncData} {ps : List PySem.Str} {R : Addr → Addr → Bool → Hp → Prop} {E : XK} (F : FnOk X.prog X.w X.K X.mg X.base CX n f fd ps (spEqB R)) (hb : Binds X.K fd ps []) (hx : Passes CX X E)
    {A : Around} (rm : Room n A) (fr : A.frames = X.A.frames) {pins : List (Addr × Obj)} {σ : L2.St} {H : Hp} {s : Shared} (I : Inv X pins σ H s) {a b : Addr} {r : Bool} (hr : R a b r H) :
    wpAny (model X.prog X.w) A (call (.ref f) [.ref a, .ref b]) (fun v s' => v = .bool r ∧ Inv X pins σ H s') X.xe s := by
  have hsp : spEqB R [.ref a, .ref b] H (fun v H' => v = .bl r ∧ H' = H) E := ⟨a, b, r, rfl, hr, rfl, rfl⟩
  have e0 : Env0 X.prog X.w X.K X.mg X.base A X.stack s H := by
    have e := I.env0
    exact ⟨by rw [fr]; exact e.frames, e.mod, e.bs, e.bsz, e.funs, e.frf, e.hok, e.bare⟩
  have hl := F.len _ _ _ _ hsp
  have bn := hb s [.ref a, .ref b] I.kIn (by simpa using hl)
  refine wpAny_call (codeAny_mono (F.run A X.stack s H ⟨[.ref a, .ref b], []⟩ [.ref a, .ref b] [.ref a, .ref b] _ E rm e0 (by simpa using bn) (.cons rfl (.cons rfl .nil)) hsp) fun r' s' hq => ?_)
  match r' with
  | .error e => exact hx pins σ H s e s' I hq
  | .ok (.ret w) =>
    obtain ⟨z, H', I', rz, ez, ex⟩ := I.after hq
    subst ez ex
    cases rz
    exact ⟨rfl, I'⟩
  | .ok .next => exact False.elim hq
  | .ok .brk => exact False.elim hq
  | .ok .cont => exact False.elim hq
theorem op_eqB {CX : CXT} {C f : Addr} {fd : FuncData} {ps : List PySem.Str} {R : Addr → Addr → Bool → Hp → Prop} {E : XK} (F : FnOk X.prog X.w X.K X.mg X.base CX n f fd ps (spEqB R)) (hb : Binds X.K fd ps []) (hx : Passes CX X E)
    (hs : PySem.W.findIn X.K (.ref C) "__eq__" = some (some (.ref f))) (hf : PySem.W.isFn X.K (.ref f) = true) (rm : Room n X.A) : OpR X (compareOp .Eq) (rEqB C R id) := by
  intro pins s σ H x y v u Q I rx ry hq
  obtain ⟨a, b, dx, dy, fs, gs, r, rfl, rfl, ha, hb', hr, q⟩ := hq
  obtain rfl : v = Value.ref a := rx
  obtain rfl : u = Value.ref b := ry
  obtain ⟨mA, J, _⟩ := ins_get I.hok ha
  obtain ⟨mB, J', _⟩ := ins_get I.hok hb'
  obtain ⟨od, J, _⟩ := J.look
  obtain ⟨od', J', _⟩ := J'.look
  obtain ⟨m, hF⟩ := I.fr
  show wpAny (model X.prog X.w) X.A (richCompare .Eq (.ref a) (.ref b)) (EP X pins σ Q) X.xe s
  refine PySem.W.cmp_K (op := .Eq) (tb := .ref C) rm.units0 hF I.ok.mod.kin J J'.type (by simp [PySem.W.notFirst]) hs hf (wpAny_mono (call_eqB F hb hx rm rfl I hr) (fun v' s' hv => ?_) fun _ _ z => z)
  obtain ⟨rfl, I'⟩ := hv
  exact ⟨.bl r, H, I', rfl, q⟩
theorem op_neB {CX : CXT} {C f : Addr} {fd : FuncData} {ps : List PySem.Str} {R : Addr → Addr → Bool → Hp → Prop} {E : XK} (F : FnOk X.prog X.w X.K X.mg X.base CX n f fd ps (spEqB R)) (hb : Binds X.K fd ps []) (hx : Passes CX X E)
    (N : NeF X.K C f) (rm : Room (n + 1) X.A) : OpR X (compareOp .NotEq) (rEqB C R not) := by
  intro pins s σ H x y v u Q I rx ry hq
  obtain ⟨a, b, dx, dy, fs, gs, r, rfl, rfl, ha, hb', hr, q⟩ := hq
  obtain rfl : v = Value.ref a := rx
  obtain rfl : u = Value.ref b := ry
  obtain ⟨_, _, _, e1, _⟩ := (show ObjOk X.prog X.w H s.heap a (.ins C dx fs) from I.hok a _ ha)
  obtain ⟨_, _, _, e2, _⟩ := (show ObjOk X.prog X.w H s.heap b (.ins C dy gs) from I.hok b _ hb')
  have own := N.ne s.heap a _ I.kIn e1 rfl
  refine compareOp_ne_ownEq PySem.F.cmp_object own e2 rfl ?_ (wpAny_mono (call_eqB (s := s) F hb hx rm.in1 rfl I hr) (fun v' s' hv => ?_) fun _ _ z => z)
  · exact Nat.lt_of_le_of_lt (Nat.add_le_add_left (by decide : 1 ≤ 64) _) rm.units
  · obtain ⟨rfl, I'⟩ := hv
    exact ⟨r, rfl, .bl (!r), H, I', rfl, q⟩
end
end D2
end L2
/-! Desk.__eq__ of desks with the same book -/
namespace L2
namespace D2
open PySem PySem.Spec PyProof.Rows D1
/-- two desks of one book; r: whether they start alike -/
def RD (C : Addr) : Addr → Addr → Bool → Hp → Prop := fun q p r H => ∃ bk bk' st st', DeskAt C H q bk st ∧ DeskAt C H p bk' st' ∧ ordB bk = ordB bk' ∧ DOk bk st ∧ r = decide (st = st')
theorem RD.same {C q p : Addr} {r : Bool} {H H' : Hp} (h : RD C q p r H) (s : Same H H') : RD C q p r H' := by
  obtain ⟨bk, bk', st, st', h1, h2, h3, h4, h5⟩ := h
  exact ⟨bk, bk', st, st', h1.same s, h2.same s, h3, h4, h5⟩
section
variable {P : Program} {w : World} {K : PySem.W.Frag} {mg : Str → Option Value} {base : Heap} {C : Addr}
theorem ok_deqB {f : Addr} {fd : FuncData} (F : Fun K "__eq__" "Desk.__eq__" sDEq f fd) (T : Free3 mg) (D : DTxt K mg C) (c : C8.InsC K C) : FnOk P w K mg base CX0 1 f fd ["self", "other"] (spEqB (RD C)) := by
  refine F.ok scDe (fun vs H Q E h => ?_) (fun cdv A outer s H vs Q E hr h => ?_)
  · obtain ⟨a, b, r, rfl, _⟩ := h; rfl
  · obtain ⟨q, p, r0, rfl, ⟨bk, bk', st, st', ⟨dx, b, hq, hb⟩, ⟨dy, b', hr2, hb'⟩, eo, ok, rfl⟩, k⟩ := h
    rw [← eo] at hb'
    refine ⟨_, pss_one (ps_ret (pe_and (pe_callB (C8.call_isC c) (by rfl) T.isi (by decide +kernel) (pa_cons (pv 1) (pa_cons (pe_glob (v := .ref C) rfl D.mgC rfl) pa_nil))) (pe_and (pe_cmpR (op_eqDX 3 (Nat.lt_of_le_of_lt (Nat.add_le_add_left (by decide : 4 ≤ 64) _) hr.units)) (pe_fld (pv 0) rfl) (pe_fld (pv 1) rfl) (nomark _)) (pe_one (pe_cmpR op_eq (pe_fld (pv 0) rfl) (pe_fld (pv 1) rfl) (nomark _)))))), ?_⟩
    have ob := ok.obok
    obtain ⟨ks, h1, r1⟩ := hb
    obtain ⟨ls, h2, r2⟩ := hb'
    have e1 : ks.map (·.1) = ((ordB bk).map (·.1)).map Sum.inr := by rw [r1.keys, List.map_map]; rfl
    have e2 : ls.map (·.1) = ((ordB bk).map (·.1)).map Sum.inr := by rw [r2.keys, List.map_map]; rfl
    have hrs : ∀ r ∈ ordB bk, (r.2.2.map (·.1)).Nodup ∧ r.2.2.length ≤ 10000 := fun r hr => ⟨(ob.rs r hr).1, by have := (ob.rs r hr).2; omega⟩
    refine ⟨_, rfl, p, dy, _, rfl, hr2, true, rfl, iteT ?_⟩
    refine ⟨_, rfl, q, C, dx, _, _, rfl, hq, D.cl, D.nB, dflds_book _ _, _, rfl, p, C, dy, _, _, rfl, hr2, D.cl, D.nB, dflds_book _ _, ?_⟩
    refine ⟨b, b', ks, ls, _, rfl, rfl, h1, h2, e1, e2, ob.nd, eqx_rows r1 r2 hrs, true, rfl, iteT ?_⟩
    refine ⟨_, rfl, q, C, dx, _, _, rfl, hq, D.cl, D.nS, dflds_start _ _, _, rfl, p, C, dy, _, _, rfl, hr2, D.cl, D.nS, dflds_start _ _, rfl, ?_⟩
    have ed : decide (V.str st = V.str st') = decide (st = st') := by
      by_cases h : st = st'
      · rw [h, decide_eq_true rfl, decide_eq_true rfl]
      · rw [decide_eq_false h, decide_eq_false fun z => h (V.str.inj z)]
    rw [ed]
    exact k
/-- the desk's ==, wherever it is used -/
structure EqD (P : Program) (w : World) (K : PySem.W.Frag) (mg : Str → Option Value) (base : Heap) (C : Addr) : Prop where
  ex : ∃ f fd ps, FnOk P w K mg base CX0 1 f fd ps (spEqB (RD C)) ∧ Binds K fd ps [] ∧ PySem.W.findIn K (.ref C) "__eq__" = some (some (.ref f)) ∧ PySem.W.isFn K (.ref f) = true ∧ NeF K C f
end
section
variable {X : Cx} {C : Addr}
theorem eqD (e : EqD X.prog X.w X.K X.mg X.base C) (rm : Room 1 X.A) : OpR X (compareOp .Eq) (rEqB C (RD C) id) := by
  obtain ⟨f, fd, ps, F, b, hs, hf, _⟩ := e.ex
  exact op_eqB F b pass0 hs hf rm
theorem neD (e : EqD X.prog X.w X.K X.mg X.base C) (rm : Room 2 X.A) : OpR X (compareOp .NotEq) (rEqB C (RD C) not) := by
  obtain ⟨f, fd, ps, F, b, _, _, N⟩ := e.ex
  exact op_neB F b pass0 N rm
/-- the fields of two desks -/
theorem rEqB_of {C q p : Addr} {r : Bool} {H : Hp} {w : Bool → Bool} {Q : VK} (h : RD C q p r H) (k : Q (.bl (w r)) H) : rEqB C (RD C) w (.ref q) (.ref p) H Q := by
  obtain ⟨bk, bk', st, st', ⟨dx, b, h1, _⟩, ⟨dy, b', h2, _⟩, _⟩ := id h
  exact ⟨q, p, dx, dy, _, _, r, rfl, rfl, h1, h2, h, k⟩
end
end D2
end L2
/-! what is asked of a desk: book_with, states, kinds, turns, words -/
namespace L2
namespace D2
open PySem PySem.Spec PyProof.Rows D1 X3 X4
abbrev sBookWith : Stmt := top 21
abbrev sStates : Stmt := top 23
abbrev sKind : Stmt := top 24
abbrev sTurnsOf : Stmt := top 25
abbrev sWordsOf : Stmt := top 26
theorem tx_asym (x y : Value) (h : ltTx x y = true) : ltTx y x = false := by
  rcases leC_total (txv x).cps.toList (txv y).cps.toList with z | z
  · exact z
  · have z : ltTx x y = false := z
    rw [z] at h; cases h
theorem swo_tx : SrtO.Swo ltTx := ⟨tx_asym, fun x y z h1 h2 => leC_trans (a := (txv x).cps.toList) (b := (txv y).cps.toList) (c := (txv z).cps.toList) h1 h2⟩
def spBookWith (C : Addr) : Sp := fun vs H Q _ => ∃ (q : Addr) (bk : Bk) (st s : Str), vs = [.ref q, .str s] ∧ DeskAt C H q bk st ∧ DOk bk st ∧ s ∈ bk.map (·.1) ∧ ∀ H' R, Same H H' → H R = none → BookAt H' R (ordB bk) → Q (.ref R) H'
def spStates (C : Addr) : Sp := fun vs H Q _ => ∃ (q : Addr) (bk : Bk) (st : Str), vs = [.ref q] ∧ DeskAt C H q bk st ∧ DOk bk st ∧ ∀ H' R, Same H H' → H R = none → SL H' R (srt (bk.map (·.1))) → Q (.ref R) H'
def spKind (C : Addr) : Sp := fun vs H Q _ => ∃ (q : Addr) (bk : Bk) (st s : Str), vs = [.ref q, .str s] ∧ DeskAt C H q bk st ∧ DOk bk st ∧ s ∈ bk.map (·.1) ∧ ∀ H', Same H H' → Q (.str (rowOf bk s).1) H'
def spTurnsOf (C : Addr) : Sp := fun vs H Q _ => ∃ (q : Addr) (bk : Bk) (st s : Str), vs = [.ref q, .str s] ∧ DeskAt C H q bk st ∧ DOk bk st ∧ s ∈ bk.map (·.1) ∧ ∀ H' R, Same H H' → TurnsAt H' R (ordT (rowOf bk s).2) → Q (.ref R) H'
/-- the words of a book, ascending -/
structure WordsOf (bk : Bk) (ys : List Str) : Prop where
  nd : ys.Nodup
  so : ys.Pairwise leS
  mem : ∀ x, x ∈ ys ↔ ∃ r ∈ bk, x ∈ r.2.2.map (·.1)
theorem WordsOf.one {bk bk' : Bk} {ys zs : List Str} (h : WordsOf bk ys) (g : WordsOf bk' zs) (e : ∀ x, (∃ r ∈ bk, x ∈ r.2.2.map (·.1)) ↔ ∃ r ∈ bk', x ∈ r.2.2.map (·.1)) : ys = zs := by
  refine pw_unique ?_ h.so g.so
  refine perm_of_nodup g.nd (fun x hx => (h.mem x).mpr ((e x).mpr ((g.mem x).mp hx))) ?_
  have a := pigeon ys zs h.nd fun x hx => (g.mem x).mpr ((e x).mp ((h.mem x).mp hx))
  have b := pigeon zs ys g.nd fun x hx => (h.mem x).mpr ((e x).mpr ((g.mem x).mp hx))
  omega
def spWordsOf (C : Addr) : Sp := fun vs H Q _ => ∃ (q : Addr) (bk : Bk) (st : Str), vs = [.ref q] ∧ DeskAt C H q bk st ∧ DOk bk st ∧ ∀ H' R ys, Same H H' → H R = none → SL H' R ys → WordsOf bk ys → Q (.ref R) H'
section
variable {P : Program} {w : World} {K : PySem.W.Frag} {mg : Str → Option Value} {base : Heap} {C : Addr}
abbrev CBookWith (P : Program) (w : World) (K : PySem.W.Frag) (mg : Str → Option Value) (base : Heap) (C : Addr) := Cal P w K mg base "book_with" 4 ["desk", "state"] (spBookWith C)
theorem scBw : FnScope ["desk", "state", "book"] ["desk", "state"] (defScope sBookWith) := ⟨rfl, rfl, rfl, by decide +kernel, rfl, by decide +kernel, by decide +kernel⟩
theorem ok_bookwith {f : Addr} {fd : FuncData} (F : Fun K "book_with" "book_with" sBookWith f fd) (D : DTxt K mg C) (MB : CMBook P w K mg base C) (CN : CNeed P w K mg base C) (CS : CIsState P w K mg base) : FnOk P w K mg base CX0 4 f fd ["desk", "state"] (spBookWith C) := by
  obtain ⟨fB, fdB, mB, FB, bB⟩ := MB.ex
  refine F.ok scBw (fun vs H Q E h => ?_) (fun cdv A outer s H vs Q E hr h => ?_)
  · obtain ⟨q, bk, st, s, rfl, _⟩ := h; rfl
  · obtain ⟨q, bk, st, s0, rfl, hq, ok, hs, k⟩ := h
    refine ⟨_, pss_cons (ps_expr (pe_cal CN (hr.mono (by decide)) rfl (pa_cons (pv 0) pa_nil)))
      (pss_cons (ps_set (i := 2) scBw.nd rfl (Or.inl rfl) (pe_meth0 (pv 0) D.cl mB FB (hr.mono (by decide)) bB .nil pass0))
      (pss_cons (ps_if (pt_not (pt_val (pe_cal CS (hr.mono (by decide)) rfl (pa_cons (pv 2) (pa_cons (pv 1) pa_nil))))) (pss_one ps_never) pss_nil)
      (pss_one (ps_ret (pv 2))))), ?_⟩
    obtain ⟨dx, b0, e0, hb0⟩ := id hq
    refine ⟨_, rfl, q, dx, _, rfl, e0, ?_⟩
    refine ⟨_, rfl, q, dx, _, rfl, e0, dflds_no _ _ (by decide +kernel) (by decide +kernel), q, bk, st, rfl, hq, ok, fun H1 B s1 nB hB => ?_⟩
    obtain ⟨kvs, hk, hR⟩ := id hB
    obtain ⟨v, ev, _⟩ := hR.look (s := s0) (by rw [ordB_names]; exact (srt_perm _).mem_iff.mpr hs)
    refine ⟨_, rfl, _, rfl, B, kvs, s0, rfl, .inl hk, by rw [ev]; rfl, _, rfl, iteF ?_⟩
    exact ⟨_, rfl, k H1 B s1 nB hB⟩
theorem scSt : FnScope ["desk"] ["desk"] (defScope sStates) := ⟨rfl, rfl, rfl, by decide +kernel, rfl, by decide +kernel, by decide +kernel⟩
theorem ok_states {f : Addr} {fd : FuncData} (F : Fun K "states_of" "states_of" sStates f fd) (T : Free3 mg) (D : DTxt K mg C) (MB : CMBook P w K mg base C) (CN : CNeed P w K mg base C) : FnOk P w K mg base CX0 4 f fd ["desk"] (spStates C) := by
  obtain ⟨fB, fdB, mB, FB, bB⟩ := MB.ex
  refine F.ok scSt (fun vs H Q E h => ?_) (fun cdv A outer s H vs Q E hr h => ?_)
  · obtain ⟨q, bk, st, rfl, _⟩ := h; rfl
  · obtain ⟨q, bk, st, rfl, hq, ok, k⟩ := h
    refine ⟨_, pss_cons (ps_expr (pe_cal CN (hr.mono (by decide)) rfl (pa_cons (pv 0) pa_nil)))
      (pss_one (ps_ret (pe_callTy (call_listD rfl) (by rfl) T.list (by decide +kernel) (pa_cons (pe_meth0 (pv 0) D.cl mB FB (hr.mono (by decide)) bB .nil pass0) pa_nil)))), ?_⟩
    obtain ⟨dx, b0, e0, hb0⟩ := id hq
    refine ⟨_, rfl, q, dx, _, rfl, e0, ?_⟩
    refine ⟨_, rfl, q, dx, _, rfl, e0, dflds_no _ _ (by decide +kernel) (by decide +kernel), q, bk, st, rfl, hq, ok, fun H1 B s1 nB hB => ?_⟩
    obtain ⟨kvs, hk, hR⟩ := id hB
    refine ⟨B, kvs, rfl, .inl hk, fun p hp => k _ p (Same.trans s1 (Same.new hp)) (s1.free hp) ?_⟩
    have e : kvs.map (fun kv => kV kv.1) = (srt (bk.map (·.1))).map V.str := by
      have := congrArg (List.map kV) hR.keys
      rw [List.map_map, List.map_map] at this
      rw [← ordB_names, List.map_map]
      exact this
    rw [SL, upd_same, e]
theorem scKi : FnScope ["desk", "state", "book"] ["desk", "state"] (defScope sKind) := ⟨rfl, rfl, rfl, by decide +kernel, rfl, by decide +kernel, by decide +kernel⟩
theorem ok_kind {f : Addr} {fd : FuncData} (F : Fun K "kind_of" "kind_of" sKind f fd) (CB : CBookWith P w K mg base C) : FnOk P w K mg base CX0 5 f fd ["desk", "state"] (spKind C) := by
  refine F.ok scKi (fun vs H Q E h => ?_) (fun cdv A outer s H vs Q E hr h => ?_)
  · obtain ⟨q, bk, st, s, rfl, _⟩ := h; rfl
  · obtain ⟨q, bk, st, s0, rfl, hq, ok, hs, k⟩ := h
    have hu := hu_of hr
    refine ⟨_, pss_cons (ps_set (i := 2) scKi.nd rfl (Or.inl rfl) (pe_cal CB (hr.mono (by decide)) rfl (pa_cons (pv 0) (pa_cons (pv 1) pa_nil))))
      (pss_one (ps_ret (pe_ix ix_tup (pe_dget hu (pv 2) (pv 1) (fun _ _ => rfl)) pe_int (fun _ _ => rfl)))), ?_⟩
    refine ⟨_, rfl, _, rfl, q, bk, st, s0, rfl, hq, ok, hs, fun H1 B s1 nB ⟨kvs, hk, hR⟩ => ?_⟩
    obtain ⟨v, ev, ⟨t, a, rfl, ht, ha⟩, _⟩ := hR.look (s := s0) (by rw [ordB_names]; exact (srt_perm _).mem_iff.mpr hs)
    rw [rowOf_ord ok.nd hs] at ht ha
    refine ⟨_, rfl, _, rfl, B, _, rfl, .inl ⟨kvs, .inr s0, .inl hk, rfl, ev.symm⟩, t, _, _, _, rfl, rfl, SqT.of ht, atI_nat (j := 0) rfl, k H1 s1⟩
theorem scTo : FnScope ["desk", "state", "book"] ["desk", "state"] (defScope sTurnsOf) := ⟨rfl, rfl, rfl, by decide +kernel, rfl, by decide +kernel, by decide +kernel⟩
theorem ok_turnsof {f : Addr} {fd : FuncData} (F : Fun K "turns_of" "turns_of" sTurnsOf f fd) (CB : CBookWith P w K mg base C) : FnOk P w K mg base CX0 5 f fd ["desk", "state"] (spTurnsOf C) := by
  refine F.ok scTo (fun vs H Q E h => ?_) (fun cdv A outer s H vs Q E hr h => ?_)
  · obtain ⟨q, bk, st, s, rfl, _⟩ := h; rfl
  · obtain ⟨q, bk, st, s0, rfl, hq, ok, hs, k⟩ := h
    have hu := hu_of hr
    refine ⟨_, pss_cons (ps_set (i := 2) scTo.nd rfl (Or.inl rfl) (pe_cal CB (hr.mono (by decide)) rfl (pa_cons (pv 0) (pa_cons (pv 1) pa_nil))))
      (pss_one (ps_ret (pe_ix ix_tup (pe_dget hu (pv 2) (pv 1) (fun _ _ => rfl)) pe_int (fun _ _ => rfl)))), ?_⟩
    refine ⟨_, rfl, _, rfl, q, bk, st, s0, rfl, hq, ok, hs, fun H1 B s1 nB ⟨kvs, hk, hR⟩ => ?_⟩
    obtain ⟨v, ev, ⟨t, a, rfl, ht, ha⟩, _⟩ := hR.look (s := s0) (by rw [ordB_names]; exact (srt_perm _).mem_iff.mpr hs)
    rw [rowOf_ord ok.nd hs] at ht ha
    refine ⟨_, rfl, _, rfl, B, _, rfl, .inl ⟨kvs, .inr s0, .inl hk, rfl, ev.symm⟩, t, _, _, _, rfl, rfl, SqT.of ht, atI_nat (j := 1) rfl, k H1 a s1 ha⟩
end
end D2
end L2
/-! words_of -/
namespace L2
namespace D2
open PySem PySem.Spec PyProof.Rows D1 X3 X4
theorem graph_ne {H : Hp} {g a : Addr} {kvs : List (Key × V)} {bk : Bk} {ts : List (Str × Str)} (hg : H g = some (.dK kvs)) (h : GRows H kvs bk) (ne : bk ≠ []) (ha : TurnsAt H a ts) : a ≠ g := fun e => by
  rw [TurnsAt, e, hg] at ha
  have ek : kvs = kT ts := by injection ha with z; injection z
  cases h with
  | nil => exact ne rfl
  | @cons x r kv2 bk2 h1 _ =>
    cases ts with
    | nil => cases ek
    | cons y ys =>
      have e1 : x = (Sum.inr y.1, V.str y.2) := (List.cons.inj ek).1
      obtain ⟨_, a', e2, _⟩ := h1
      rw [e1] at e2
      cases e2
theorem grows_addrs {H : Hp} {kvs : List (Key × V)} {bk : Bk} (h : GRows H kvs bk) : ∃ as : List Addr, (∀ a ∈ as, ∃ ts, TurnsAt H a ts) ∧ ∀ (i : Nat) kk v, kvs[i]? = some (kk, v) → ∃ r a, bk[i]? = some r ∧ kk = Sum.inr r.1 ∧ v = .ref a ∧ a ∈ as ∧ TurnsAt H a r.2.2 := by
  unfold GRows at h
  induction h with
  | nil => exact ⟨[], by simp, fun i kk v e => by simp at e⟩
  | @cons x r kvs bk h1 _ ih =>
    obtain ⟨as, g1, g2⟩ := ih
    obtain ⟨e1, a, e2, h3⟩ := h1
    refine ⟨a :: as, fun b hb => ?_, fun i kk v e => ?_⟩
    · rcases List.mem_cons.mp hb with z | z
      · rw [z]; exact ⟨_, h3⟩
      · exact g1 b z
    · cases i with
      | zero =>
        have e : x = (kk, v) := Option.some.inj e
        refine ⟨r, a, rfl, ?_, ?_, List.mem_cons_self, h3⟩
        · rw [← e1, e]
        · rw [← e2, e]
      | succ i =>
        obtain ⟨r', a', q1, q2, q3, q4, q5⟩ := g2 i kk v e
        exact ⟨r', a', q1, q2, q3, List.mem_cons_of_mem _ q4, q5⟩
theorem mem_ins {l : List Str} {t x : Str} : x ∈ (if t ∈ l then l else t :: l) ↔ x ∈ l ∨ x = t := by
  by_cases c : t ∈ l
  · rw [if_pos c]
    exact ⟨.inl, fun h => h.elim id fun e => e ▸ c⟩
  · rw [if_neg c, List.mem_cons]
    exact ⟨fun h => h.elim .inr .inl, fun h => h.elim .inr .inl⟩
theorem nd_ins {l : List Str} {t : Str} (nd : l.Nodup) : (if t ∈ l then l else t :: l).Nodup := by
  by_cases c : t ∈ l
  · rw [if_pos c]; exact nd
  · rw [if_neg c]; exact List.nodup_cons.mpr ⟨c, nd⟩
theorem len_ins {l : List Str} {t : Str} : (if t ∈ l then l else t :: l).length ≤ l.length + 1 := by
  by_cases c : t ∈ l
  · rw [if_pos c]; omega
  · rw [if_neg c]; exact Nat.le_refl _
theorem keys_ord {bk : Bk} (nd : (bk.map (·.1)).Nodup) (x : Str) : (∃ r ∈ ordB bk, x ∈ r.2.2.map (·.1)) ↔ ∃ r ∈ bk, x ∈ r.2.2.map (·.1) := by
  constructor
  · rintro ⟨r, hr, hx⟩
    obtain ⟨r0, h0, _, _, e⟩ := mem_ordB nd hr
    rw [e, ordT_keys] at hx
    exact ⟨r0, h0, (srt_perm _).mem_iff.mp hx⟩
  · rintro ⟨r, hr, hx⟩
    have hm : r.1 ∈ bk.map (·.1) := List.mem_map_of_mem hr
    refine ⟨(r.1, (rowOf bk r.1).1, ordT (rowOf bk r.1).2), List.mem_map.mpr ⟨r.1, (srt_perm _).mem_iff.mpr hm, rfl⟩, ?_⟩
    show x ∈ (ordT (rowOf bk r.1).2).map (·.1)
    rw [ordT_keys, rowOf_self nd hr]
    exact (srt_perm _).mem_iff.mpr hx
section
variable {P : Program} {w : World} {K : PySem.W.Frag} {mg : Str → Option Value} {base : Heap} {C : Addr}
theorem scWf : FnScope ["desk", "graph", "state", "word"] ["desk"] (defScope sWordsOf) := ⟨rfl, rfl, rfl, by decide +kernel, rfl, by decide +kernel, by decide +kernel⟩
theorem ok_wordsof {f : Addr} {fd : FuncData} (F : Fun K "words_of" "words_of" sWordsOf f fd) (T : Free3 mg) (CN : CNeed P w K mg base C) (CG : CGraph P w K mg base C) : FnOk P w K mg base CX0 5 f fd ["desk"] (spWordsOf C) := by
  refine F.ok scWf (fun vs H Q E h => ?_) (fun cdv A outer s H vs Q E hr h => ?_)
  · obtain ⟨q, bk, st, rfl, _⟩ := h; rfl
  · obtain ⟨q, bk, st, rfl, hq, ok, k⟩ := h
    have hu := hu_of hr
    refine ⟨_, pss_cons (ps_expr (pe_cal CN (hr.mono (by decide)) rfl (pa_cons (pv 0) pa_nil)))
      (pss_cons (ps_set (i := 1) scWf.nd rfl (Or.inr rfl) (pe_cal CG (hr.mono (by decide)) rfl (pa_cons (pv 0) pa_nil)))
      (pss_one (ps_ret (pe_callB (cr_sortSetT swo_tx rfl) (by rfl) T.sorted (by decide +kernel) (pa_cons (pe_lkAny (pe_sc2 (own := [("state", 2), ("word", 3)]) (vB := [3]) (gA := gName 2) (gB := gName 3) (wB := iKeys (tDGet (tVar 1) (tVar 2))) (te := tVar 3) rfl scWf.nd (pi_keys (pv 1))
          (blkOk_by (N := ["desk", "graph", "state", "word"]) (sc := defScope sWordsOf) (by decide +kernel)) (by decide) (fun _ _ _ _ _ => pg_name (i := 2) scWf.nd rfl (Or.inl rfl))
          (fun _ _ _ _ _ => pi_keys (pe_dget hu (pv 1) (pv 2) (fun _ _ => rfl))) (fun _ _ _ _ _ => pg_name (i := 3) scWf.nd rfl (Or.inl rfl)) (fun _ _ _ _ _ => pv 3))) pa_nil))))), ?_⟩
    obtain ⟨dx, b0, e0, hb0⟩ := id hq
    refine ⟨_, rfl, q, dx, _, rfl, e0, ?_⟩
    refine ⟨_, rfl, q, bk, st, rfl, hq, ok, fun H1 G s1 ⟨kvs, hk, hG⟩ => ?_⟩
    obtain ⟨as, ga1, ga2⟩ := grows_addrs hG
    obtain ⟨ds, nds, hds⟩ := dedup as
    have nG : G ∉ ds := fun z => by
      obtain ⟨ts, hts⟩ := ga1 G ((hds G).mp z)
      exact graph_ne hk hG (ordB_ne ok.ne) hts rfl
    have lkv : kvs.length = (ordB bk).length := by
      have := congrArg List.length hG.keys
      rwa [List.length_map, List.length_map] at this
    have l60 := ok.len
    rw [ordB_len] at lkv
    refine ⟨(G :: ds).length, lk_all _ _ (fun v H3 => ∃ D l, v = .ref D ∧ D ∉ G :: ds ∧ l.Nodup ∧ (∀ x, x ∈ l ↔ ∃ r ∈ ordB bk, x ∈ r.2.2.map (·.1)) ∧ H3 D = some (SetTO P w D l)) (G :: ds) H1 _ (List.nodup_cons.mpr ⟨nG, nds⟩) (fun d hd => ?_) ?_ ?_⟩
    · rcases List.mem_cons.mp hd with e | e
      · rw [e]; exact ⟨_, hk, trivial⟩
      · obtain ⟨ts, hts⟩ := ga1 d ((hds d).mp e)
        exact ⟨_, hts, trivial⟩
    · intro H2 Q2 lk k2
      obtain ⟨od, u, h1, hG2⟩ := lk.2 G List.mem_cons_self
      rw [hk] at h1
      cases h1
      refine ⟨_, rfl, G, od, rfl, .inl ⟨kvs, hG2, fun D hD => ?_⟩⟩
      have nDd : D ∉ G :: ds := fun z => by
        obtain ⟨_, _, _, h3⟩ := lk.2 D z
        rw [h3] at hD; cases hD
      refine lp_it (walk_keys (d := G) (o := od) (kvs := kvs)) (fun i H' => Same H2 H' ∧ ∃ l : List Str, l.Nodup ∧ l.length ≤ 60 * i ∧ (∀ x, x ∈ l ↔ ∃ r ∈ (ordB bk).take i, x ∈ r.2.2.map (·.1)) ∧ H' D = some (SetTO P w D l))
        ⟨Same.new hD, [], List.nodup_nil, Nat.le_refl _, fun x => by simp, upd_same⟩ (fun i H' _ z => z.1 _ _ hG2) ?_ ?_
      · rintro i x H6 H7 hi ⟨sm, l, nd, ll, lm, hl⟩ ⟨rfl, kk, v0, hkv, rfl⟩
        obtain ⟨r, a, hr', rfl, rfl, haa, hta⟩ := ga2 i kk v0 hkv
        have hrm : r ∈ ordB bk := List.mem_of_getElem? hr'
        obtain ⟨oa, ua, h3, ha3⟩ := lk.2 a (List.mem_cons_of_mem _ ((hds a).mpr haa))
        rw [hta] at h3
        cases h3
        have r60 : r.2.2.length ≤ 60 := by
          obtain ⟨r0, h0, _, _, e⟩ := mem_ordB ok.nd hrm
          rw [e, ordT_len]; exact ok.len2 r0 h0
        have vk : valV kvs (.inr r.1) = some (.ref a) := val_at (by rw [hG.keys, show (ordB bk).map (fun r => (Sum.inr r.1 : Key)) = ((ordB bk).map (·.1)).map Sum.inr by rw [List.map_map]; rfl]; exact inr_nd' ok.ond) hkv
        refine ⟨rfl, _, rfl, _, rfl, G, _, rfl, .inl ⟨kvs, .inr r.1, .inr ⟨od, sm _ _ hG2⟩, rfl, vk.symm⟩, a, oa, rfl, .inl ⟨kT r.2.2, sm _ _ ha3, ?_⟩⟩
        refine lp_it (walk_keys (d := a) (o := oa) (kvs := kT r.2.2)) (fun j H' => Same H2 H' ∧ ∃ l : List Str, l.Nodup ∧ l.length ≤ 60 * i + j ∧ (∀ x, x ∈ l ↔ (∃ r ∈ (ordB bk).take i, x ∈ r.2.2.map (·.1)) ∨ x ∈ (r.2.2.map (·.1)).take j) ∧ H' D = some (SetTO P w D l))
          ⟨sm, l, nd, ll, fun x => by rw [lm x]; simp, hl⟩ (fun j H' _ z => z.1 _ _ ha3) ?_ ?_
        · rintro j x H8 H9 hj ⟨sm8, l8, nd8, ll8, lm8, hl8⟩ ⟨rfl, k9, v9, hk9, rfl⟩
          rw [kT, List.getElem?_map] at hk9
          obtain ⟨tt, htt, e9⟩ := Option.map_eq_some_iff.mp hk9
          cases e9
          have hj' : j < r.2.2.length := by rw [kT, List.length_map] at hj; exact hj
          have hx9 : (r.2.2.map (·.1))[j]? = some tt.1 := by rw [List.getElem?_map, htt]; rfl
          have i60 : i < 60 := by omega
          refine ⟨rfl, _, rfl, l8, tt.1, rfl, hl8, by show l8.length + 1 < 4096; omega, ?_, _, nd_ins nd8, ?_, fun x => ?_, upd_same⟩
          · intro c u e
            rw [upd_ne (ne_of_none e hD)]; exact sm8 _ _ e
          · have := len_ins (l := l8) (t := tt.1); omega
          · rw [mem_ins, lm8 x, take_succ_get hx9, List.mem_append, List.mem_singleton, or_assoc]
        · rintro H8 ⟨sm8, l8, nd8, ll8, lm8, hl8⟩
          rw [kT, List.length_map] at ll8 lm8
          refine ⟨sm8, l8, nd8, by omega, fun x => ?_, hl8⟩
          rw [lm8 x, take_succ_get hr', ← List.length_map (·.1), List.take_length]
          constructor
          · rintro (⟨r1, h1, h2⟩ | h)
            · exact ⟨r1, List.mem_append_left _ h1, h2⟩
            · exact ⟨r, List.mem_append_right _ (List.mem_singleton.mpr rfl), h⟩
          · rintro ⟨r1, h1, h2⟩
            rcases List.mem_append.mp h1 with z | z
            · exact .inl ⟨r1, z, h2⟩
            · rw [List.mem_singleton.mp z] at h2; exact .inr h2
      · rintro H6 ⟨sm, l, nd, ll, lm, hl⟩
        rw [lkv, ← ordB_len, List.take_length] at lm
        exact k2 _ _ sm ⟨D, l, rfl, nDd, nd, lm, hl⟩
    · rintro v H3 ⟨D, l, rfl, nDd, nd, lm, hl⟩ H4 s4 e4
      refine ⟨D, l, rfl, by rw [e4 D nDd]; exact hl, fun ys p pm pw hp => ?_⟩
      have s14 := Same.trans s1 s4
      refine k _ p ys (Same.trans s14 (Same.new hp)) (s14.free hp) upd_same ⟨pm.nodup_iff.mpr nd, pw, fun x => ?_⟩
      rw [pm.mem_iff, lm x, keys_ord ok.nd]
end
end D2
end L2
/-! nodes_from -/
namespace L2
namespace D2
open PySem PySem.Spec PyProof.Rows D1 X3 X4
abbrev sNodes : Stmt := top 13
theorem goalT_at {ts : List (Str × Str)} (nd : (ts.map (·.1)).Nodup) {t : Str × Str} (h : t ∈ ts) : goalT ts t.1 = t.2 := by
  obtain ⟨u, e, e1, hu⟩ := find_some (List.mem_map_of_mem (f := (·.1)) h)
  rw [goalT, e]
  show u.2 = t.2
  obtain ⟨i, hi, ei⟩ := List.getElem_of_mem hu
  obtain ⟨j, hj, ej⟩ := List.getElem_of_mem h
  have a1 : (ts.map (·.1))[i]? = some t.1 := by rw [List.getElem?_map, List.getElem?_eq_getElem hi, ei, ← e1]; rfl
  have a2 : (ts.map (·.1))[j]? = some t.1 := by rw [List.getElem?_map, List.getElem?_eq_getElem hj, ej]; rfl
  have := (List.getElem?_inj (by rw [List.length_map]; omega) nd).mp (a1.trans a2.symm)
  subst this
  rw [← ei, ej]
theorem mem_ordT {ts : List (Str × Str)} (nd : (ts.map (·.1)).Nodup) {t : Str × Str} : t ∈ ordT ts ↔ t ∈ ts := by
  constructor
  · intro h
    obtain ⟨k, hk, rfl⟩ := List.mem_map.mp h
    obtain ⟨u, hu, e⟩ := List.mem_map.mp ((srt_perm _).mem_iff.mp hk)
    rw [← e, goalT_at nd hu]; exact hu
  · intro h
    refine List.mem_map.mpr ⟨t.1, (srt_perm _).mem_iff.mpr (List.mem_map_of_mem h), ?_⟩
    rw [goalT_at nd h]
/-- what some talk leads to -/
inductive Rch (bk : Bk) (st : Str) : Str → Prop
  | here : Rch bk st st
  | next {s : Str} {t : Str × Str} : Rch bk st s → t ∈ (rowOf bk s).2 → Rch bk st t.2
theorem Rch.mem {bk : Bk} {st s : Str} (ok : DOk bk st) (h : Rch bk st s) : s ∈ bk.map (·.1) := by
  induction h with
  | here => exact ok.st
  | next _ ht ih => exact (ok.rs _ (row_mem ih)).2.2 _ ht
def FK (ns : List Str) : List (Key × V) := ns.map fun n => (.inr n, .bl true)
theorem FK_keys (ns : List Str) : (FK ns).map (·.1) = ns.map Sum.inr := by rw [FK, List.map_map]; rfl
theorem FK_put {ns : List Str} {x : Str} (h : x ∉ ns) : putK (FK ns) (.inr x) (.bl true) = FK (ns ++ [x]) := by
  rw [D1.putK_new, FK, FK, List.map_append]
  · rfl
  · rw [FK_keys]
    intro z
    obtain ⟨y, hy, e⟩ := List.mem_map.mp z
    exact h (Sum.inr.inj e ▸ hy)
theorem FK_val (ns : List Str) (x : Str) : (valV (FK ns) (.inr x)).isSome = decide (x ∈ ns) := by
  by_cases h : x ∈ ns
  · rw [decide_eq_true h, ← valV_any]
    exact List.any_eq_true.mpr ⟨(.inr x, .bl true), List.mem_map.mpr ⟨x, h, rfl⟩, decide_eq_true rfl⟩
  · rw [decide_eq_false h, ← valV_any, List.any_eq_false]
    intro p hp e
    obtain ⟨y, hy, rfl⟩ := List.mem_map.mp hp
    have e : (Sum.inr y : Key) = .inr x := of_decide_eq_true e
    exact h (Sum.inr.inj e ▸ hy)
/-- what is found, what is not yet gone through -/
structure BI (bk : Bk) (st : Str) (ns ls : List Str) : Prop where
  nd : ns.Nodup
  rc : ∀ x ∈ ns, Rch bk st x
  st : st ∈ ns
  sub : ∀ x ∈ ls, x ∈ ns
  cl : ∀ x ∈ ns, x ∉ ls → ∀ t ∈ (rowOf bk x).2, t.2 ∈ ns
theorem BI.len {bk : Bk} {st : Str} {ns ls : List Str} (b : BI bk st ns ls) (ok : DOk bk st) : ns.length ≤ 60 := by
  have := pigeon ns (bk.map (·.1)) b.nd fun x hx => (b.rc x hx).mem ok
  rw [List.length_map] at this
  have := ok.len
  omega
/-- within a turn: ns0 at its start, ds gone through, cs coming -/
structure BJ (bk : Bk) (st : Str) (ns0 ds : List Str) (es : List (Str × Str)) (ns cs : List Str) : Prop where
  nd : ns.Nodup
  rc : ∀ x ∈ ns, Rch bk st x
  old : ∀ x ∈ ns0, x ∈ ns
  sub : ∀ x ∈ cs, x ∈ ns
  new : ∀ x ∈ ns, x ∈ ns0 ∨ x ∈ cs
  len : ns.length = ns0.length + cs.length
  cl : ∀ x ∈ ds, ∀ t ∈ (rowOf bk x).2, t.2 ∈ ns
  ce : ∀ t ∈ es, t.2 ∈ ns
theorem BJ.le {bk : Bk} {st : Str} {ns0 ds ns cs : List Str} {es : List (Str × Str)} (b : BJ bk st ns0 ds es ns cs) (ok : DOk bk st) : ns.length ≤ 60 := by
  have := pigeon ns (bk.map (·.1)) b.nd fun x hx => (b.rc x hx).mem ok
  rw [List.length_map] at this
  have := ok.len
  omega
def Reach (bk : Bk) (st : Str) (ns : List Str) : Prop := ns.Nodup ∧ ∀ x, x ∈ ns ↔ Rch bk st x
theorem BI.done {bk : Bk} {st : Str} {ns : List Str} (b : BI bk st ns []) : Reach bk st ns := by
  refine ⟨b.nd, fun x => ⟨b.rc x, fun h => ?_⟩⟩
  induction h with
  | here => exact b.st
  | next _ ht ih => exact b.cl _ ih (by simp) _ ht
def spNodes : Sp := fun vs H Q _ => ∃ (g : Addr) (bk : Bk) (st : Str), vs = [.ref g, .str st] ∧ GraphAt H g (ordB bk) ∧ DOk bk st ∧ ∀ H' F ns, Same H H' → H F = none → H' F = some (.dK (FK ns)) → Reach bk st ns → Q (.ref F) H'
section
variable {P : Program} {w : World} {K : PySem.W.Frag} {mg : Str → Option Value} {base : Heap} {C : Addr}
theorem scNo : FnScope ["graph", "start", "found", "layer", "coming", "node", "goal"] ["graph", "start"] (defScope sNodes) := ⟨rfl, rfl, rfl, by decide +kernel, rfl, by decide +kernel, by decide +kernel⟩
theorem ok_nodes {f : Addr} {fd : FuncData} (F : Fun K "nodes_from" "nodes_from" sNodes f fd) : FnOk P w K mg base CX0 1 f fd ["graph", "start"] spNodes := by
  refine F.ok scNo (fun vs H Q E h => ?_) (fun cdv A outer s H vs Q E hr h => ?_)
  · obtain ⟨g, bk, st, rfl, _⟩ := h; rfl
  · obtain ⟨g, bk, st, rfl, ⟨kvs, hg, hG⟩, ok, k⟩ := h
    have hu := hu_of hr
    refine ⟨_, pss_cons (ps_set (i := 2) scNo.nd rfl (Or.inl rfl) (pe_disp (pps_cons (pv 1) pe_bl pps_nil) (by rfl) (by rfl) (fun z => by cases z) (by show 1 ≤ 15; decide)))
      (pss_cons (ps_set (i := 3) scNo.nd rfl (Or.inl rfl) (pe_lst (pa_cons (pv 1) pa_nil)))
      (pss_cons (ps_while PassesOwn.never (pt_truth (pv 3) (fun _ => rfl))
        (pss_cons (ps_set (i := 4) scNo.nd rfl (Or.inl rfl) (pe_lst pa_nil))
        (pss_cons (ps_for PassesOwn.never rfl (pi_list (pv 3)) (pg_name (i := 5) scNo.nd rfl (Or.inl rfl))
          (pss_one (ps_lock (ps_for PassesOwn.never rfl (pi_values (pe_dget hu (pv 0) (pv 5) (fun _ _ => rfl))) (pg_name (i := 6) scNo.nd rfl (Or.inl rfl))
            (pss_one (ps_if (pt_cmp (pc_dnotin hu (pv 6) (pv 2)) rfl)
              (pss_cons (ps_dput hu (pv 2) (pv 6) pe_bl rfl)
              (pss_one (ps_expr (pe_bm PySem.F.plainAttrs_list PySem.F.slot_list_append PySem.F.type_list_append mt_append (pv 4) (pa_cons (pv 6) pa_nil))))) pss_nil))))))
        (pss_one (ps_set (i := 3) scNo.nd rfl (Or.inl rfl) (pv 4))))))
      (pss_one (ps_ret (pv 2))))), ?_⟩
    have wf : ∀ {x : Str}, x ∈ bk.map (·.1) → ∀ t, t ∈ (ordT (rowOf bk x).2) ↔ t ∈ (rowOf bk x).2 := fun hx t => mem_ordT (ok.tk _ (row_mem hx))
    refine fun F0 hF0 => ⟨_, rfl, upd_same, FK [st], rfl, by show 1 ≤ 15; decide, ?_⟩
    rw [updd2, show mergeK [] (FK [st]) = FK [st] from rfl]
    refine ⟨_, rfl, by show 1 ≤ sizeLine; decide, fun L0 hL0 => ?_⟩
    have nF : F0 ≠ L0 := ne_of_none upd_same hL0
    have hL0' := upd_none' hL0
    refine ⟨fun m σ H' => ∃ (ns ls : List Str) (L : Addr) (v4 v5 v6 : Option V), σ = [some (.ref g), some (.str st), some (.ref F0), some (.ref L), v4, v5, v6] ∧ Same H H' ∧ H L = none ∧ H' F0 = some (.dK (FK ns)) ∧ SL H' L ls ∧ BI bk st ns ls ∧ m = 2 * (61 - ns.length) + (if ls = [] then 0 else 1),
      ⟨_, [st], [st], L0, none, none, none, rfl, Same.trans (Same.new hF0) (Same.new hL0), hL0', by rw [upd_ne nF]; exact upd_same, upd_same, ⟨List.nodup_cons.mpr ⟨by simp, List.nodup_nil⟩, fun x hx => (List.mem_singleton.mp hx) ▸ .here, List.mem_singleton.mpr rfl, fun x hx => hx, fun x hx n => absurd hx n⟩, rfl⟩, ?_⟩
    rintro m σ H1 ⟨ns0, ls, L, v4, v5, v6, rfl, s1, nL, hF1, hL1, b0, rfl⟩
    have nLF : L ≠ F0 := fun e => by rw [SL, e, hF1] at hL1; cases hL1
    refine ⟨_, rfl, _, .inl ⟨_, hL1.sq, rfl⟩, ?_⟩
    by_cases hls : ls = []
    · subst hls
      refine (if_neg (by decide)).mpr ⟨_, rfl, k H1 F0 ns0 s1 hF0 hF1 b0.done⟩
    have n60 := b0.len ok
    have npos : ls.isEmpty = false := by cases ls with | nil => exact absurd rfl hls | cons _ _ => rfl
    refine (if_pos (by rw [List.isEmpty_map, npos]; rfl)).mpr ⟨_, fun σ' H' h => h, ?_⟩
    refine ⟨by decide, fun C0 hC0 => ?_⟩
    have nC : H C0 = none := s1.free hC0
    have nFC : F0 ≠ C0 := ne_of_none hF1 hC0
    have nLC : L ≠ C0 := fun e => by rw [SL, e, hC0] at hL1; cases hL1
    have hL2 := hL1.same (Same.new (o := .lst []) hC0)
    refine ⟨_, rfl, L, rfl, ⟨_, hL2.sq⟩, ?_⟩
    refine for_list (K := K) (a := L) (xs := ls.map V.str) (fun i σ H' => ∃ (ns cs : List Str) (v5 v6 : Option V), σ = [some (.ref g), some (.str st), some (.ref F0), some (.ref L), some (.ref C0), v5, v6] ∧ Same H H' ∧ H' F0 = some (.dK (FK ns)) ∧ SL H' C0 cs ∧ SL H' L ls ∧ BJ bk st ns0 (ls.take i) [] ns cs)
      ⟨ns0, [], v5, v6, rfl, Same.trans s1 (Same.new hC0), by rw [upd_ne nFC]; exact hF1, upd_same, hL2, ⟨b0.nd, b0.rc, fun x hx => hx, (fun x hx => by cases hx), fun x hx => .inl hx, rfl, (fun x hx => by simp at hx), fun t ht => by cases ht⟩⟩ (fun i σ H' _ ⟨_, _, _, _, _, _, _, _, z, _⟩ => z.sq) ?_ ?_
    · rintro i v σ H3 hv ⟨ns1, cs1, v5, v6, rfl, s3, hF3, hC3, hL3, b1⟩
      obtain ⟨x, hx, rfl⟩ := D1.get_map hv
      have hxl : x ∈ ls := List.mem_of_getElem? hx
      have rx := b0.rc x (b0.sub x hxl)
      have hxm := rx.mem ok
      obtain ⟨a, ev, ha⟩ := hG.look (s := x) (by rw [ordB_names]; exact (srt_perm _).mem_iff.mpr hxm)
      rw [rowOf_ord ok.nd hxm] at ha
      have ha : TurnsAt H a (ordT (rowOf bk x).2) := ha
      have wfx := wf hxm
      generalize (ordT (rowOf bk x).2) = ts at ha wfx
      have nga : a ≠ g := graph_ne hg hG (ordB_ne ok.ne) ha
      have ha3 := s3 _ _ ha
      have naF : a ≠ F0 := fun e => by rw [TurnsAt, e, hF0] at ha; cases ha
      have naC : a ≠ C0 := fun e => by rw [TurnsAt, e, nC] at ha; cases ha
      have naL : a ≠ L := fun e => by rw [TurnsAt, e, nL] at ha; cases ha
      refine ⟨a, _, ha3, trivial, fun od => ?_⟩
      have sl : Same (L2.upd H a (.frz od (.dK (kT ts)))) (L2.upd H3 a (.frz od (.dK (kT ts)))) := fun c u e => by
        by_cases h : c = a
        · rw [h] at e ⊢; rw [upd_same] at e ⊢; exact e
        · rw [upd_ne h] at e ⊢; exact s3 _ _ e
      refine ⟨_, rfl, _, rfl, g, _, rfl, .inl ⟨kvs, .inr x, .inl (by rw [upd_ne (Ne.symm nga)]; exact s3 _ _ hg), rfl, ev.symm⟩, a, od, kT ts, rfl, upd_same, ?_⟩
      refine for_it (walk_values (d := a) (o := od) (kvs := kT ts)) (fun j σ H' => ∃ (ns cs : List Str) (v6 : Option V), σ = [some (.ref g), some (.str st), some (.ref F0), some (.ref L), some (.ref C0), some (.str x), v6] ∧ Same (L2.upd H a (.frz od (.dK (kT ts)))) H' ∧ H' F0 = some (.dK (FK ns)) ∧ SL H' C0 cs ∧ SL H' L ls ∧ BJ bk st ns0 (ls.take i) (ts.take j) ns cs)
        ⟨ns1, cs1, v6, rfl, sl, by rw [upd_ne (Ne.symm naF)]; exact hF3, by rw [SL, upd_ne (Ne.symm naC)]; exact hC3, by rw [SL, upd_ne (Ne.symm naL)]; exact hL3, b1⟩ (fun j σ H' _ ⟨_, _, _, _, z, _⟩ => z _ _ upd_same) ?_ ?_
      · rintro j v σ H4 H5 hj ⟨ns, cs, v6, rfl, s4, hF4, hC4, hL4, b⟩ ⟨rfl, kk, hk⟩
        rw [kT, List.getElem?_map] at hk
        obtain ⟨t, ht, e9⟩ := Option.map_eq_some_iff.mp hk
        cases e9
        have htm := (wfx t).mp (List.mem_of_getElem? ht)
        have l60 := b.le ok
        have etk : ∀ u, u ∈ ts.take (j + 1) ↔ u ∈ ts.take j ∨ u = t := fun u => by rw [take_succ_get ht, List.mem_append, List.mem_singleton]
        refine ⟨_, rfl, _, rfl, F0, _, rfl, .inl ⟨FK ns, .inr t.2, .inl hF4, rfl, rfl⟩, _, rfl, ?_⟩
        rw [FK_val]
        by_cases c : t.2 ∈ ns
        · rw [decide_eq_true c]
          refine iteF ⟨ns, cs, _, rfl, s4, hF4, hC4, hL4, b.nd, b.rc, b.old, b.sub, b.new, b.len, b.cl, fun u hu => ?_⟩
          exact ((etk u).mp hu).elim (b.ce u) fun e => e ▸ c
        · rw [decide_eq_false c]
          refine iteT ⟨_, rfl, _, rfl, F0, _, rfl, DPut.k (kvs := FK ns) (k := Sum.inr t.2) hF4 (by rw [FK, List.length_map, sizeLine_eq]; omega), ?_⟩
          rw [FK_put c]
          have hC5 : SL (L2.upd H5 F0 (.dK (FK (ns ++ [t.2])))) C0 cs := by rw [SL, upd_ne (Ne.symm nFC)]; exact hC4
          have lc : cs.length ≤ 60 := by have := b.len; omega
          refine ⟨_, rfl, .inl ⟨rfl, _, hC5.sq⟩, _, rfl, C0, _, _, rfl, rfl, hC5, by rw [List.length_map, sizeLine_eq]; omega, ?_⟩
          refine ⟨ns ++ [t.2], cs ++ [t.2], _, rfl, fun d u e => ?_, by rw [upd_ne nFC, upd_same], by rw [SL, upd_same, List.map_append]; rfl, by rw [SL, upd_ne nLC, upd_ne nLF]; exact hL4, nodup_app b.nd c, ?_, fun y hy => List.mem_append_left _ (b.old y hy), ?_, ?_, ?_, fun y hy u hu => List.mem_append_left _ (b.cl y hy u hu), fun u hu => ?_⟩
          · have n1 : d ≠ F0 := fun z => by rw [z, upd_ne (Ne.symm naF), hF0] at e; cases e
            have n2 : d ≠ C0 := fun z => by rw [z, upd_ne (Ne.symm naC), nC] at e; cases e
            rw [upd_ne n2, upd_ne n1]; exact s4 _ _ e
          · intro y hy
            rcases List.mem_append.mp hy with z | z
            · exact b.rc y z
            · rw [List.mem_singleton.mp z]; exact .next rx htm
          · intro y hy
            rcases List.mem_append.mp hy with z | z
            · exact List.mem_append_left _ (b.sub y z)
            · exact List.mem_append_right _ z
          · intro y hy
            rcases List.mem_append.mp hy with z | z
            · exact (b.new y z).elim .inl fun q => .inr (List.mem_append_left _ q)
            · exact .inr (List.mem_append_right _ z)
          · rw [List.length_append, List.length_append, b.len]; rfl
          · rcases (etk u).mp hu with z | z
            · exact List.mem_append_left _ (b.ce u z)
            · rw [z]; exact List.mem_append_right _ (List.mem_singleton.mpr rfl)
      · rintro σ H4 ⟨ns, cs, v6, rfl, s4, hF4, hC4, hL4, b⟩
        refine ⟨s4 _ _ upd_same, ns, cs, _, _, rfl, Same.unlock ha s4, by rw [upd_ne (Ne.symm naF)]; exact hF4, by rw [SL, upd_ne (Ne.symm naC)]; exact hC4, by rw [SL, upd_ne (Ne.symm naL)]; exact hL4, b.nd, b.rc, b.old, b.sub, b.new, b.len, fun y hy t ht => ?_, fun t ht => by cases ht⟩
        rw [take_succ_get hx] at hy
        rcases List.mem_append.mp hy with z | z
        · exact b.cl y z t ht
        · rw [List.mem_singleton.mp z] at ht
          refine b.ce t ?_
          rw [kT, List.length_map, List.take_length]
          exact (wfx t).mpr ht
    · rintro σ H3 ⟨ns, cs, v5, v6, rfl, s3, hF3, hC3, hL3, b⟩
      rw [List.length_map, List.take_length] at b
      refine ⟨_, rfl, _, ?_, ns, cs, C0, _, _, _, rfl, s3, nC, hF3, hC3, ⟨b.nd, b.rc, b.old _ b0.st, b.sub, fun y hy hn t ht => ?_⟩, rfl⟩
      · have l1 := b.le ok
        have l2 := b.len
        rw [if_neg hls]
        by_cases h : cs = []
        · rw [if_pos h]; rw [h] at l2; simp only [List.length_nil] at l2; omega
        · rw [if_neg h]
          have : 0 < cs.length := List.length_pos_iff.mpr h
          omega
      · have h0 : y ∈ ns0 := (b.new y hy).resolve_right hn
        by_cases hyl : y ∈ ls
        · exact b.cl y hyl t ht
        · exact b.old _ (b0.cl y h0 hyl t ht)
end
end D2
end L2
/-! come_to, trimmed, begun; when two books are kept alike -/
namespace L2
namespace D1
open PySem PySem.Spec PyProof.Rows D2 X3 X4
abbrev sComeTo : Stmt := top 27
abbrev sTrimmed : Stmt := top 28
abbrev sBegun : Stmt := top 33
theorem ordB_eq {bk bk' : Bk} (h1 : (bk.map (·.1)).Perm (bk'.map (·.1))) (h2 : ∀ s ∈ bk.map (·.1), (rowOf bk s).1 = (rowOf bk' s).1 ∧ ordT (rowOf bk s).2 = ordT (rowOf bk' s).2) : ordB bk = ordB bk' := by
  unfold ordB
  rw [← srt_congr h1]
  refine List.map_congr_left fun s hs => ?_
  obtain ⟨a, b⟩ := h2 s ((srt_perm _).mem_iff.mp hs)
  rw [a, b]
theorem DeskAt.congr {C : Addr} {H : Hp} {q : Addr} {bk bk' : Bk} {st : Str} (h : DeskAt C H q bk st) (e : ordB bk = ordB bk') : DeskAt C H q bk' st := by
  obtain ⟨dx, b, h1, h2⟩ := h
  exact ⟨dx, b, h1, e ▸ h2⟩
theorem RForm.ord {k : Str} {ts : List (Str × Str)} (nd : (ts.map (·.1)).Nodup) (h : RForm k ts) : RForm k (ordT ts) := by
  rcases h with ⟨a, b⟩ | ⟨a, b, c, d⟩
  · exact .inl ⟨a, by rw [b]; rfl⟩
  · refine .inr ⟨a, fun e => b ?_, by rw [ordT_len]; exact c, fun t ht => d t ((mem_ordT nd).mp ht)⟩
    have := ordT_len ts
    rw [e] at this
    exact List.length_eq_zero_iff.mp this.symm
theorem DOk.ord {bk : Bk} {st : Str} (h : DOk bk st) : DOk (ordB bk) st := by
  refine ⟨⟨ordB_ne h.ne, h.ond, by rw [ordB_len]; exact h.len, fun r hr => ?_, fun r hr => ?_⟩, fun r hr => ?_, by rw [ordB_names]; exact (srt_perm _).mem_iff.mpr h.st⟩
  · obtain ⟨r0, h0, e1, e2, e3⟩ := mem_ordB h.nd hr
    obtain ⟨a, b, c⟩ := h.rs r0 h0
    rw [e1, e2, e3]
    refine ⟨a, b.ord (h.tk r0 h0), fun t ht => ?_⟩
    rw [ordB_names]
    exact (srt_perm _).mem_iff.mpr (c t ((mem_ordT (h.tk r0 h0)).mp ht))
  · obtain ⟨r0, h0, _, _, e3⟩ := mem_ordB h.nd hr
    rw [e3, ordT_len]; exact h.len2 r0 h0
  · obtain ⟨r0, h0, _, _, e3⟩ := mem_ordB h.nd hr
    rw [e3]; exact ordT_nd (h.tk r0 h0)
/-- some rows of a book -/
def subB (bk : Bk) (ys : List Str) : Bk := ys.map fun s => (s, rowOf bk s)
theorem subB_names (bk : Bk) (ys : List Str) : (subB bk ys).map (·.1) = ys := by
  rw [subB, List.map_map]; exact List.map_id'' (fun _ => rfl) _
theorem subB_row {bk : Bk} {ys : List Str} (nd : ys.Nodup) {s : Str} (h : s ∈ ys) : rowOf (subB bk ys) s = rowOf bk s := by
  have := rowOf_self (bk := subB bk ys) (by rw [subB_names]; exact nd) (r := (s, rowOf bk s)) (List.mem_map.mpr ⟨s, h, rfl⟩)
  exact this
theorem DOk.sub {bk : Bk} {st : Str} (ok : DOk bk st) {ys : List Str} (nd : ys.Nodup) (hs : st ∈ ys) (hm : ∀ x ∈ ys, x ∈ bk.map (·.1)) (cl : ∀ x ∈ ys, ∀ t ∈ (rowOf bk x).2, t.2 ∈ ys) : DOk (subB bk ys) st := by
  have hr : ∀ r ∈ subB bk ys, r.1 ∈ ys ∧ r.2 = rowOf bk r.1 ∧ r ∈ bk := fun r h => by
    obtain ⟨s, hs, rfl⟩ := List.mem_map.mp h
    exact ⟨hs, rfl, row_mem (hm s hs)⟩
  refine ⟨⟨fun e => ?_, by rw [subB_names]; exact nd, ?_, fun r h => ?_, fun r h => ok.len2 r (hr r h).2.2⟩, fun r h => ok.tk r (hr r h).2.2, by rw [subB_names]; exact hs⟩
  · rw [subB, List.map_eq_nil_iff] at e
    rw [e] at hs; cases hs
  · have := pigeon ys (bk.map (·.1)) nd hm
    rw [List.length_map] at this
    rw [subB, List.length_map]
    have := ok.len; omega
  · obtain ⟨a, b, c⟩ := ok.rs r (hr r h).2.2
    refine ⟨a, b, fun t ht => ?_⟩
    rw [subB_names]
    rw [(hr r h).2.1] at ht
    exact cl _ (hr r h).1 t ht
theorem ordB_sub {bk : Bk} {ys : List Str} (nd : (bk.map (·.1)).Nodup) (tk : ∀ r ∈ bk, (r.2.2.map (·.1)).Nodup) (ny : ys.Nodup) (hm : ∀ x ∈ ys, x ∈ bk.map (·.1)) : ordB (subB (ordB bk) ys) = ordB (subB bk ys) := by
  refine ordB_eq (by rw [subB_names, subB_names]) fun s hs => ?_
  rw [subB_names] at hs
  rw [subB_row ny hs, subB_row ny hs, rowOf_ord nd (hm s hs)]
  exact ⟨rfl, ordT_ordT _⟩
/-- the states that are come to, ascending -/
structure Come (bk : Bk) (st : Str) (ys : List Str) : Prop where
  nd : ys.Nodup
  so : ys.Pairwise leS
  mem : ∀ x, x ∈ ys ↔ Rch bk st x
theorem Come.one {bk bk' : Bk} {st st' : Str} {ys zs : List Str} (h : Come bk st ys) (g : Come bk' st' zs) (e : ∀ x, Rch bk st x ↔ Rch bk' st' x) : ys = zs := by
  refine pw_unique (perm_of_nodup g.nd (fun x hx => (h.mem x).mpr ((e x).mpr ((g.mem x).mp hx))) ?_) h.so g.so
  have a := pigeon ys zs h.nd fun x hx => (g.mem x).mpr ((e x).mp ((h.mem x).mp hx))
  have b := pigeon zs ys g.nd fun x hx => (h.mem x).mpr ((e x).mpr ((g.mem x).mp hx))
  omega
theorem Come.sub {bk : Bk} {st : Str} {ys : List Str} (h : Come bk st ys) (ok : DOk bk st) : DOk (subB bk ys) st :=
  ok.sub h.nd ((h.mem _).mpr .here) (fun x hx => ((h.mem x).mp hx).mem ok) fun x hx t ht => (h.mem _).mpr (.next ((h.mem x).mp hx) ht)
def spComeTo (C : Addr) : Sp := fun vs H Q _ => ∃ (q : Addr) (bk : Bk) (st : Str), vs = [.ref q] ∧ DeskAt C H q bk st ∧ DOk bk st ∧ ∀ H' R ys, Same H H' → H R = none → SL H' R ys → Come bk st ys → Q (.ref R) H'
def spTrimmed (C : Addr) : Sp := fun vs H Q _ => ∃ (q : Addr) (bk : Bk) (st : Str), vs = [.ref q] ∧ DeskAt C H q bk st ∧ DOk bk st ∧ ∀ H' R ys, Same H H' → H R = none → Come bk st ys → DeskAt C H' R (subB bk ys) st → DOk (subB bk ys) st → DeskN C H H' R (subB bk ys) st → Q (.ref R) H'
def spBegun (C : Addr) : Sp := fun vs H Q _ => ∃ (q : Addr) (bk : Bk) (st s : Str), vs = [.ref q, .str s] ∧ DeskAt C H q bk st ∧ DOk bk st ∧ s ∈ bk.map (·.1) ∧ ∀ H' R, Same H H' → H R = none → DeskAt C H' R bk s → Q (.ref R) H'
/-- Desk(book, start) -/
theorem make_ok {C : Addr} {H2 : Hp} {B : Addr} {bk : Bk} {st : Str} {Q : VK} {E : XK} (hB : BookAt H2 B bk) (ok : DOk bk st) (k : ∀ H' q, Same H2 H' → H2 q = none → DeskAt C H' q bk st → DeskN C H2 H' q bk st → Q (.ref q) H') (q dx : Addr) (hq : H2 q = none) (hdx : H2 dx = none) :
    spDInit C [.ref q, .ref B, .str st] (L2.upd (L2.upd H2 dx (.own q)) q (.ins C dx [])) (fun v H' => v = .non ∧ Q (.ref q) H') E := by
  have s4 : Same H2 (L2.upd (L2.upd H2 dx (.own q)) q (.ins C dx [])) := fun c u e => by
    rw [upd_ne (ne_of_none e hq), upd_ne (ne_of_none e hdx)]; exact e
  refine ⟨q, dx, B, bk, st, rfl, upd_same, hB.same s4, ok, fun H5 b5 hd ⟨dy, c, e1, h1⟩ => ⟨rfl, k H5 q (fun c u e => ?_) hq hd ⟨dy, c, e1, h1.same (new_mono s4)⟩⟩⟩
  exact b5 _ _ (ne_of_none e hq) (s4 _ _ e)
end D1
end L2
namespace L2
namespace D1
open PySem PySem.Spec PyProof.Rows D2 X3 X4
theorem DOk.at {bk : Bk} {st s : Str} (h : DOk bk st) (m : s ∈ bk.map (·.1)) : DOk bk s := ⟨h.toBWf, h.tk, m⟩
theorem reach_len {bk : Bk} {st : Str} {ns : List Str} (h : Reach bk st ns) (ok : DOk bk st) : ns.length < 64 := by
  have := pigeon ns (bk.map (·.1)) h.1 fun x hx => ((h.2 x).mp hx).mem ok
  rw [List.length_map] at this
  have := ok.len
  omega
theorem nd_take {ys : List Str} (nd : ys.Nodup) {i : Nat} {z : Str} (h : ys[i]? = some z) : z ∉ ys.take i := fun hm => by
  obtain ⟨m, hm1, hm2⟩ := List.mem_take_iff_getElem.mp hm
  have h1 : ys[m]? = some z := by rw [List.getElem?_eq_getElem (by omega), hm2]
  have := (List.getElem?_inj (by omega) nd).mp (h1.trans h.symm)
  omega
section
variable {P : Program} {w : World} {K : PySem.W.Frag} {mg : Str → Option Value} {base : Heap} {C : Addr}
abbrev CNodes (P : Program) (w : World) (K : PySem.W.Frag) (mg : Str → Option Value) (base : Heap) := Cal P w K mg base "nodes_from" 1 ["graph", "start"] spNodes
abbrev CComeTo (P : Program) (w : World) (K : PySem.W.Frag) (mg : Str → Option Value) (base : Heap) (C : Addr) := Cal P w K mg base "come_to" 5 ["desk"] (spComeTo C)
theorem scCo : FnScope ["desk"] ["desk"] (defScope sComeTo) := ⟨rfl, rfl, rfl, by decide +kernel, rfl, by decide +kernel, by decide +kernel⟩
theorem ok_cometo {f : Addr} {fd : FuncData} (F : Fun K "come_to" "come_to" sComeTo f fd) (T : Free3 mg) (D : DTxt K mg C) (MS : CMStart P w K mg base C) (CN : CNeed P w K mg base C) (CG : CGraph P w K mg base C) (CO : CNodes P w K mg base) : FnOk P w K mg base CX0 5 f fd ["desk"] (spComeTo C) := by
  obtain ⟨fS, fdS, mS, FS, bS⟩ := MS.ex
  refine F.ok scCo (fun vs H Q E h => ?_) (fun cdv A outer s H vs Q E hr h => ?_)
  · obtain ⟨q, bk, st, rfl, _⟩ := h; rfl
  · obtain ⟨q, bk, st, rfl, hq, ok, k⟩ := h
    refine ⟨_, pss_cons (ps_expr (pe_cal CN (hr.mono (by decide)) rfl (pa_cons (pv 0) pa_nil)))
      (pss_one (ps_ret (pe_callB (call_sortedD rfl) (by rfl) T.sorted (by decide +kernel) (pa_cons (pe_cal CO (hr.mono (by decide)) rfl (pa_cons (pe_cal CG (hr.mono (by decide)) rfl (pa_cons (pv 0) pa_nil)) (pa_cons (pe_meth0 (pv 0) D.cl mS FS (hr.mono (by decide)) bS .nil pass0) pa_nil))) pa_nil)))), ?_⟩
    obtain ⟨dx, b0, e0, hb0⟩ := id hq
    refine ⟨_, rfl, q, dx, _, rfl, e0, ?_⟩
    refine ⟨_, rfl, q, bk, st, rfl, hq, ok, fun H1 G s1 hG => ?_⟩
    refine ⟨_, rfl, q, dx, _, rfl, s1 _ _ e0, dflds_no _ _ (by decide +kernel) (by decide +kernel), q, bk, st, rfl, hq.same s1, ?_⟩
    refine ⟨G, bk, st, rfl, hG, ok, fun H2 F0 ns s2 nF hF hrc => ?_⟩
    have s12 := Same.trans s1 s2
    refine ⟨F0, FK ns, ns, rfl, .inl hF, FK_keys ns, reach_len hrc ok, fun ys p pm so hp => ?_⟩
    refine k _ p ys (Same.trans s12 (Same.new hp)) (s12.free hp) upd_same ⟨pm.nodup_iff.mpr hrc.1, sorted_pw so, fun x => ?_⟩
    rw [pm.mem_iff]
    exact hrc.2 x
theorem scBg : FnScope ["desk", "state"] ["desk", "state"] (defScope sBegun) := ⟨rfl, rfl, rfl, by decide +kernel, rfl, by decide +kernel, by decide +kernel⟩
theorem ok_begun {f : Addr} {fd : FuncData} (F : Fun K "begun" "begun" sBegun f fd) (D : DTxt K mg C) (MI : CMInit P w K mg base C) (CB : CBookWith P w K mg base C) : FnOk P w K mg base CX0 6 f fd ["desk", "state"] (spBegun C) := by
  obtain ⟨fI, fdI, mI, FI, bI⟩ := MI
  refine F.ok scBg (fun vs H Q E h => ?_) (fun cdv A outer s H vs Q E hr h => ?_)
  · obtain ⟨q, bk, st, s, rfl, _⟩ := h; rfl
  · obtain ⟨q, bk, st, s0, rfl, hq, ok, hs, k⟩ := h
    refine ⟨_, pss_one (ps_ret (pe_make mI FI (hr.mono (by decide)) rfl D.mgC bI .nil pass0 (pa_cons (pe_cal CB (hr.mono (by decide)) rfl (pa_cons (pv 0) (pa_cons (pv 1) pa_nil))) (pa_cons (pv 1) pa_nil)))), ?_⟩
    refine ⟨_, rfl, _, rfl, q, bk, st, s0, rfl, hq, ok, hs, fun H1 B s1 nB hB => ?_⟩
    have ok2 : DOk (ordB bk) s0 := ok.ord.at (by rw [ordB_names]; exact (srt_perm _).mem_iff.mpr hs)
    refine ⟨_, rfl, fun x dx h1 h2 _ => make_ok hB ok2 (fun H' R s2 nR hD _ => ?_) x dx h1 h2⟩
    exact k H' R (Same.trans s1 s2) (s1.free nR) (hD.congr (ordB_ordB ok.nd))
theorem scTr : FnScope ["desk", "states", "book", "state"] ["desk"] (defScope sTrimmed) := ⟨rfl, rfl, rfl, by decide +kernel, rfl, by decide +kernel, by decide +kernel⟩
theorem ok_trimmed {f : Addr} {fd : FuncData} (F : Fun K "trimmed" "trimmed" sTrimmed f fd) (D : DTxt K mg C) (MB : CMBook P w K mg base C) (MS : CMStart P w K mg base C) (MI : CMInit P w K mg base C) (CC : CComeTo P w K mg base C) : FnOk P w K mg base CX0 6 f fd ["desk"] (spTrimmed C) := by
  obtain ⟨fI, fdI, mI, FI, bI⟩ := MI
  obtain ⟨fS, fdS, mS, FS, bS⟩ := MS.ex
  obtain ⟨fB, fdB, mB, FB, bB⟩ := MB.ex
  refine F.ok scTr (fun vs H Q E h => ?_) (fun cdv A outer s H vs Q E hr h => ?_)
  · obtain ⟨q, bk, st, rfl, _⟩ := h; rfl
  · obtain ⟨q, bk, st, rfl, hq, ok, k⟩ := h
    have hu := hu_of hr
    refine ⟨_, pss_cons (ps_set (i := 1) scTr.nd rfl (Or.inl rfl) (pe_cal CC (hr.mono (by decide)) rfl (pa_cons (pv 0) pa_nil)))
      (pss_cons (ps_set (i := 2) scTr.nd rfl (Or.inr rfl) (pe_meth0 (pv 0) D.cl mB FB (hr.mono (by decide)) bB .nil pass0))
      (pss_one (ps_ret (pe_make mI FI (hr.mono (by decide)) rfl D.mgC bI .nil pass0 (pa_cons (pe_dc (own := [("state", 3)]) (g := gName 3) (tt := tYes) (tk := tVar 3) (tv := tDGet (tVar 2) (tVar 3)) rfl scTr.nd (pi_list (pv 1))
        (blkOk_by (N := ["desk", "states", "book", "state"]) (sc := defScope sTrimmed) (by decide +kernel)) (fun _ _ _ _ _ => pg_name (i := 3) scTr.nd rfl (Or.inl rfl)) (fun _ _ _ _ _ => pts_nil) (fun _ _ _ _ _ => pv 3) (fun _ _ _ _ _ => pe_dget hu (pv 2) (pv 3) (fun _ _ => rfl)))
        (pa_cons (pe_meth0 (pv 0) D.cl mS FS (hr.mono (by decide)) bS .nil pass0) pa_nil)))))), ?_⟩
    obtain ⟨dx, b0, e0, hb0⟩ := id hq
    refine ⟨_, rfl, q, bk, st, rfl, hq, ok, fun H1 S ys s1 nS hS cm => ?_⟩
    refine ⟨_, rfl, q, dx, _, rfl, s1 _ _ e0, dflds_no _ _ (by decide +kernel) (by decide +kernel), q, bk, st, rfl, hq.same s1, ok, fun H2 B s2 nB ⟨kvs, hk, hR⟩ => ?_⟩
    have s12 := Same.trans s1 s2
    have hS2 := hS.same s2
    have hm : ∀ x ∈ ys, x ∈ bk.map (·.1) := fun x hx => ((cm.mem x).mp hx).mem ok
    have l60 : ys.length ≤ 60 := by
      have := pigeon ys (bk.map (·.1)) cm.nd hm
      rw [List.length_map] at this
      have := ok.len; omega
    refine ⟨_, rfl, S, rfl, ⟨_, hS2.sq⟩, fun D0 hD0 => ?_⟩
    refine dc_it (walk_list (K := K) (a := S) (xs := ys.map V.str)) (fun i H' => Same H2 H' ∧ ∃ kv2, H' D0 = some (.dK kv2) ∧ Rows H2 kv2 (subB (ordB bk) (ys.take i))) ⟨Same.new hD0, [], upd_same, .nil⟩ (fun i H' _ z => (hS2.same z.1).sq) ?_ ?_
    · rintro i v H3 H4 hi ⟨sm, kv2, hk2, hR2⟩ ⟨rfl, hx⟩
      obtain ⟨z, hz, rfl⟩ := D1.get_map hx
      have hzm := hm z (List.mem_of_getElem? hz)
      obtain ⟨v, ev, hrow, _⟩ := hR.look (s := z) (by rw [ordB_names]; exact (srt_perm _).mem_iff.mpr hzm)
      have nz := nd_take cm.nd hz
      have fr := hR2.fresh (s := z) (by rw [subB_names]; exact nz)
      have l2 : kv2.length ≤ 60 := by rw [hR2.len, subB, List.length_map, List.length_take]; omega
      refine ⟨rfl, ?_⟩
      dsimp only [tYes]
      rw [if_pos rfl]
      refine ⟨_, rfl, _, rfl, _, rfl, B, _, rfl, .inl ⟨kvs, .inr z, .inl (sm _ _ hk), rfl, ev.symm⟩, kv2, .inr z, rfl, hk2, by rw [sizeLine_eq]; omega, fun c u e => ?_, _, upd_same, ?_⟩
      · rw [upd_ne (ne_of_none e hD0)]; exact sm _ _ e
      · rw [D1.putK_new fr, take_succ_get hz, subB, List.map_append]
        exact hR2.app hrow
    · rintro H3 ⟨sm, kv2, hk2, hR2⟩
      rw [List.length_map, List.take_length] at hR2
      have s13 := Same.trans s12 sm
      refine ⟨_, rfl, q, dx, _, rfl, s13 _ _ e0, dflds_no _ _ (by decide +kernel) (by decide +kernel), q, bk, st, rfl, hq.same s13, ?_⟩
      have hm2 : ∀ x ∈ ys, x ∈ (ordB bk).map (·.1) := fun x hx => by rw [ordB_names]; exact (srt_perm _).mem_iff.mpr (hm x hx)
      have ok2 : DOk (subB (ordB bk) ys) st := ok.ord.sub cm.nd ((cm.mem _).mpr .here) hm2 fun x hx t ht => by
        rw [rowOf_ord ok.nd (hm x hx)] at ht
        exact (cm.mem _).mpr (.next ((cm.mem x).mp hx) ((mem_ordT (ok.tk _ (row_mem (hm x hx)))).mp ht))
      exact fun x dx' h1 h2 _ => make_ok ⟨kv2, hk2, hR2.same sm⟩ ok2 (fun H' R s4 nR hD ⟨dy, c, e1, h1⟩ => k H' R ys (Same.trans s13 s4) (s13.free nR) cm (hD.congr (ordB_sub ok.nd ok.tk cm.nd hm)) (cm.sub ok) ⟨dy, c, e1, by rw [← ordB_sub ok.nd ok.tk cm.nd hm]; exact h1.same (new_mono s13)⟩) x dx' h1 h2
end
end D1
end L2
/-! turned -/
namespace L2
namespace D1
open PySem PySem.Spec PyProof.Rows D2 X3 X4
abbrev sTurned : Stmt := top 29
def rKd (K : PySem.W.Frag) (d : Addr) : R2 := fun x y H Q => ∃ (z : Str) (u0 : Value) (v0 : V), x = .ref d ∧ y = .str z ∧ PySem.W.nsIn K d z = some (some u0) ∧ RelV v0 u0 ∧ Q v0 H
/-- D[key], D a dict of the module -/
theorem ix_kd {X : Cx} {d : Addr} {es : Array DictEntry} {n : Nat} (D : KDict X.K X.w d es n) : IxR X (rKd X.K d) := by
  intro e1 e2 pins s σ H x y v u Q I rx ry h hs
  obtain ⟨z, u0, v0, rfl, rfl, e, r, q⟩ := h
  obtain rfl : v = Value.ref d := rx
  obtain ⟨t, rfl⟩ := ry
  exact tail_any (kd_type D I) PySem.F.slot_dict_getitem.lookup (wpAny_getItem_of (PySem.strKind_is X.prog X.w z t) (PySem.W.mapOf_K (prog := X.prog) I.kIn D.at_ D.lit) (PySem.W.find_K D.at_ e) ⟨v0, H, I.tok _, r, q⟩) hs
def flipK (k : Str) : Str := if k = "says" then "hears" else if k = "hears" then "says" else "done"
/-- the module's table of kinds -/
structure TuT (K : PySem.W.Frag) (w : World) (mg : Str → Option Value) : Prop where
  ex : ∃ (d : Addr) (es : Array DictEntry) (n : Nat) (t1 t2 t3 : Tok), mg "TURNED" = some (.ref d) ∧ KDict K w d es n ∧ PySem.W.nsIn K d "says" = some (some (.str "hears" t1)) ∧ PySem.W.nsIn K d "hears" = some (some (.str "says" t2)) ∧ PySem.W.nsIn K d "done" = some (some (.str "done" t3))
def turnB (bk : Bk) : Bk := bk.map fun r => (r.1, flipK r.2.1, r.2.2)
theorem turnB_names (bk : Bk) : (turnB bk).map (·.1) = bk.map (·.1) := by rw [turnB, List.map_map]; rfl
theorem turnB_row {bk : Bk} (nd : (bk.map (·.1)).Nodup) {s : Str} (h : s ∈ bk.map (·.1)) : rowOf (turnB bk) s = (flipK (rowOf bk s).1, (rowOf bk s).2) := by
  have := rowOf_self (bk := turnB bk) (by rw [turnB_names]; exact nd) (r := (s, flipK (rowOf bk s).1, (rowOf bk s).2)) (List.mem_map.mpr ⟨_, row_mem h, rfl⟩)
  exact this
theorem flip_kind {k : Str} {ts : List (Str × Str)} (h : RForm k ts) : k = "says" ∨ k = "hears" ∨ k = "done" := by
  rcases h with ⟨a, _⟩ | ⟨a, _⟩
  · exact .inr (.inr a)
  · exact a.elim .inl fun z => .inr (.inl z)
theorem flip_form {k : Str} {ts : List (Str × Str)} (h : RForm k ts) : RForm (flipK k) ts := by
  rcases h with ⟨a, b⟩ | ⟨a, b⟩
  · subst a; exact .inl ⟨by decide +kernel, b⟩
  · rcases a with a | a
    · subst a; exact .inr ⟨.inr (by decide +kernel), b⟩
    · subst a; exact .inr ⟨.inl (by decide +kernel), b⟩
theorem flip_flip {k : Str} {ts : List (Str × Str)} (h : RForm k ts) : flipK (flipK k) = k := by
  rcases flip_kind h with a | a | a <;> subst a <;> decide +kernel
theorem DOk.turn {bk : Bk} {st : Str} (ok : DOk bk st) : DOk (turnB bk) st := by
  have hr : ∀ r ∈ turnB bk, ∃ r0 ∈ bk, r = (r0.1, flipK r0.2.1, r0.2.2) := fun r h => let ⟨r0, a, b⟩ := List.mem_map.mp h; ⟨r0, a, b.symm⟩
  refine ⟨⟨fun e => ok.ne (List.map_eq_nil_iff.mp e), by rw [turnB_names]; exact ok.nd, by rw [turnB, List.length_map]; exact ok.len, fun r h => ?_, fun r h => ?_⟩, fun r h => ?_, by rw [turnB_names]; exact ok.st⟩
  · obtain ⟨r0, h0, rfl⟩ := hr r h
    obtain ⟨a, b, c⟩ := ok.rs r0 h0
    exact ⟨a, flip_form b, by rw [turnB_names]; exact c⟩
  · obtain ⟨r0, h0, rfl⟩ := hr r h; exact ok.len2 r0 h0
  · obtain ⟨r0, h0, rfl⟩ := hr r h; exact ok.tk r0 h0
theorem ordB_turn {bk : Bk} {st : Str} (ok : DOk bk st) : ordB (turnB (ordB bk)) = ordB (turnB bk) := by
  refine ordB_eq (by rw [turnB_names, turnB_names, ordB_names]; exact srt_perm _) fun s hs => ?_
  rw [turnB_names, ordB_names] at hs
  have hs := (srt_perm _).mem_iff.mp hs
  rw [turnB_row ok.ond (by rw [ordB_names]; exact (srt_perm _).mem_iff.mpr hs), turnB_row ok.nd hs, rowOf_ord ok.nd hs]
  exact ⟨rfl, ordT_ordT _⟩
theorem ordB_turn2 {bk : Bk} {st : Str} (ok : DOk bk st) : ordB (turnB (turnB bk)) = ordB bk := by
  refine ordB_eq (by rw [turnB_names, turnB_names]) fun s hs => ?_
  rw [turnB_names, turnB_names] at hs
  rw [turnB_row (by rw [turnB_names]; exact ok.nd) (by rw [turnB_names]; exact hs), turnB_row ok.nd hs]
  exact ⟨flip_flip (ok.rs _ (row_mem hs)).2.1, rfl⟩
theorem turn_eq {bk bk' : Bk} {st st' : Str} (ok : DOk bk st) (ok' : DOk bk' st') (e : ordB bk = ordB bk') : ordB (turnB bk) = ordB (turnB bk') := by
  rw [← ordB_turn ok, ← ordB_turn ok', e]
def spTurned (C : Addr) : Sp := fun vs H Q _ => ∃ (q : Addr) (bk : Bk) (st : Str), vs = [.ref q] ∧ DeskAt C H q bk st ∧ DOk bk st ∧ ∀ H' R, Same H H' → H R = none → DeskAt C H' R (turnB bk) st → DeskN C H H' R (turnB bk) st → Q (.ref R) H'
section
variable {P : Program} {w : World} {K : PySem.W.Frag} {mg : Str → Option Value} {base : Heap} {C : Addr}
theorem scTd : FnScope ["desk", "book", "state"] ["desk"] (defScope sTurned) := ⟨rfl, rfl, rfl, by decide +kernel, rfl, by decide +kernel, by decide +kernel⟩
theorem ok_turned {f : Addr} {fd : FuncData} (F : Fun K "turned" "turned" sTurned f fd) (D : DTxt K mg C) (U : TuT K w mg) (CN : CNeed P w K mg base C) (MB : CMBook P w K mg base C) (MS : CMStart P w K mg base C) (MI : CMInit P w K mg base C) : FnOk P w K mg base CX0 6 f fd ["desk"] (spTurned C) := by
  obtain ⟨d, es, dn, t1, t2, t3, mU, kd, u1, u2, u3⟩ := U.ex
  obtain ⟨fI, fdI, mI, FI, bI⟩ := MI
  obtain ⟨fS, fdS, mS, FS, bS⟩ := MS.ex
  obtain ⟨fB, fdB, mB, FB, bB⟩ := MB.ex
  refine F.ok scTd (fun vs H Q E h => ?_) (fun cdv A outer s H vs Q E hr h => ?_)
  · obtain ⟨q, bk, st, rfl, _⟩ := h; rfl
  · obtain ⟨q, bk, st, rfl, hq, ok, k⟩ := h
    have hu := hu_of hr
    refine ⟨_, pss_cons (ps_expr (pe_cal CN (hr.mono (by decide)) rfl (pa_cons (pv 0) pa_nil)))
      (pss_cons (ps_set (i := 1) scTd.nd rfl (Or.inr rfl) (pe_meth0 (pv 0) D.cl mB FB (hr.mono (by decide)) bB .nil pass0))
      (pss_one (ps_ret (pe_make mI FI (hr.mono (by decide)) rfl D.mgC bI .nil pass0 (pa_cons (pe_lock (pe_dc (own := [("state", 2)]) (g := gName 2) (tt := tYes) (tk := tVar 2)
          (tv := tTup (tCons (tOp (rKd K d) (tC (.ref d)) (tOp (rIxT K) (tDGet (tVar 1) (tVar 2)) (tC (.int 0)))) (tCons (tOp (rIxT K) (tDGet (tVar 1) (tVar 2)) (tC (.int 1))) tNil))) rfl scTd.nd (pi_keys (pv 1))
        (blkOk_by (N := ["desk", "book", "state"]) (sc := defScope sTurned) (by decide +kernel)) (fun _ _ _ _ _ => pg_name (i := 2) scTd.nd rfl (Or.inl rfl)) (fun _ _ _ _ _ => pts_nil) (fun _ _ _ _ _ => pv 2)
        (fun _ _ _ _ _ => pe_tup (pa_cons (pe_ix (ix_kd kd) (pe_glob (v := .ref d) rfl mU rfl) (pe_ix ix_tup (pe_dget hu (pv 1) (pv 2) (fun _ _ => rfl)) pe_int (fun _ _ => rfl)) (fun _ _ => rfl)) (pa_cons (pe_ix ix_tup (pe_dget hu (pv 1) (pv 2) (fun _ _ => rfl)) pe_int (fun _ _ => rfl)) pa_nil)))))
        (pa_cons (pe_meth0 (pv 0) D.cl mS FS (hr.mono (by decide)) bS .nil pass0) pa_nil)))))), ?_⟩
    obtain ⟨dx, b0, e0, hb0⟩ := id hq
    refine ⟨_, rfl, q, dx, _, rfl, e0, ?_⟩
    refine ⟨_, rfl, q, dx, _, rfl, e0, dflds_no _ _ (by decide +kernel) (by decide +kernel), q, bk, st, rfl, hq, ok, fun H1 B s1 nB ⟨kvs, hk, hR⟩ => ?_⟩
    refine ⟨B, _, hk, trivial, fun od => ?_⟩
    refine ⟨_, rfl, B, od, rfl, .inl ⟨kvs, upd_same, fun D0 hD0 => ?_⟩⟩
    have nD : B ≠ D0 := fun e => by rw [← e, upd_same] at hD0; cases hD0
    have hRL := hR.lock (o := .frz od (.dK kvs)) hk (ordB_ne ok.ne)
    have l60 : (ordB bk).length ≤ 60 := by rw [ordB_len]; exact ok.len
    have okO := ok.ord
    refine dc_it (walk_keys (d := B) (o := od) (kvs := kvs)) (fun i H' => Same (L2.upd H1 B (.frz od (.dK kvs))) H' ∧ ∃ kv2, H' D0 = some (.dK kv2) ∧ Rows (cut [D0] H') kv2 (turnB ((ordB bk).take i))) ⟨Same.new hD0, [], upd_same, .nil⟩ (fun i H' _ z => z.1 _ _ upd_same) ?_ ?_
    · rintro i x H2 H3 hi ⟨sm, kv2, hk2, hR2⟩ ⟨rfl, kk, v0, hkv, rfl⟩
      obtain ⟨r, hr', rfl, _⟩ := hR.at hkv
      have hrm : r ∈ ordB bk := List.mem_of_getElem? hr'
      have hs : r.1 ∈ (ordB bk).map (·.1) := List.mem_map_of_mem hrm
      obtain ⟨v, ev, ⟨t, a, rfl, ht, ha⟩, _⟩ := (hRL.same sm).look hs
      rw [rowOf_self ok.ond hrm] at ht ha
      have nz : r.1 ∉ (turnB ((ordB bk).take i)).map (·.1) := by
        rw [turnB_names, List.map_take]
        exact nd_take ok.ond (by rw [List.getElem?_map, hr']; rfl)
      have fr := hR2.fresh nz
      have l2 : kv2.length ≤ 60 := by rw [hR2.len, turnB, List.length_map, List.length_take]; omega
      have dg : ∀ {H4 : Hp}, Same H3 H4 → DGet H4 B (V.str r.1) (some (.ref t)) := fun s => .inl ⟨kvs, .inr r.1, .inr ⟨od, s _ _ (sm _ _ upd_same)⟩, rfl, ev.symm⟩
      have kd3 : ∃ u0, PySem.W.nsIn K d r.2.1 = some (some u0) ∧ RelV (.str (flipK r.2.1)) u0 := by
        rcases flip_kind (okO.rs r hrm).2.1 with a | a | a <;> rw [a]
        · exact ⟨_, u1, t1, by rw [show flipK "says" = "hears" by decide +kernel]⟩
        · exact ⟨_, u2, t2, by rw [show flipK "hears" = "says" by decide +kernel]⟩
        · exact ⟨_, u3, t3, by rw [show flipK "done" = "done" by decide +kernel]⟩
      obtain ⟨u0, n0, r0⟩ := kd3
      refine ⟨rfl, ?_⟩
      dsimp only [tYes]
      rw [if_pos rfl]
      refine ⟨_, rfl, _, rfl, _, rfl, B, _, rfl, dg (Same.refl _), t, _, _, _, rfl, rfl, SqT.of ht, atI_nat (j := 0) rfl, r.2.1, u0, .str (flipK r.2.1), rfl, rfl, n0, r0, ?_⟩
      refine ⟨_, rfl, _, rfl, B, _, rfl, dg (Same.refl _), t, _, _, _, rfl, rfl, SqT.of ht, atI_nat (j := 1) rfl, by show 2 ≤ sizeLine; decide, fun T1 hT1 => ?_⟩
      have g1 := Same.new (o := .tup [.str (flipK r.2.1), .ref a]) hT1
      have nT : T1 ≠ D0 := fun e => by rw [e, hk2] at hT1; cases hT1
      have na : a ≠ D0 := fun e => by
        obtain ⟨v9, ev9, ⟨t9, a9, rfl, ht9, ha9⟩, _⟩ := hRL.look hs
        rw [ev] at ev9
        cases ev9
        rw [rowOf_self ok.ond hrm] at ht9 ha9
        have h10 := sm _ _ ht9
        rw [ht] at h10
        have h11 := HO.tup.inj (Option.some.inj h10)
        injection h11 with _ h12
        injection h12 with h13
        injection h13 with h14
        exact absurd (h14.symm.trans e) (ne_of_none ha9 hD0)
      refine ⟨kv2, .inr r.1, rfl, g1 _ _ hk2, by rw [sizeLine_eq]; omega, fun c u e => ?_, _, upd_same, ?_⟩
      · rw [upd_ne (ne_of_none e hD0)]; exact g1 _ _ (sm _ _ e)
      · rw [D1.putK_new fr, take_succ_get hr', turnB, List.map_append, cut_upd (by simp)]
        refine (hR2.same (cut_same g1)).app ⟨T1, a, rfl, ?_, ?_⟩
        · rw [cut_out (by simpa using nT)]; exact upd_same
        · rw [TurnsAt, cut_out (by simpa using na)]; exact g1 _ _ ha
    · rintro H2 ⟨sm, kv2, hk2, hR2⟩
      have hl : kvs.length = (ordB bk).length := hR.len
      rw [hl, List.take_length] at hR2
      have su := Same.unlock hk sm
      have s12 := Same.trans s1 su
      refine ⟨sm _ _ upd_same, ?_⟩
      refine ⟨_, rfl, q, dx, _, rfl, s12 _ _ e0, dflds_no _ _ (by decide +kernel) (by decide +kernel), q, bk, st, rfl, hq.same s12, ?_⟩
      have hR3 : Rows (L2.upd H2 B (.dK kvs)) kv2 (turnB (ordB bk)) := rows_unl (sm _ _ upd_same) (hR2.same cut_le)
      exact fun x dx' h1 h2 _ => make_ok ⟨kv2, by rw [upd_ne nD.symm]; exact hk2, hR3⟩ okO.turn (fun H' R s4 nR hD ⟨dy, c, e1, h1⟩ => k H' R (Same.trans s12 s4) (s12.free nR) (hD.congr (ordB_turn ok)) ⟨dy, c, e1, by rw [← ordB_turn ok]; exact h1.same (new_mono s12)⟩) x dx' h1 h2
end
end D1
end L2
/-! renamed: what it makes -/
namespace L2
namespace D1
open PySem PySem.Spec PyProof.Rows D2 X3 X4 X5 X6
abbrev sNewNames : Stmt := top 30
abbrev sRenRow : Stmt := top 31
abbrev sRenamed : Stmt := top 32
/-- new names of a book's states -/
structure NamesOk (bk : Bk) (nm : List (Str × Str)) : Prop where
  nd : (nm.map (·.1)).Nodup
  len : nm.length = bk.length
  cov : ∀ s ∈ bk.map (·.1), s ∈ nm.map (·.1)
  wd : ∀ t ∈ nm, Wd t.2
  un : (nm.map (·.2)).Nodup
theorem NamesOk.ord {bk : Bk} {nm : List (Str × Str)} (h : NamesOk bk nm) : NamesOk (ordB bk) nm :=
  ⟨h.nd, by rw [ordB_len]; exact h.len, fun s hs => h.cov s (by rw [ordB_names] at hs; exact (srt_perm _).mem_iff.mp hs), h.wd, h.un⟩
def renT (nm ts : List (Str × Str)) : List (Str × Str) := ts.map fun t => (t.1, goalT nm t.2)
def renB (nm : List (Str × Str)) (bk : Bk) : Bk := bk.map fun r => (goalT nm r.1, r.2.1, renT nm r.2.2)
theorem renT_keys (nm ts : List (Str × Str)) : (renT nm ts).map (·.1) = ts.map (·.1) := by rw [renT, List.map_map]; rfl
theorem goal_mem {ts : List (Str × Str)} {k : Str} (h : k ∈ ts.map (·.1)) : (k, goalT ts k) ∈ ts := by
  obtain ⟨t, e, e1, ht⟩ := find_some h
  rw [goalT, e, ← e1]; exact ht
theorem goal_inj {nm : List (Str × Str)} (un : (nm.map (·.2)).Nodup) {x y : Str} (hx : x ∈ nm.map (·.1)) (hy : y ∈ nm.map (·.1)) (e : goalT nm x = goalT nm y) : x = y := by
  obtain ⟨i, hi, ei⟩ := List.getElem_of_mem (goal_mem hx)
  obtain ⟨j, hj, ej⟩ := List.getElem_of_mem (goal_mem hy)
  have a1 : (nm.map (·.2))[i]? = some (goalT nm x) := by rw [List.getElem?_map, List.getElem?_eq_getElem hi, ei]; rfl
  have a2 : (nm.map (·.2))[j]? = some (goalT nm x) := by rw [List.getElem?_map, List.getElem?_eq_getElem hj, ej, e]; rfl
  have := (List.getElem?_inj (by rw [List.length_map]; omega) un).mp (a1.trans a2.symm)
  subst this
  rw [ei] at ej
  exact (Prod.mk.inj ej).1
theorem renB_names (nm : List (Str × Str)) (bk : Bk) : (renB nm bk).map (·.1) = (bk.map (·.1)).map (goalT nm) := by rw [renB, List.map_map, List.map_map]; rfl
theorem map_nd {α β : Type} {f : α → β} : ∀ {l : List α}, l.Nodup → (∀ x ∈ l, ∀ y ∈ l, f x = f y → x = y) → (l.map f).Nodup
  | [], _, _ => List.nodup_nil
  | x :: l, nd, h => by
    have nd' := List.nodup_cons.mp nd
    refine List.nodup_cons.mpr ⟨fun z => ?_, map_nd nd'.2 fun a ha b hb => h a (.tail _ ha) b (.tail _ hb)⟩
    obtain ⟨y, hy, e⟩ := List.mem_map.mp z
    exact nd'.1 (h y (.tail _ hy) x (.head _) e ▸ hy)
theorem renB_nd {nm : List (Str × Str)} {bk : Bk} (n : NamesOk bk nm) (nd : (bk.map (·.1)).Nodup) : ((renB nm bk).map (·.1)).Nodup := by
  rw [renB_names]
  exact map_nd nd fun x hx y hy e => goal_inj n.un (n.cov x hx) (n.cov y hy) e
theorem renB_row {nm : List (Str × Str)} {bk : Bk} (n : NamesOk bk nm) (nd : (bk.map (·.1)).Nodup) {s : Str} (h : s ∈ bk.map (·.1)) : rowOf (renB nm bk) (goalT nm s) = ((rowOf bk s).1, renT nm (rowOf bk s).2) := by
  have := rowOf_self (renB_nd n nd) (r := (goalT nm s, (rowOf bk s).1, renT nm (rowOf bk s).2)) (List.mem_map.mpr ⟨_, row_mem h, rfl⟩)
  exact this
theorem DOk.ren {bk : Bk} {st : Str} (ok : DOk bk st) {nm : List (Str × Str)} (n : NamesOk bk nm) : DOk (renB nm bk) (goalT nm st) := by
  have hr : ∀ r ∈ renB nm bk, ∃ r0 ∈ bk, r = (goalT nm r0.1, r0.2.1, renT nm r0.2.2) := fun r h => let ⟨r0, a, b⟩ := List.mem_map.mp h; ⟨r0, a, b.symm⟩
  have wd : ∀ s ∈ bk.map (·.1), Wd (goalT nm s) := fun s hs => n.wd _ (goal_mem (n.cov s hs))
  have inn : ∀ s ∈ bk.map (·.1), goalT nm s ∈ (renB nm bk).map (·.1) := fun s hs => by rw [renB_names]; exact List.mem_map_of_mem hs
  refine ⟨⟨fun e => ok.ne (List.map_eq_nil_iff.mp e), renB_nd n ok.nd, by rw [renB, List.length_map]; exact ok.len, fun r h => ?_, fun r h => ?_⟩, fun r h => ?_, inn st ok.st⟩
  · obtain ⟨r0, h0, rfl⟩ := hr r h
    obtain ⟨a, b, c⟩ := ok.rs r0 h0
    have ht : ∀ t ∈ renT nm r0.2.2, ∃ t0 ∈ r0.2.2, t = (t0.1, goalT nm t0.2) := fun t h => let ⟨t0, a, b⟩ := List.mem_map.mp h; ⟨t0, a, b.symm⟩
    refine ⟨wd _ (List.mem_map_of_mem h0), ?_, fun t h => ?_⟩
    · rcases b with ⟨e1, e2⟩ | ⟨e1, e2, e3, e4⟩
      · exact .inl ⟨e1, by show renT nm r0.2.2 = []; rw [e2]; rfl⟩
      · refine .inr ⟨e1, fun e => e2 (List.map_eq_nil_iff.mp e), by show (renT nm r0.2.2).length ≤ 1000; rw [renT, List.length_map]; exact e3, fun t h => ?_⟩
        obtain ⟨t0, g0, rfl⟩ := ht t h
        exact ⟨(e4 t0 g0).1, wd _ (c t0 g0)⟩
    · obtain ⟨t0, g0, rfl⟩ := ht t h
      exact inn _ (c t0 g0)
  · obtain ⟨r0, h0, rfl⟩ := hr r h
    show (renT nm r0.2.2).length ≤ 60
    rw [renT, List.length_map]; exact ok.len2 r0 h0
  · obtain ⟨r0, h0, rfl⟩ := hr r h
    show ((renT nm r0.2.2).map (·.1)).Nodup
    rw [renT_keys]; exact ok.tk r0 h0
theorem goal_renT {nm ts : List (Str × Str)} (nd : (ts.map (·.1)).Nodup) {k : Str} (h : k ∈ ts.map (·.1)) : goalT (renT nm ts) k = goalT nm (goalT ts k) := by
  have := goalT_at (ts := renT nm ts) (by rw [renT_keys]; exact nd) (t := (k, goalT nm (goalT ts k))) (List.mem_map.mpr ⟨_, goal_mem h, rfl⟩)
  exact this
theorem ordT_renT {nm ts : List (Str × Str)} (nd : (ts.map (·.1)).Nodup) : ordT (renT nm (ordT ts)) = ordT (renT nm ts) := by
  unfold ordT
  rw [renT_keys, renT_keys]
  have e : (ordT ts).map (·.1) = srt (ts.map (·.1)) := ordT_keys ts
  show (srt ((ordT ts).map (·.1))).map _ = _
  rw [e, srt_srt]
  refine List.map_congr_left fun k hk => ?_
  have hk := (srt_perm _).mem_iff.mp hk
  have h1 : k ∈ (ordT ts).map (·.1) := by rw [e]; exact (srt_perm _).mem_iff.mpr hk
  show (k, goalT (renT nm (ordT ts)) k) = _
  rw [goal_renT (ordT_nd nd) h1, goal_renT nd hk, goalT_ordT hk]
theorem ordB_ren {bk : Bk} {st : Str} (ok : DOk bk st) {nm : List (Str × Str)} (n : NamesOk bk nm) : ordB (renB nm (ordB bk)) = ordB (renB nm bk) := by
  refine ordB_eq (by rw [renB_names, renB_names, ordB_names]; exact (srt_perm _).map _) fun s hs => ?_
  rw [renB_names, ordB_names] at hs
  obtain ⟨s0, h0, rfl⟩ := List.mem_map.mp hs
  have h0 := (srt_perm _).mem_iff.mp h0
  rw [renB_row n.ord ok.ond (by rw [ordB_names]; exact (srt_perm _).mem_iff.mpr h0), renB_row n ok.nd h0, rowOf_ord ok.nd h0]
  exact ⟨rfl, ordT_renT (ok.tk _ (row_mem h0))⟩
theorem ren_eq {bk bk' : Bk} {st st' : Str} (ok : DOk bk st) (ok' : DOk bk' st') {nm : List (Str × Str)} (n : NamesOk bk nm) (n' : NamesOk bk' nm) (e : ordB bk = ordB bk') : ordB (renB nm bk) = ordB (renB nm bk') := by
  rw [← ordB_ren ok n, ← ordB_ren ok' n', e]
end D1
end L2
/-! are_new_names, renamed_row, renamed -/
namespace L2
namespace D1
open PySem PySem.Spec PyProof.Rows D2 X3 X4 X5 X6
def spNewNames : Sp := fun vs H Q _ => ∃ (b N : Addr) (bk : Bk) (nm : List (Str × Str)), vs = [.ref b, .ref N] ∧ BookAt H b bk ∧ bk ≠ [] ∧ bk.length ≤ 60 ∧ TurnsAt H N nm ∧ NamesOk bk nm ∧ ∀ H', Same H H' → Q (.bl true) H'
def spRenRow : Sp := fun vs H Q _ => ∃ (N : Addr) (v : V) (k : Str) (ts nm : List (Str × Str)), vs = [v, .ref N] ∧ RowAt H v k ts ∧ Rd H N (.dK (kT nm)) ∧ (ts.map (·.1)).Nodup ∧ ts.length ≤ 60 ∧ (∀ t ∈ ts, t.2 ∈ nm.map (·.1)) ∧ ∀ H' T a, Same H H' → H T = none → H a = none → H' T = some (.tup [.str k, .ref a]) → TurnsAt H' a (renT nm ts) → Q (.ref T) H'
def spRenamed (C : Addr) : Sp := fun vs H Q _ => ∃ (q N : Addr) (bk : Bk) (st : Str) (nm : List (Str × Str)), vs = [.ref q, .ref N] ∧ DeskAt C H q bk st ∧ DOk bk st ∧ TurnsAt H N nm ∧ NamesOk bk nm ∧ ∀ H' R, Same H H' → H R = none → DeskAt C H' R (renB nm bk) (goalT nm st) → DeskN C H H' R (renB nm bk) (goalT nm st) → Q (.ref R) H'
theorem rd_lock {H : Hp} {a N : Addr} {o u : HO} {od : Obj} (h : Rd H N o) (ha : H a = some u) (hm : ∀ x y, u ≠ .frz x y) : Rd (L2.upd H a (.frz od u)) N o := by
  by_cases e : N = a
  · subst e
    rcases h with h | ⟨od', h⟩
    · rw [ha] at h; cases h
      exact .inr ⟨od, upd_same⟩
    · rw [ha] at h; exact absurd (Option.some.inj h) (hm _ _)
  · rcases h with h | ⟨od', h⟩
    · exact .inl (by rw [upd_ne e]; exact h)
    · exact .inr ⟨od', by rw [upd_ne e]; exact h⟩
theorem kT_app (a b : List (Str × Str)) : kT (a ++ b) = kT a ++ kT b := List.map_append
section
variable {P : Program} {w : World} {K : PySem.W.Frag} {mg : Str → Option Value} {base : Heap} {C : Addr}
abbrev CRenRow (P : Program) (w : World) (K : PySem.W.Frag) (mg : Str → Option Value) (base : Heap) := Cal P w K mg base "renamed_row" 1 ["row", "names"] spRenRow
abbrev CNewNames (P : Program) (w : World) (K : PySem.W.Frag) (mg : Str → Option Value) (base : Heap) := Cal P w K mg base "are_new_names" 2 ["book", "names"] spNewNames
theorem scRr : FnScope ["row", "names", "kind", "turns", "word"] ["row", "names"] (defScope sRenRow) := ⟨rfl, rfl, rfl, by decide +kernel, rfl, by decide +kernel, by decide +kernel⟩
theorem ok_renrow {f : Addr} {fd : FuncData} (F : Fun K "renamed_row" "renamed_row" sRenRow f fd) : FnOk P w K mg base CX0 1 f fd ["row", "names"] spRenRow := by
  refine F.ok scRr (fun vs H Q E h => ?_) (fun cdv A outer s H vs Q E hr h => ?_)
  · obtain ⟨N, v, k, ts, nm, rfl, _⟩ := h; rfl
  · obtain ⟨N, v, kd, ts, nm, rfl, ⟨t, a, rfl, ht, ha⟩, hN, nd, l60, cv, k⟩ := h
    have hu := hu_of hr
    refine ⟨_, pss_cons (ps_asg (pv 0) (pg_tup rfl (pgs_cons (pg_name (i := 2) scRr.nd rfl (Or.inl rfl)) (pgs_cons (pg_name (i := 3) scRr.nd rfl (Or.inr rfl)) pgs_nil))))
      (pss_one (ps_ret (pe_tup (pa_cons (pv 2) (pa_cons (pe_lock (pe_dc (own := [("word", 4)]) (g := gName 4) (tt := tYes) (tk := tVar 4) (tv := tDGet (tVar 1) (tDGet (tVar 3) (tVar 4))) rfl scRr.nd (pi_keys (pv 3))
        (blkOk_by (N := ["row", "names", "kind", "turns", "word"]) (sc := defScope sRenRow) (by decide +kernel)) (fun _ _ _ _ _ => pg_name (i := 4) scRr.nd rfl (Or.inl rfl)) (fun _ _ _ _ _ => pts_nil) (fun _ _ _ _ _ => pv 4)
        (fun _ _ _ _ _ => pe_dget hu (pv 1) (pe_dget hu (pv 3) (pv 4) (fun _ _ => rfl)) (fun _ _ => rfl)))) pa_nil))))), ?_⟩
    refine ⟨_, rfl, t, _, rfl, SqT.of ht, rfl, _, _, rfl, _, _, rfl, rfl, _, rfl, a, _, ha, trivial, fun od => ?_⟩
    have hN2 : Rd (L2.upd H a (.frz od (.dK (kT ts)))) N (.dK (kT nm)) := rd_lock hN ha fun _ _ e => by cases e
    refine ⟨_, rfl, a, od, rfl, .inl ⟨kT ts, upd_same, fun D hD => ?_⟩⟩
    have nD : a ≠ D := fun e => by rw [← e, upd_same] at hD; cases hD
    have hD0 := upd_none' hD
    refine dc_it (walk_keys (d := a) (o := od) (kvs := kT ts)) (fun i H' => Same (L2.upd H a (.frz od (.dK (kT ts)))) H' ∧ TurnsAt H' D (renT nm (ts.take i))) ⟨Same.new hD, upd_same⟩ (fun i H' _ z => z.1 _ _ upd_same) ?_ ?_
    · rintro i x H2 H3 hi ⟨sm, hT⟩ ⟨rfl, kk, v0, hkv, rfl⟩
      rw [kT, List.getElem?_map] at hkv
      obtain ⟨t1, ht1, e9⟩ := Option.map_eq_some_iff.mp hkv
      cases e9
      have htm := List.mem_of_getElem? ht1
      have hil : i < ts.length := (List.getElem?_eq_some_iff.mp ht1).1
      have nz : t1.1 ∉ (renT nm (ts.take i)).map (·.1) := by
        rw [renT_keys, List.map_take]
        exact nd_take nd (by rw [List.getElem?_map, ht1]; rfl)
      have fr : (Sum.inr t1.1 : Key) ∉ (kT (renT nm (ts.take i))).map (·.1) := fun z => by
        rw [kT, List.map_map] at z
        obtain ⟨y, hy, e⟩ := List.mem_map.mp z
        exact nz (List.mem_map.mpr ⟨y, hy, Sum.inr.inj e⟩)
      refine ⟨rfl, ?_⟩
      dsimp only [tYes]
      rw [if_pos rfl]
      have v1 : valV (kT ts) (.inr t1.1) = some (.str t1.2) := by rw [valV_goal (List.mem_map_of_mem htm), goalT_at nd htm]
      refine ⟨_, rfl, _, rfl, _, rfl, _, rfl, a, _, rfl, .inl ⟨kT ts, .inr t1.1, .inr ⟨od, sm _ _ upd_same⟩, rfl, v1.symm⟩, N, _, rfl, .inl ⟨kT nm, .inr t1.2, rd_same hN2 sm, rfl, (valV_goal (cv t1 htm)).symm⟩, _, .inr t1.1, rfl, hT, by rw [kT, renT, List.length_map, List.length_map, List.length_take, sizeLine_eq]; omega, fun c u e => ?_, ?_⟩
      · rw [upd_ne (ne_of_none e hD)]; exact sm _ _ e
      · have e : renT nm (ts.take i ++ [t1]) = renT nm (ts.take i) ++ [(t1.1, goalT nm t1.2)] := by rw [renT, renT, List.map_append]; rfl
        rw [TurnsAt, upd_same, D1.putK_new fr, take_succ_get ht1, e, kT_app]; rfl
    · rintro H2 ⟨sm, hT⟩
      rw [kT, List.length_map, List.take_length] at hT
      have su := Same.unlock ha sm
      refine ⟨sm _ _ upd_same, by show 2 ≤ sizeLine; decide, fun T1 hT1 => ?_⟩
      have hT' : TurnsAt (L2.upd H2 a (.dK (kT ts))) D (renT nm ts) := by rw [TurnsAt, upd_ne nD.symm]; exact hT
      exact k _ _ _ (Same.trans su (Same.new hT1)) (su.free hT1) hD0 upd_same (hT'.same (Same.new hT1))
end
end D1
end L2
namespace L2
namespace D1
open PySem PySem.Spec PyProof.Rows D2 X3 X4 X5 X6
section
variable {P : Program} {w : World} {K : PySem.W.Frag} {mg : Str → Option Value} {base : Heap} {C : Addr}
theorem scNn : FnScope ["book", "names", "state"] ["book", "names"] (defScope sNewNames) := ⟨rfl, rfl, rfl, by decide +kernel, rfl, by decide +kernel, by decide +kernel⟩
theorem ok_newnames {f : Addr} {fd : FuncData} (F : Fun K "are_new_names" "are_new_names" sNewNames f fd) (T : Free3 mg) (ms : mg "set" = none) (CN : CIsName P w K mg base) : FnOk P w K mg base CX0 2 f fd ["book", "names"] spNewNames := by
  refine F.ok scNn (fun vs H Q E h => ?_) (fun cdv A outer s H vs Q E hr h => ?_)
  · obtain ⟨b, N, bk, nm, rfl, _⟩ := h; rfl
  · obtain ⟨b, N, bk, nm, rfl, ⟨kvs, hb, hR⟩, ne, l60, hN, n, k⟩ := h
    have hu := hu_of hr
    refine ⟨_, pss_cons (ps_if (PW.pt (pw_or (pt_not (pt_val (pe_callB call_isi (by rfl) T.isi (by decide +kernel) (pa_cons (pv 1) (pa_cons (pe_bltn (v := .ty "dict") rfl T.dict (by decide +kernel) rfl) pa_nil))))) (pw_or1 (pt_cmpR op_ne (pe_callB call_lenD (by rfl) T.len PySem.boot_len (pa_cons (pv 1) pa_nil)) (pe_callB call_lenD (by rfl) T.len PySem.boot_len (pa_cons (pv 0) pa_nil)) (nomark _))))) (pss_one (ps_ret pe_bl)) pss_nil)
      (pss_cons (ps_if (pt_not (pt_val (pe_callB (cr_all rfl) (by rfl) T.all (by decide +kernel) (pa_cons (pe_lock (pe_lc (own := [("state", 2)]) (g := gName 2) (tt := tYes) (te := tAndV (tDIn (tVar 2) (tVar 1)) (tCall spIsName [] E0 (tCons (tDGet (tVar 1) (tVar 2)) tNil))) rfl scNn.nd (pi_keys (pv 0))
          (blkOk_by (N := ["book", "names", "state"]) (sc := defScope sNewNames) (by decide +kernel)) (fun _ _ _ _ _ => pg_name (i := 2) scNn.nd rfl (Or.inl rfl)) (fun _ _ _ _ _ => pts_nil)
          (fun _ _ _ _ _ => pe_and (pe_cmp (pc_din hu (pv 2) (pv 1)) rfl) (pe_one (pe_cal CN (hr.mono (by decide)) rfl (pa_cons (pe_dget hu (pv 1) (pv 2) (fun _ _ => rfl)) pa_nil)))))) pa_nil)))) (pss_one (ps_ret pe_bl)) pss_nil)
      (pss_one (ps_ret (pe_cmpR op_eq (pe_lenUnlike rfl (by rfl) T.len (by rfl) ms (pe_listVals rfl (by rfl) T.list (pv 1))) (pe_callB call_lenD (by rfl) T.len PySem.boot_len (pa_cons (pv 0) pa_nil)) (nomark _))))), ?_⟩
    have lkv : kvs.length = bk.length := hR.len
    have lnm : (kT nm).length = bk.length := by rw [kT, List.length_map]; exact n.len
    have nNb : N ≠ b := book_ne hb hR ne hN
    refine ⟨_, rfl, _, .ty "dict", .type "dict", .type "dict", true, rfl, .ty _, .base (.dK hN), kit_ty (by decide +kernel), _, rfl, ?_⟩
    refine iteF ⟨_, rfl, N, kT nm, rfl, hN, _, rfl, b, kvs, rfl, hb, ?_⟩
    refine ⟨rfl, _, rfl, ?_⟩
    rw [lnm, lkv, decide_eq_true rfl]
    refine iteF ⟨b, _, hb, trivial, fun od => ?_⟩
    refine ⟨_, rfl, b, od, rfl, .inl ⟨kvs, upd_same, fun D hD => ?_⟩⟩
    have nD : b ≠ D := fun e => by rw [← e, upd_same] at hD; cases hD
    have hN2 : TurnsAt (L2.upd H b (.frz od (.dK kvs))) N nm := by rw [TurnsAt, upd_ne nNb]; exact hN
    refine lc_it (walk_keys (d := b) (o := od) (kvs := kvs)) (fun i H' => Same (L2.upd H b (.frz od (.dK kvs))) H' ∧ H' D = some (.lst ((List.replicate i true).map V.bl))) ⟨Same.new hD, upd_same⟩ (fun i H' _ z => z.1 _ _ upd_same) ?_ ?_
    · rintro i x H1 H2 hi ⟨sm, hl⟩ ⟨rfl, kk, v0, hkv, rfl⟩
      obtain ⟨r, hr', rfl, _⟩ := hR.at hkv
      have hs : r.1 ∈ bk.map (·.1) := List.mem_map_of_mem (List.mem_of_getElem? hr')
      have hg := n.cov r.1 hs
      have hN3 := hN2.same sm
      refine ⟨rfl, ?_⟩
      dsimp only [tYes]
      rw [if_pos rfl]
      refine ⟨_, rfl, _, rfl, N, _, rfl, .inl ⟨kT nm, .inr r.1, .inl hN3, rfl, (valV_goal hg).symm⟩, true, rfl, iteT ⟨_, rfl, _, rfl, N, _, rfl, .inl ⟨kT nm, .inr r.1, .inl hN3, rfl, (valV_goal hg).symm⟩, goalT nm r.1, rfl, n.wd _ (goal_mem hg), fun H4 s4 => ?_⟩⟩
      refine ⟨_, s4 _ _ hl, by rw [List.length_map, List.length_replicate, sizeLine_eq]; omega, fun c u e => ?_, ?_⟩
      · rw [upd_ne (ne_of_none e hD)]; exact s4 _ _ (sm _ _ e)
      · rw [upd_same, repl_snoc]
    · rintro H1 ⟨sm, hl⟩
      have s5 : Same H (L2.upd H1 b (.dK kvs)) := Same.unlock hb sm
      refine ⟨sm _ _ upd_same, D, _, rfl, SqL.of (by rw [upd_ne nD.symm]; exact hl), ?_⟩
      rw [all_true]
      refine ⟨_, rfl, iteF ?_⟩
      have hN5 := s5 _ _ hN
      have hb5 := s5 _ _ hb
      refine ⟨_, rfl, N, kT nm, rfl, hN5, fun p hp => ?_⟩
      have s6 := Same.new (o := .lst ((kT nm).map (·.2))) hp
      have ev : (kT nm).map (·.2) = (nm.map (·.2)).map V.str := by rw [kT, List.map_map, List.map_map]; rfl
      have ln : (nm.map (·.2)).length = bk.length := by rw [List.length_map]; exact n.len
      refine ⟨p, nm.map (·.2), rfl, SqL.of (by rw [upd_same, ev]), n.un, by rw [ln]; show bk.length + 1 < 4096; omega, _, rfl, b, kvs, rfl, s6 _ _ hb5, rfl, ?_⟩
      rw [ln, lkv, decide_eq_true rfl]
      exact k _ (Same.trans s5 s6)
theorem scRd : FnScope ["desk", "names", "book", "state"] ["desk", "names"] (defScope sRenamed) := ⟨rfl, rfl, rfl, by decide +kernel, rfl, by decide +kernel, by decide +kernel⟩
theorem ok_renamed {f : Addr} {fd : FuncData} (F : Fun K "renamed" "renamed" sRenamed f fd) (D : DTxt K mg C) (CN : CNeed P w K mg base C) (CW : CNewNames P w K mg base) (CR : CRenRow P w K mg base) (MB : CMBook P w K mg base C) (MS : CMStart P w K mg base C) (MI : CMInit P w K mg base C) : FnOk P w K mg base CX0 6 f fd ["desk", "names"] (spRenamed C) := by
  obtain ⟨fI, fdI, mI, FI, bI⟩ := MI
  obtain ⟨fS, fdS, mS, FS, bS⟩ := MS.ex
  obtain ⟨fB, fdB, mB, FB, bB⟩ := MB.ex
  refine F.ok scRd (fun vs H Q E h => ?_) (fun cdv A outer s H vs Q E hr h => ?_)
  · obtain ⟨q, N, bk, st, nm, rfl, _⟩ := h; rfl
  · obtain ⟨q, N, bk, st, nm, rfl, hq, ok, hN, n, k⟩ := h
    have hu := hu_of hr
    refine ⟨_, pss_cons (ps_expr (pe_cal CN (hr.mono (by decide)) rfl (pa_cons (pv 0) pa_nil)))
      (pss_cons (ps_set (i := 2) scRd.nd rfl (Or.inr rfl) (pe_meth0 (pv 0) D.cl mB FB (hr.mono (by decide)) bB .nil pass0))
      (pss_cons (ps_if (pt_not (pt_val (pe_cal CW (hr.mono (by decide)) rfl (pa_cons (pv 2) (pa_cons (pv 1) pa_nil))))) (pss_one ps_never) pss_nil)
      (pss_one (ps_ret (pe_make mI FI (hr.mono (by decide)) rfl D.mgC bI .nil pass0 (pa_cons (pe_lock (pe_dc (own := [("state", 3)]) (g := gName 3) (tt := tYes) (tk := tDGet (tVar 1) (tVar 3)) (tv := tCall spRenRow [] E0 (tCons (tDGet (tVar 2) (tVar 3)) (tCons (tVar 1) tNil))) rfl scRd.nd (pi_keys (pv 2))
        (blkOk_by (N := ["desk", "names", "book", "state"]) (sc := defScope sRenamed) (by decide +kernel)) (fun _ _ _ _ _ => pg_name (i := 3) scRd.nd rfl (Or.inl rfl)) (fun _ _ _ _ _ => pts_nil) (fun _ _ _ _ _ => pe_dget hu (pv 1) (pv 3) (fun _ _ => rfl))
        (fun _ _ _ _ _ => pe_cal CR (hr.mono (by decide)) rfl (pa_cons (pe_dget hu (pv 2) (pv 3) (fun _ _ => rfl)) (pa_cons (pv 1) pa_nil)))))
        (pa_cons (pe_dget hu (pv 1) (pe_meth0 (pv 0) D.cl mS FS (hr.mono (by decide)) bS .nil pass0) (fun _ _ => rfl)) pa_nil))))))), ?_⟩
    obtain ⟨dx, b0, e0, hb0⟩ := id hq
    refine ⟨_, rfl, q, dx, _, rfl, e0, ?_⟩
    refine ⟨_, rfl, q, dx, _, rfl, e0, dflds_no _ _ (by decide +kernel) (by decide +kernel), q, bk, st, rfl, hq, ok, fun H1 B s1 nB hB => ?_⟩
    have l60 : (ordB bk).length ≤ 60 := by rw [ordB_len]; exact ok.len
    have neO := ordB_ne ok.ne
    have hN1 := hN.same s1
    refine ⟨_, rfl, _, rfl, B, N, ordB bk, nm, rfl, hB, neO, l60, hN1, n.ord, fun H2 s2 => ⟨_, rfl, iteF ?_⟩⟩
    have s12 := Same.trans s1 s2
    obtain ⟨kvs, hk, hR⟩ := hB.same s2
    have hN2 := hN1.same s2
    have nNB : N ≠ B := book_ne hk hR neO hN2
    refine ⟨B, _, hk, trivial, fun od => ?_⟩
    refine ⟨_, rfl, B, od, rfl, .inl ⟨kvs, upd_same, fun D0 hD0 => ?_⟩⟩
    have nD : B ≠ D0 := fun e => by rw [← e, upd_same] at hD0; cases hD0
    have hRL := hR.lock (o := .frz od (.dK kvs)) hk neO
    have hNL : TurnsAt (L2.upd H2 B (.frz od (.dK kvs))) N nm := by rw [TurnsAt, upd_ne nNB]; exact hN2
    have okO := ok.ord
    have nO := n.ord
    refine dc_it (walk_keys (d := B) (o := od) (kvs := kvs)) (fun i H' => Same (L2.upd H2 B (.frz od (.dK kvs))) H' ∧ ∃ kv2, H' D0 = some (.dK kv2) ∧ Rows (cut [D0] H') kv2 (renB nm ((ordB bk).take i))) ⟨Same.new hD0, [], upd_same, .nil⟩ (fun i H' _ z => z.1 _ _ upd_same) ?_ ?_
    · rintro i x H3 H4 hi ⟨sm, kv2, hk2, hR2⟩ ⟨rfl, kk, v0, hkv, rfl⟩
      obtain ⟨r, hr', rfl, _⟩ := hR.at hkv
      have hrm : r ∈ ordB bk := List.mem_of_getElem? hr'
      have hs : r.1 ∈ (ordB bk).map (·.1) := List.mem_map_of_mem hrm
      have hg := nO.cov r.1 hs
      obtain ⟨v, ev, hrow, _⟩ := (hRL.same sm).look hs
      rw [rowOf_self ok.ond hrm] at hrow
      have nz : goalT nm r.1 ∉ (renB nm ((ordB bk).take i)).map (·.1) := by
        have z := renB_nd nO ok.ond
        have e : ((renB nm (ordB bk)).map (·.1))[i]? = some (goalT nm r.1) := by rw [renB, List.getElem?_map, List.getElem?_map, hr']; rfl
        have := nd_take z e
        rw [renB, List.map_take, List.map_take]
        exact this
      have fr := hR2.fresh nz
      have l2 : kv2.length ≤ 60 := by rw [hR2.len, renB, List.length_map, List.length_take]; omega
      have dg : ∀ {H5 : Hp}, Same H4 H5 → DGet H5 N (V.str r.1) (some (.str (goalT nm r.1))) := fun s => .inl ⟨kT nm, .inr r.1, .inl (s _ _ (sm _ _ hNL)), rfl, (valV_goal hg).symm⟩
      refine ⟨rfl, ?_⟩
      dsimp only [tYes]
      rw [if_pos rfl]
      refine ⟨_, rfl, _, rfl, N, _, rfl, dg (Same.refl _), ?_⟩
      refine ⟨_, rfl, _, rfl, B, v, rfl, .inl ⟨kvs, .inr r.1, .inr ⟨od, sm _ _ upd_same⟩, rfl, ev.symm⟩, _, rfl, ?_⟩
      refine ⟨N, v, r.2.1, r.2.2, nm, rfl, hrow, .inl (sm _ _ hNL), okO.tk r hrm, okO.len2 r hrm, fun t ht => nO.cov _ ((okO.rs r hrm).2.2 t ht), fun H5 T1 a1 s5 nT1 na1 hT1 ha1 => ?_⟩
      have nT : T1 ≠ D0 := fun e => by rw [e, hk2] at nT1; cases nT1
      have nA : a1 ≠ D0 := fun e => by rw [e, hk2] at na1; cases na1
      refine ⟨kv2, .inr (goalT nm r.1), rfl, s5 _ _ hk2, by rw [sizeLine_eq]; omega, fun c u e => ?_, _, upd_same, ?_⟩
      · rw [upd_ne (ne_of_none e hD0)]; exact s5 _ _ (sm _ _ e)
      · rw [D1.putK_new fr, take_succ_get hr', renB, List.map_append, cut_upd (by simp)]
        refine (hR2.same (cut_same s5)).app ⟨T1, a1, rfl, ?_, ?_⟩
        · rw [cut_out (by simpa using nT)]; exact hT1
        · rw [TurnsAt, cut_out (by simpa using nA)]; exact ha1
    · rintro H3 ⟨sm, kv2, hk2, hR2⟩
      have hl : kvs.length = (ordB bk).length := hR.len
      rw [hl, List.take_length] at hR2
      have su := Same.unlock hk sm
      have s13 := Same.trans s12 su
      refine ⟨sm _ _ upd_same, ?_⟩
      refine ⟨_, rfl, _, rfl, q, dx, _, rfl, s13 _ _ e0, dflds_no _ _ (by decide +kernel) (by decide +kernel), q, bk, st, rfl, hq.same s13, N, _, rfl, .inl ⟨kT nm, .inr st, .inl (s13 _ _ hN), rfl, (valV_goal (n.cov st ok.st)).symm⟩, ?_⟩
      have hR3 : Rows (L2.upd H3 B (.dK kvs)) kv2 (renB nm (ordB bk)) := rows_unl (sm _ _ upd_same) (hR2.same cut_le)
      exact fun x dx' h1 h2 _ => make_ok ⟨kv2, by rw [upd_ne nD.symm]; exact hk2, hR3⟩ (okO.ren nO) (fun H' R s4 nR hD ⟨dy, c, e1, h1⟩ => k H' R (Same.trans s13 s4) (s13.free nR) (hD.congr (ordB_ren ok n)) ⟨dy, c, e1, by rw [← ordB_ren ok n]; exact h1.same (new_mono s13)⟩) x dx' h1 h2
end
end D1
end L2
/-! the law's ordered books -/
namespace L2
namespace D1
open PySem PySem.Spec PyProof.Rows D2
abbrev sRowOrd : Stmt := top 52
abbrev sOrdered : Stmt := top 53
abbrev sMade : Stmt := top 56
abbrev sDue : Stmt := top 57
def spRowOrd : Sp := fun vs H Q _ => ∃ (v : V) (k : Str) (ts : List (Str × Str)), vs = [v] ∧ RowAt H v k ts ∧ (ts.map (·.1)).Nodup ∧ ts.length < 64 ∧ ∀ H' T a, Same H H' → H T = none → H a = none → H' T = some (.tup [.str k, .ref a]) → TurnsAt H' a (ordT ts) → Q (.ref T) H'
def spOrdered : Sp := fun vs H Q _ => ∃ (b : Addr) (bk : Bk), vs = [.ref b] ∧ BookR H b bk ∧ BOk bk ∧ ∀ H' R, Same H H' → H R = none → BookAt H' R (ordB bk) → Q (.ref R) H'
theorem kT_keys (ts : List (Str × Str)) : (kT ts).map (·.1) = (ts.map (·.1)).map Sum.inr := by rw [kT, List.map_map, List.map_map]; rfl
section
variable {P : Program} {w : World} {K : PySem.W.Frag} {mg : Str → Option Value} {base : Heap} {C : Addr}
abbrev CRowOrd (P : Program) (w : World) (K : PySem.W.Frag) (mg : Str → Option Value) (base : Heap) := Cal P w K mg base "_law_row_ordered" 1 ["_law_row"] spRowOrd
abbrev COrdered (P : Program) (w : World) (K : PySem.W.Frag) (mg : Str → Option Value) (base : Heap) := Cal P w K mg base "_law_ordered" 2 ["_law_book"] spOrdered
theorem scRwo : FnScope ["_law_row", "_law_word_here"] ["_law_row"] (defScope sRowOrd) := ⟨rfl, rfl, rfl, by decide +kernel, rfl, by decide +kernel, by decide +kernel⟩
theorem ok_roword {f : Addr} {fd : FuncData} (F : Fun K "_law_row_ordered" "_law_row_ordered" sRowOrd f fd) (T : Free3 mg) : FnOk P w K mg base CX0 1 f fd ["_law_row"] spRowOrd := by
  refine F.ok scRwo (fun vs H Q E h => ?_) (fun cdv A outer s H vs Q E hr h => ?_)
  · obtain ⟨v, k, ts, rfl, _⟩ := h; rfl
  · obtain ⟨v, kd, ts, rfl, ⟨t, a, rfl, ht, ha⟩, nd, l64, k⟩ := h
    have hu := hu_of hr
    refine ⟨_, pss_one (ps_ret (pe_tup (pa_cons (pe_ix ix_tup (pv 0) pe_int (fun _ _ => rfl)) (pa_cons (pe_callTy (call_dictP rfl) (by rfl) T.dict (by decide +kernel) (pa_cons (pe_lc (own := [("_law_word_here", 1)]) (g := gName 1) (tt := tYes)
        (te := tTup (tCons (tVar 1) (tCons (tDGet (tOp (rIxT K) (tVar 0) (tC (.int 1))) (tVar 1)) tNil))) rfl scRwo.nd (pi_list (pe_callB (call_sortedD rfl) (by rfl) T.sorted (by decide +kernel) (pa_cons (pe_ix ix_tup (pv 0) pe_int (fun _ _ => rfl)) pa_nil)))
        (blkOk_by (N := ["_law_row", "_law_word_here"]) (sc := defScope sRowOrd) (by decide +kernel)) (fun _ _ _ _ _ => pg_name (i := 1) scRwo.nd rfl (Or.inl rfl)) (fun _ _ _ _ _ => pts_nil)
        (fun _ _ _ _ _ => pe_tup (pa_cons (pv 1) (pa_cons (pe_dget hu (pe_ix ix_tup (pv 0) pe_int (fun _ _ => rfl)) (pv 1) (fun _ _ => rfl)) pa_nil)))) pa_nil)) pa_nil)))), ?_⟩
    refine ⟨_, rfl, t, _, _, _, rfl, rfl, SqT.of ht, atI_nat (j := 0) rfl, ?_⟩
    refine ⟨_, rfl, t, _, _, _, rfl, rfl, SqT.of ht, atI_nat (j := 1) rfl, a, kT ts, ts.map (·.1), rfl, .inl ha, kT_keys ts, by rw [List.length_map]; exact l64, fun ys q pm so hq => ?_⟩
    have ey := srt_of pm so
    have lq : ys.length < 64 := by rw [pm.length_eq, List.length_map]; exact l64
    have am : ∀ y ∈ ys, y ∈ ts.map (·.1) := fun y hy => pm.mem_iff.mp hy
    have ndy : ys.Nodup := pm.nodup_iff.mpr nd
    have s1 := Same.new (o := .lst (ys.map V.str)) hq
    have hy1 : SL (L2.upd H q (.lst (ys.map V.str))) q ys := upd_same
    generalize L2.upd H q (.lst (ys.map V.str)) = H1 at s1 hy1
    refine ⟨q, rfl, ⟨_, hy1.sq⟩, fun M hM => ?_⟩
    refine lc_it (walk_list (K := K) (a := q) (xs := ys.map V.str)) (fun i H' => Same H1 H' ∧ ∃ ps : List Addr, H' M = some (.lst (ps.map V.ref)) ∧ Paired (fun p (kv : Key × V) => (cut [M] H') p = some (.tup [kV kv.1, kv.2])) ps (kT ((ys.take i).map fun k => (k, goalT ts k)))) ⟨Same.new hM, [], upd_same, .nil⟩ (fun i H' _ z => (hy1.same z.1).sq) ?_ ?_
    · rintro i v H2 H3 hi ⟨sm, ps, hM2, hp⟩ ⟨rfl, hx⟩
      obtain ⟨z, hz, rfl⟩ := get_map hx
      have hzm := am z (List.mem_of_getElem? hz)
      have s13 := Same.trans s1 sm
      have il : i < ys.length := (List.getElem?_eq_some_iff.mp hz).1
      refine ⟨rfl, ?_⟩
      dsimp only [tYes]
      rw [if_pos rfl]
      refine ⟨_, rfl, _, rfl, t, _, _, _, rfl, rfl, SqT.of (s13 _ _ ht), atI_nat (j := 1) rfl, _, rfl, a, _, rfl, .inl ⟨kT ts, .inr z, .inl (s13 _ _ ha), rfl, (valV_goal hzm).symm⟩, by show 2 ≤ sizeLine; decide, fun T1 hT1 => ?_⟩
      have g := Same.new (o := .tup [.str z, .str (goalT ts z)]) hT1
      have nT : T1 ≠ M := fun e => by rw [e, hM2] at hT1; cases hT1
      have lps : ps.length ≤ 64 := by rw [paired_len hp, kT, List.length_map, List.length_map, List.length_take]; omega
      refine ⟨_, g _ _ hM2, by rw [List.length_map, sizeLine_eq]; omega, fun c u e => ?_, ps ++ [T1], by rw [upd_same, List.map_append]; rfl, ?_⟩
      · rw [upd_ne (ne_of_none e hM)]; exact g _ _ (sm _ _ e)
      · rw [cut_upd (by simp), take_succ_get hz, List.map_append, kT_app]
        exact pair_app (paired_imp (fun p kv e => cut_same g _ _ e) hp) (by rw [cut_out (by simpa using nT)]; exact upd_same)
    · rintro H2 ⟨sm, ps, hM2, hp⟩
      rw [List.length_map, List.take_length, ey, show (srt (ts.map (·.1))).map (fun k => (k, goalT ts k)) = ordT ts from rfl] at hp
      have s12 := Same.trans s1 sm
      refine ⟨M, ps, kT (ordT ts), rfl, SqL.of hM2, paired_imp (fun p kv e => SqT.of (cut_le _ _ e)) hp, fun B hB => ?_⟩
      rw [merge_id2 (by rw [kT_keys]; exact inr_nd' (ordT_nd nd))]
      have s3 := Same.new (o := .dK (kT (ordT ts))) hB
      have hB3 : TurnsAt (L2.upd H2 B (.dK (kT (ordT ts)))) B (ordT ts) := upd_same
      generalize L2.upd H2 B (.dK (kT (ordT ts))) = H3 at s3 hB3
      refine ⟨by show 2 ≤ sizeLine; decide, fun T1 hT1 => ?_⟩
      exact k _ _ _ (Same.trans (Same.trans s12 s3) (Same.new hT1)) ((Same.trans s12 s3).free hT1) (s12.free hB) upd_same (hB3.same (Same.new hT1))
theorem scOr : FnScope ["_law_book", "_law_state"] ["_law_book"] (defScope sOrdered) := ⟨rfl, rfl, rfl, by decide +kernel, rfl, by decide +kernel, by decide +kernel⟩
theorem ok_ordered {f : Addr} {fd : FuncData} (F : Fun K "_law_ordered" "_law_ordered" sOrdered f fd) (T : Free3 mg) (CR : CRowOrd P w K mg base) : FnOk P w K mg base CX0 2 f fd ["_law_book"] spOrdered := by
  refine F.ok scOr (fun vs H Q E h => ?_) (fun cdv A outer s H vs Q E hr h => ?_)
  · obtain ⟨b, bk, rfl, _⟩ := h; rfl
  · obtain ⟨b, bk, rfl, ⟨kvs, hb, hR⟩, ok, k⟩ := h
    have hu := hu_of hr
    refine ⟨_, pss_one (ps_ret (pe_callTy (call_dictP rfl) (by rfl) T.dict (by decide +kernel) (pa_cons (pe_lc (own := [("_law_state", 1)]) (g := gName 1) (tt := tYes)
        (te := tTup (tCons (tVar 1) (tCons (tCall spRowOrd [] E0 (tCons (tDGet (tVar 0) (tVar 1)) tNil)) tNil))) rfl scOr.nd (pi_list (pe_callB (call_sortedD rfl) (by rfl) T.sorted (by decide +kernel) (pa_cons (pv 0) pa_nil)))
        (blkOk_by (N := ["_law_book", "_law_state"]) (sc := defScope sOrdered) (by decide +kernel)) (fun _ _ _ _ _ => pg_name (i := 1) scOr.nd rfl (Or.inl rfl)) (fun _ _ _ _ _ => pts_nil)
        (fun _ _ _ _ _ => pe_tup (pa_cons (pv 1) (pa_cons (pe_cal CR (hr.mono (by decide)) rfl (pa_cons (pe_dget hu (pv 0) (pv 1) (fun _ _ => rfl)) pa_nil)) pa_nil)))) pa_nil))), ?_⟩
    have ek : kvs.map (·.1) = (bk.map (·.1)).map Sum.inr := by rw [hR.keys, List.map_map]; rfl
    refine ⟨_, rfl, b, kvs, bk.map (·.1), rfl, hb, ek, by rw [List.length_map]; exact ok.len, fun ys q pm so hq => ?_⟩
    have ey := srt_of pm so
    have lq : ys.length < 64 := by rw [pm.length_eq, List.length_map]; exact ok.len
    have am : ∀ y ∈ ys, y ∈ bk.map (·.1) := fun y hy => pm.mem_iff.mp hy
    have ndy : ys.Nodup := pm.nodup_iff.mpr ok.nd
    have s1 := Same.new (o := .lst (ys.map V.str)) hq
    have hy1 : SL (L2.upd H q (.lst (ys.map V.str))) q ys := upd_same
    generalize L2.upd H q (.lst (ys.map V.str)) = H1 at s1 hy1
    refine ⟨q, rfl, ⟨_, hy1.sq⟩, fun M hM => ?_⟩
    refine lc_it (walk_list (K := K) (a := q) (xs := ys.map V.str)) (fun i H' => Same H1 H' ∧ ∃ (ps : List Addr) (kv2 : List (Key × V)), H' M = some (.lst (ps.map V.ref)) ∧ Paired (fun p (kv : Key × V) => (cut [M] H') p = some (.tup [kV kv.1, kv.2])) ps kv2 ∧ Rows (cut [M] H') kv2 ((ys.take i).map fun s => (s, (rowOf bk s).1, ordT (rowOf bk s).2))) ⟨Same.new hM, [], [], upd_same, .nil, .nil⟩ (fun i H' _ z => (hy1.same z.1).sq) ?_ ?_
    · rintro i v H2 H3 hi ⟨sm, ps, kv2, hM2, hp, hR2⟩ ⟨rfl, hx⟩
      obtain ⟨z, hz, rfl⟩ := get_map hx
      have hzm := am z (List.mem_of_getElem? hz)
      have s13 := Same.trans s1 sm
      have il : i < ys.length := (List.getElem?_eq_some_iff.mp hz).1
      obtain ⟨v, ev, hrow, hmem⟩ := (hR.same s13).look hzm
      refine ⟨rfl, ?_⟩
      dsimp only [tYes]
      rw [if_pos rfl]
      refine ⟨_, rfl, _, rfl, _, rfl, b, v, rfl, .inl ⟨kvs, .inr z, rd_same hb s13, rfl, ev.symm⟩, v, _, _, rfl, hrow, (ok.rs _ hmem).1, (ok.rs _ hmem).2, fun H4 T0 a0 s4 nT0 na0 hT0 ha0 => ?_⟩
      refine ⟨by show 2 ≤ sizeLine; decide, fun T1 hT1 => ?_⟩
      have g2 := Same.new (o := .tup [.str z, .ref T0]) hT1
      have g := Same.trans s4 g2
      have nT : T1 ≠ M := fun e => by rw [e, s4 _ _ hM2] at hT1; cases hT1
      have n0 : T0 ≠ M := fun e => by rw [e, hM2] at nT0; cases nT0
      have na : a0 ≠ M := fun e => by rw [e, hM2] at na0; cases na0
      have lps : ps.length ≤ 64 := by rw [paired_len hp, hR2.len, List.length_map, List.length_take]; omega
      refine ⟨_, g _ _ hM2, by rw [List.length_map, sizeLine_eq]; omega, fun c u e => ?_, ps ++ [T1], kv2 ++ [(.inr z, .ref T0)], by rw [upd_same, List.map_append]; rfl, ?_, ?_⟩
      · rw [upd_ne (ne_of_none e hM)]; exact g _ _ (sm _ _ e)
      · rw [cut_upd (by simp)]
        exact pair_app (paired_imp (fun p kv e => cut_same g _ _ e) hp) (by rw [cut_out (by simpa using nT)]; exact upd_same)
      · rw [cut_upd (by simp), take_succ_get hz, List.map_append]
        refine (hR2.same (cut_same g)).app ⟨T0, a0, rfl, ?_, ?_⟩
        · rw [cut_out (by simpa using n0)]; exact g2 _ _ hT0
        · rw [TurnsAt, cut_out (by simpa using na)]; exact g2 _ _ ha0
    · rintro H2 ⟨sm, ps, kv2, hM2, hp, hR2⟩
      rw [List.length_map, List.take_length, ey, show (srt (bk.map (·.1))).map (fun s => (s, (rowOf bk s).1, ordT (rowOf bk s).2)) = ordB bk from rfl] at hR2
      have s12 := Same.trans s1 sm
      refine ⟨M, ps, kv2, rfl, SqL.of hM2, paired_imp (fun p kv e => SqT.of (cut_le _ _ e)) hp, fun B hB => ?_⟩
      have e1 : kv2.map (·.1) = ((ordB bk).map (·.1)).map Sum.inr := by rw [hR2.keys, List.map_map]; rfl
      rw [merge_id2 (by rw [e1]; exact inr_nd' (by rw [ordB_names]; exact (srt_perm _).nodup_iff.mpr ok.nd))]
      exact k _ _ (Same.trans s12 (Same.new hB)) (s12.free hB) ⟨kv2, upd_same, (hR2.same cut_le).same (Same.new hB)⟩
end
end D1
end L2
namespace L2
namespace D1
open PySem PySem.Spec PyProof.Rows D2
def spMade (C : Addr) : Sp := fun vs H Q _ => ∃ (q : Addr) (bk : Bk) (st : Str), vs = [.ref q] ∧ DeskAt C H q bk st ∧ DOk bk st ∧ ∀ H' R, Same H H' → H R = none → WorldAt H' R (ordB bk) st → Q (.ref R) H'
/-- a world whose book may stand locked -/
def WorldR (H : Hp) (R : Addr) (bk : Bk) (st : Str) : Prop := ∃ b, H R = some (.lst [.ref b, .str st]) ∧ BookR H b bk
theorem WorldAt.r {H : Hp} {R : Addr} {bk : Bk} {st : Str} (h : WorldAt H R bk st) : WorldR H R bk st := let ⟨b, e, g⟩ := h; ⟨b, e, g.r⟩
theorem WorldR.same {H H' : Hp} {R : Addr} {bk : Bk} {st : Str} (h : WorldR H R bk st) (s : Same H H') : WorldR H' R bk st := let ⟨b, e, g⟩ := h; ⟨b, s _ _ e, g.same s⟩
def spDue : Sp := fun vs H Q _ => ∃ (W : Addr) (bk : Bk) (st : Str), vs = [.ref W] ∧ WorldR H W bk st ∧ BOk bk ∧ ∀ H' R, Same H H' → H R = none → WorldAt H' R (ordB bk) st → Q (.ref R) H'
theorem eqx_world {H : Hp} {R S : Addr} {bk : Bk} {st : Str} (h : WorldAt H R bk st) (g : WorldAt H S bk st) (ok : BOk bk) (ne : bk ≠ []) : EqX 5 H (.ref R) (.ref S) := by
  obtain ⟨b, e1, h1⟩ := h
  obtain ⟨c, e2, g1⟩ := g
  exact .inr (.inl ⟨R, S, _, _, rfl, rfl, e1, e2, by show 2 ≤ 10000; decide, .cons (eqx_book h1 g1 ok ne) (.cons (eqx_str _) .nil)⟩)
theorem eqx_list {H : Hp} {a b : Addr} {ss : List Str} (ha : SL H a ss) (hb : SL H b ss) (l : ss.length ≤ 10000) : EqX 1 H (.ref a) (.ref b) :=
  .inr (.inl ⟨a, b, ss.map V.str, ss.map V.str, rfl, rfl, ha, hb, by rw [List.length_map]; exact l, paired_imp (fun _ _ z => z) (eqx_strs (n := 0) ss)⟩)
section
variable {P : Program} {w : World} {K : PySem.W.Frag} {mg : Str → Option Value} {base : Heap} {C : Addr}
theorem scMa : FnScope ["_law_desk_here"] ["_law_desk_here"] (defScope sMade) := ⟨rfl, rfl, rfl, by decide +kernel, rfl, by decide +kernel, by decide +kernel⟩
theorem ok_made {f : Addr} {fd : FuncData} (F : Fun K "_law_made" "_law_made" sMade f fd) (D : DTxt K mg C) (MB : CMBook P w K mg base C) (MS : CMStart P w K mg base C) : FnOk P w K mg base CX0 4 f fd ["_law_desk_here"] (spMade C) := by
  obtain ⟨fS, fdS, mS, FS, bS⟩ := MS.ex
  obtain ⟨fB, fdB, mB, FB, bB⟩ := MB.ex
  refine F.ok scMa (fun vs H Q E h => ?_) (fun cdv A outer s H vs Q E hr h => ?_)
  · obtain ⟨q, bk, st, rfl, _⟩ := h; rfl
  · obtain ⟨q, bk, st, rfl, hq, ok, k⟩ := h
    refine ⟨_, pss_one (ps_ret (pe_lst (pa_cons (pe_meth0 (pv 0) D.cl mB FB (hr.mono (by decide)) bB .nil pass0) (pa_cons (pe_meth0 (pv 0) D.cl mS FS (hr.mono (by decide)) bS .nil pass0) pa_nil)))), ?_⟩
    obtain ⟨dx, b0, e0, hb0⟩ := id hq
    refine ⟨_, rfl, q, dx, _, rfl, e0, dflds_no _ _ (by decide +kernel) (by decide +kernel), q, bk, st, rfl, hq, ok, fun H1 B s1 nB hB => ?_⟩
    refine ⟨_, rfl, q, dx, _, rfl, s1 _ _ e0, dflds_no _ _ (by decide +kernel) (by decide +kernel), q, bk, st, rfl, hq.same s1, by show 2 ≤ sizeLine; decide, fun R hR => ?_⟩
    exact k _ R (Same.trans s1 (Same.new hR)) (s1.free hR) ⟨B, upd_same, hB.same (Same.new hR)⟩
theorem scDu : FnScope ["_law_world_here"] ["_law_world_here"] (defScope sDue) := ⟨rfl, rfl, rfl, by decide +kernel, rfl, by decide +kernel, by decide +kernel⟩
theorem ok_due {f : Addr} {fd : FuncData} (F : Fun K "_law_due" "_law_due" sDue f fd) (CO : COrdered P w K mg base) : FnOk P w K mg base CX0 3 f fd ["_law_world_here"] spDue := by
  refine F.ok scDu (fun vs H Q E h => ?_) (fun cdv A outer s H vs Q E hr h => ?_)
  · obtain ⟨W, bk, st, rfl, _⟩ := h; rfl
  · obtain ⟨W, bk, st, rfl, ⟨b, hW, hb⟩, ok, k⟩ := h
    refine ⟨_, pss_one (ps_ret (pe_lst (pa_cons (pe_cal CO (hr.mono (by decide)) rfl (pa_cons (pe_ix ix_list (pv 0) pe_int (fun _ _ => rfl)) pa_nil)) (pa_cons (pe_ix ix_list (pv 0) pe_int (fun _ _ => rfl)) pa_nil)))), ?_⟩
    refine ⟨_, rfl, W, _, _, _, rfl, rfl, SqL.of hW, atI_nat (j := 0) rfl, b, bk, rfl, hb, ok, fun H1 B s1 nB hB => ?_⟩
    refine ⟨_, rfl, W, _, _, _, rfl, rfl, SqL.of (s1 _ _ hW), atI_nat (j := 1) rfl, by show 2 ≤ sizeLine; decide, fun R hR => ?_⟩
    exact k _ R (Same.trans s1 (Same.new hR)) (s1.free hR) ⟨B, upd_same, hB.same (Same.new hR)⟩
end
/-! ### the law's other kinds -/
abbrev sOther : Stmt := top 58
def spOther : Sp := fun vs H Q _ => ∃ (W : Addr) (bk : Bk) (st : Str), vs = [.ref W] ∧ WorldAt H W bk st ∧ DOk bk st ∧ ∀ H' R, Same H H' → H R = none → WorldAt H' R (turnB bk) st → Q (.ref R) H'
def kd3 : List (Str × Str) := [("says", "hears"), ("hears", "says"), ("done", "done")]
theorem kd3_val {k : Str} {ts : List (Str × Str)} (h : RForm k ts) : valV (kT kd3) (.inr k) = some (.str (flipK k)) := by
  have a : ∀ {x y : Str}, x ∈ kd3.map (·.1) → goalT kd3 x = y → valV (kT kd3) (.inr x) = some (.str y) := fun h e => by rw [valV_goal h, e]
  rcases flip_kind h with e | e | e <;> rw [e]
  · exact a (by decide +kernel) (by decide +kernel)
  · exact a (by decide +kernel) (by decide +kernel)
  · exact a (by decide +kernel) (by decide +kernel)
section
variable {P : Program} {w : World} {K : PySem.W.Frag} {mg : Str → Option Value} {base : Heap} {C : Addr}
theorem scOk : FnScope ["_law_world_here", "_law_kinds", "_law_found", "_law_state"] ["_law_world_here"] (defScope sOther) := ⟨rfl, rfl, rfl, by decide +kernel, rfl, by decide +kernel, by decide +kernel⟩
theorem ok_other {f : Addr} {fd : FuncData} (F : Fun K "_law_other_kinds" "_law_other_kinds" sOther f fd) (T : Free3 mg) : FnOk P w K mg base CX0 1 f fd ["_law_world_here"] spOther := by
  refine F.ok scOk (fun vs H Q E h => ?_) (fun cdv A outer s H vs Q E hr h => ?_)
  · obtain ⟨W, bk, st, rfl, _⟩ := h; rfl
  · obtain ⟨W, bk, st, rfl, ⟨b, hW, ⟨kvs, hb, hR⟩⟩, ok, k⟩ := h
    have hu := hu_of hr
    refine ⟨_, pss_cons (ps_par (i := 1) (j := 2) rfl scOk.nd rfl rfl (by decide) rfl rfl (pa_cons (pe_disp (pps_cons pe_str pe_str (pps_cons pe_str pe_str (pps_cons pe_str pe_str pps_nil))) (by rfl) (by rfl) (fun z => by cases z) (by show 3 ≤ 15; decide)) (pa_cons pe_dnewK pa_nil)) (by rfl))
      (pss_cons (ps_lock (ps_for PassesOwn.never rfl (pi_keys (pe_ix ix_list (pv 0) pe_int (fun _ _ => rfl))) (pg_name (i := 3) scOk.nd rfl (Or.inl rfl))
        (pss_one (ps_dput hu (pv 2) (pv 3) (pe_tup (pa_cons (pe_dget hu (pv 1) (pe_ix ix_tup (pe_dget hu (pe_ix ix_list (pv 0) pe_int (fun _ _ => rfl)) (pv 3) (fun _ _ => rfl)) pe_int (fun _ _ => rfl)) (fun _ _ => rfl)) (pa_cons (pe_callTy call_dictD (by rfl) T.dict (by decide +kernel) (pa_cons (pe_ix ix_tup (pe_dget hu (pe_ix ix_list (pv 0) pe_int (fun _ _ => rfl)) (pv 3) (fun _ _ => rfl)) pe_int (fun _ _ => rfl)) pa_nil)) pa_nil))) rfl))))
      (pss_one (ps_ret (pe_lst (pa_cons (pv 2) (pa_cons (pe_ix ix_list (pv 0) pe_int (fun _ _ => rfl)) pa_nil)))))), ?_⟩
    refine fun Kd hKd => ⟨upd_same, kT kd3, rfl, by show 3 ≤ 15; decide, ?_⟩
    rw [updd2, merge_id2 (by rw [kT_keys]; exact inr_nd' (by decide +kernel))]
    have g1 := Same.new (o := .dK (kT kd3)) hKd
    have eK : TurnsAt (L2.upd H Kd (.dK (kT kd3))) Kd kd3 := upd_same
    generalize L2.upd H Kd (.dK (kT kd3)) = H1 at g1 eK
    refine fun Fd hFd => ⟨_, _, rfl, ?_⟩
    have g2 := Same.new (o := .dK []) hFd
    have s1 := Same.trans g1 g2
    have eK2 := eK.same g2
    have eF : (L2.upd H1 Fd (.dK [])) Fd = some (.dK []) := upd_same
    have nF : H Fd = none := g1.free hFd
    have nKF : Kd ≠ Fd := fun e => by rw [TurnsAt, e, hFd] at eK; cases eK
    have nbK : b ≠ Kd := ne_of_none hb hKd
    have nbF : b ≠ Fd := ne_of_none hb nF
    generalize L2.upd H1 Fd (.dK []) = H2 at g2 s1 eK2 eF
    have hb2 := s1 _ _ hb
    refine ⟨b, _, hb2, trivial, fun od => ?_⟩
    have nWb : W ≠ b := fun e => by rw [e, hb] at hW; cases hW
    have hRL := hR.lock (o := .frz od (.dK kvs)) hb ok.ne
    have sl : Same (L2.upd H b (.frz od (.dK kvs))) (L2.upd H2 b (.frz od (.dK kvs))) := fun c u e => by
      by_cases h : c = b
      · rw [h] at e ⊢; rw [upd_same] at e ⊢; exact e
      · rw [upd_ne h] at e ⊢; exact s1 _ _ e
    have hWL : (L2.upd H b (.frz od (.dK kvs))) W = some (.lst [.ref b, .str st]) := by rw [upd_ne nWb]; exact hW
    refine ⟨_, rfl, W, _, _, _, rfl, rfl, SqL.of (sl _ _ hWL), atI_nat (j := 0) rfl, b, od, rfl, .inl ⟨kvs, upd_same, ?_⟩⟩
    have l60 := ok.len
    refine for_it (walk_keys (d := b) (o := od) (kvs := kvs)) (fun i σ H' => ∃ (v3 : Option V) (kv2 : List (Key × V)), σ = [some (.ref W), some (.ref Kd), some (.ref Fd), v3] ∧ Same (L2.upd H b (.frz od (.dK kvs))) H' ∧ TurnsAt H' Kd kd3 ∧ H' Fd = some (.dK kv2) ∧ Rows (cut [Fd] H') kv2 (turnB (bk.take i)))
      ⟨none, [], rfl, sl, by rw [TurnsAt, upd_ne nbK.symm]; exact eK2, by rw [upd_ne nbF.symm]; exact eF, .nil⟩ (fun i σ H' _ ⟨_, _, _, z, _⟩ => z _ _ upd_same) ?_ ?_
    · rintro i x σ H3 H4 hi ⟨v3, kv2, rfl, sm, hK3, hF3, hR2⟩ ⟨rfl, kk, v0, hkv, rfl⟩
      obtain ⟨r, hr', rfl, _⟩ := hR.at hkv
      have hrm : r ∈ bk := List.mem_of_getElem? hr'
      have hs : r.1 ∈ bk.map (·.1) := List.mem_map_of_mem hrm
      obtain ⟨v, ev, ⟨t, a, rfl, ht, ha⟩, _⟩ := (hRL.same sm).look hs
      rw [rowOf_self ok.nd hrm] at ht ha
      have hW3 := SqL.of (K := K) (sm _ _ hWL)
      have hil : i < bk.length := (List.getElem?_eq_some_iff.mp hr').1
      have dg : DGet H4 b (V.str r.1) (some (.ref t)) := .inl ⟨kvs, .inr r.1, .inr ⟨od, sm _ _ upd_same⟩, rfl, ev.symm⟩
      have nz : r.1 ∉ (turnB (bk.take i)).map (·.1) := by
        rw [turnB_names, List.map_take]
        exact nd_take ok.nd (by rw [List.getElem?_map, hr']; rfl)
      have fr := hR2.fresh nz
      have l2 : kv2.length ≤ 60 := by rw [hR2.len, turnB, List.length_map, List.length_take]; omega
      refine ⟨_, rfl, _, rfl, W, _, _, _, rfl, rfl, hW3, atI_nat (j := 0) rfl, _, rfl, b, _, rfl, dg, t, _, _, _, rfl, rfl, SqT.of ht, atI_nat (j := 0) rfl, Kd, _, rfl, .inl ⟨kT kd3, .inr r.2.1, .inl hK3, rfl, (kd3_val (ok.rs r hrm).2.1).symm⟩, ?_⟩
      refine ⟨_, rfl, W, _, _, _, rfl, rfl, hW3, atI_nat (j := 0) rfl, _, rfl, b, _, rfl, dg, t, _, _, _, rfl, rfl, SqT.of ht, atI_nat (j := 1) rfl, a, kT r.2.2, rfl, .inl ha, fun E1 hE1 => ?_⟩
      refine ⟨by show 2 ≤ sizeLine; decide, fun T1 hT1 => ?_⟩
      have q1 := Same.new (o := .dK (kT r.2.2)) hE1
      have q2 := Same.new (o := .tup [.str (flipK r.2.1), .ref E1]) hT1
      have q := Same.trans q1 q2
      have nE : E1 ≠ Fd := fun e => by rw [e, hF3] at hE1; cases hE1
      have nT : T1 ≠ Fd := fun e => by rw [e, q1 _ _ hF3] at hT1; cases hT1
      refine ⟨_, rfl, _, rfl, Fd, _, rfl, DPut.k (kvs := kv2) (k := Sum.inr r.1) (q _ _ hF3) (by rw [sizeLine_eq]; omega), ?_⟩
      refine ⟨_, _, rfl, fun c u e => ?_, by rw [TurnsAt, upd_ne nKF]; exact q _ _ hK3, upd_same, ?_⟩
      · have nc : c ≠ Fd := fun z => by rw [z, upd_ne nbF.symm, nF] at e; cases e
        rw [upd_ne nc]; exact q _ _ (sm _ _ e)
      · rw [D1.putK_new fr, take_succ_get hr', turnB, List.map_append, cut_upd (by simp)]
        refine (hR2.same (cut_same q)).app ⟨T1, E1, rfl, ?_, ?_⟩
        · rw [cut_out (by simpa using nT)]; exact upd_same
        · rw [TurnsAt, cut_out (by simpa using nE)]; exact q2 _ _ upd_same
    · rintro σ H3 ⟨v3, kv2, rfl, sm, hK3, hF3, hR2⟩
      have hl : kvs.length = bk.length := hR.len
      rw [hl, List.take_length] at hR2
      have su := Same.unlock hb sm
      have hR3 : Rows (L2.upd H3 b (.dK kvs)) kv2 (turnB bk) := rows_unl (sm _ _ upd_same) (hR2.same cut_le)
      refine ⟨sm _ _ upd_same, _, rfl, _, rfl, W, _, _, _, rfl, rfl, SqL.of (su _ _ hW), atI_nat (j := 1) rfl, by show 2 ≤ sizeLine; decide, fun R hR' => ?_⟩
      have q := Same.new (o := .lst [.ref Fd, .str st]) hR'
      exact k _ R (Same.trans su q) (su.free hR') ⟨Fd, upd_same, kv2, q _ _ (by rw [upd_ne nbF.symm]; exact hF3), hR3.same q⟩
end
end D1
end L2
namespace L2
namespace D1
open PySem PySem.Spec PyProof.Rows D2
abbrev sNamed : Stmt := top 59
/-- a world whose book is new -/
def WorldN (H H' : Hp) (R : Addr) (bk : Bk) (st : Str) : Prop := ∃ b, H' R = some (.lst [.ref b, .str st]) ∧ BookAt (newH H H') b bk
theorem WorldN.at {H H' : Hp} {R : Addr} {bk : Bk} {st : Str} (h : WorldN H H' R bk st) : WorldAt H' R bk st := let ⟨b, e, g⟩ := h; ⟨b, e, g.same new_le⟩
def spNamed : Sp := fun vs H Q _ => ∃ (W N : Addr) (bk : Bk) (st : Str) (nm : List (Str × Str)), vs = [.ref W, .ref N] ∧ WorldAt H W bk st ∧ DOk bk st ∧ TurnsAt H N nm ∧ NamesOk bk nm ∧ ∀ H' R, Same H H' → H R = none → WorldN H H' R (renB nm bk) (goalT nm st) → Q (.ref R) H'
section
variable {P : Program} {w : World} {K : PySem.W.Frag} {mg : Str → Option Value} {base : Heap} {C : Addr}
theorem scNa : FnScope ["_law_world_here", "_law_names_here", "_law_found", "_law_state", "_law_kind", "_law_turns_here", "_law_word_here"] ["_law_world_here", "_law_names_here"] (defScope sNamed) := ⟨rfl, rfl, rfl, by decide +kernel, rfl, by decide +kernel, by decide +kernel⟩
theorem ok_named {f : Addr} {fd : FuncData} (F : Fun K "_law_named" "_law_named" sNamed f fd) (T : Free3 mg) : FnOk P w K mg base CX0 1 f fd ["_law_world_here", "_law_names_here"] spNamed := by
  refine F.ok scNa (fun vs H Q E h => ?_) (fun cdv A outer s H vs Q E hr h => ?_)
  · obtain ⟨W, N, bk, st, nm, rfl, _⟩ := h; rfl
  · obtain ⟨W, N, bk, st, nm, rfl, ⟨b, hW, ⟨kvs, hb, hR⟩⟩, ok, hN, n, k⟩ := h
    have hu := hu_of hr
    refine ⟨_, pss_cons (ps_set (i := 2) scNa.nd rfl (Or.inl rfl) pe_dnewK)
      (pss_cons (ps_lock (ps_for PassesOwn.never rfl (pi_keys (pe_ix ix_list (pv 0) pe_int (fun _ _ => rfl))) (pg_name (i := 3) scNa.nd rfl (Or.inl rfl))
        (pss_cons (ps_asg (pe_dget hu (pe_ix ix_list (pv 0) pe_int (fun _ _ => rfl)) (pv 3) (fun _ _ => rfl)) (pg_tup rfl (pgs_cons (pg_name (i := 4) scNa.nd rfl (Or.inl rfl)) (pgs_cons (pg_name (i := 5) scNa.nd rfl (Or.inr rfl)) pgs_nil))))
        (pss_one (ps_dput hu (pv 2) (pe_dget hu (pv 1) (pv 3) (fun _ _ => rfl)) (pe_tup (pa_cons (pv 4) (pa_cons (pe_callTy (call_dictP rfl) (by rfl) T.dict (by decide +kernel) (pa_cons (pe_lock (pe_lc (own := [("_law_word_here", 6)]) (g := gName 6) (tt := tYes)
            (te := tTup (tCons (tVar 6) (tCons (tDGet (tVar 1) (tDGet (tVar 5) (tVar 6))) tNil))) rfl scNa.nd (pi_keys (pv 5))
            (blkOk_by (N := ["_law_world_here", "_law_names_here", "_law_found", "_law_state", "_law_kind", "_law_turns_here", "_law_word_here"]) (sc := defScope sNamed) (by decide +kernel)) (fun _ _ _ _ _ => pg_name (i := 6) scNa.nd rfl (Or.inl rfl)) (fun _ _ _ _ _ => pts_nil)
            (fun _ _ _ _ _ => pe_tup (pa_cons (pv 6) (pa_cons (pe_dget hu (pv 1) (pe_dget hu (pv 5) (pv 6) (fun _ _ => rfl)) (fun _ _ => rfl)) pa_nil))))) pa_nil)) pa_nil))) rfl)))))
      (pss_one (ps_ret (pe_lst (pa_cons (pv 2) (pa_cons (pe_dget hu (pv 1) (pe_ix ix_list (pv 0) pe_int (fun _ _ => rfl)) (fun _ _ => rfl)) pa_nil)))))), ?_⟩
    refine fun Fd nF => ?_
    have s1 := Same.new (o := .dK []) nF
    have eF : (L2.upd H Fd (.dK [])) Fd = some (.dK []) := upd_same
    have nbF : b ≠ Fd := ne_of_none hb nF
    generalize L2.upd H Fd (.dK []) = H2 at s1 eF
    have hb2 := s1 _ _ hb
    refine ⟨b, _, hb2, trivial, fun od => ?_⟩
    have nWb : W ≠ b := fun e => by rw [e, hb] at hW; cases hW
    have nNb : N ≠ b := book_ne hb hR ok.ne hN
    have hRL := hR.lock (o := .frz od (.dK kvs)) hb ok.ne
    have hNL : TurnsAt (L2.upd H b (.frz od (.dK kvs))) N nm := by rw [TurnsAt, upd_ne nNb]; exact hN
    have sl : Same (L2.upd H b (.frz od (.dK kvs))) (L2.upd H2 b (.frz od (.dK kvs))) := fun c u e => by
      by_cases h : c = b
      · rw [h] at e ⊢; rw [upd_same] at e ⊢; exact e
      · rw [upd_ne h] at e ⊢; exact s1 _ _ e
    have hWL : (L2.upd H b (.frz od (.dK kvs))) W = some (.lst [.ref b, .str st]) := by rw [upd_ne nWb]; exact hW
    refine ⟨_, rfl, W, _, _, _, rfl, rfl, SqL.of (sl _ _ hWL), atI_nat (j := 0) rfl, b, od, rfl, .inl ⟨kvs, upd_same, ?_⟩⟩
    have l60 := ok.len
    refine for_it (walk_keys (d := b) (o := od) (kvs := kvs)) (fun i σ H' => ∃ (v3 v4 v5 : Option V) (kv2 : List (Key × V)), σ = [some (.ref W), some (.ref N), some (.ref Fd), v3, v4, v5, none] ∧ Same (L2.upd H b (.frz od (.dK kvs))) H' ∧ H' Fd = some (.dK kv2) ∧ Rows (cut [Fd] (newH H H')) kv2 (renB nm (bk.take i)))
      ⟨none, none, none, [], rfl, sl, by rw [upd_ne nbF.symm]; exact eF, .nil⟩ (fun i σ H' _ ⟨_, _, _, _, _, z, _⟩ => z _ _ upd_same) ?_ ?_
    · rintro i x σ H3 H4 hi ⟨v3, v4, v5, kv2, rfl, sm, hF3, hR2⟩ ⟨rfl, kk, v0, hkv, rfl⟩
      obtain ⟨r, hr', rfl, _⟩ := hR.at hkv
      have hrm : r ∈ bk := List.mem_of_getElem? hr'
      have hs : r.1 ∈ bk.map (·.1) := List.mem_map_of_mem hrm
      obtain ⟨v, ev, ⟨t, a, rfl, ht, ha⟩, _⟩ := (hRL.same sm).look hs
      rw [rowOf_self ok.nd hrm] at ht ha
      have hW3 := SqL.of (K := K) (sm _ _ hWL)
      have hN3 := hNL.same sm
      have hil : i < bk.length := (List.getElem?_eq_some_iff.mp hr').1
      have nz : goalT nm r.1 ∉ (renB nm (bk.take i)).map (·.1) := by
        have e : ((renB nm bk).map (·.1))[i]? = some (goalT nm r.1) := by rw [renB, List.getElem?_map, List.getElem?_map, hr']; rfl
        have := nd_take (renB_nd n ok.nd) e
        rw [renB, List.map_take, List.map_take]
        exact this
      have fr := hR2.fresh nz
      have l2 : kv2.length ≤ 60 := by rw [hR2.len, renB, List.length_map, List.length_take]; omega
      have tl60 := ok.len2 r hrm
      have ttk := ok.tk r hrm
      have tgo : ∀ u ∈ r.2.2, u.2 ∈ nm.map (·.1) := fun u hu => n.cov _ ((ok.rs r hrm).2.2 u hu)
      refine ⟨_, rfl, W, _, _, _, rfl, rfl, hW3, atI_nat (j := 0) rfl, _, rfl, b, _, rfl, .inl ⟨kvs, .inr r.1, .inr ⟨od, sm _ _ upd_same⟩, rfl, ev.symm⟩, ?_⟩
      refine ⟨t, _, rfl, SqT.of ht, rfl, _, _, rfl, _, _, rfl, rfl, ?_⟩
      refine ⟨_, rfl, a, _, ha, trivial, fun od2 => ?_⟩
      have hNr : Rd (L2.upd H4 a (.frz od2 (.dK (kT r.2.2)))) N (.dK (kT nm)) := rd_lock (.inl hN3) ha fun _ _ e => by cases e
      refine ⟨_, rfl, a, od2, rfl, .inl ⟨kT r.2.2, upd_same, fun M hM => ?_⟩⟩
      have nM : a ≠ M := fun e => by rw [← e, upd_same] at hM; cases hM
      refine lc_it (walk_keys (d := a) (o := od2) (kvs := kT r.2.2)) (fun j H' => Same (L2.upd H4 a (.frz od2 (.dK (kT r.2.2)))) H' ∧ ∃ ps : List Addr, H' M = some (.lst (ps.map V.ref)) ∧ Paired (fun p (kv : Key × V) => (cut [M] H') p = some (.tup [kV kv.1, kv.2])) ps (kT (renT nm (r.2.2.take j)))) ⟨Same.new hM, [], upd_same, .nil⟩ (fun j H' _ z => z.1 _ _ upd_same) ?_ ?_
      · rintro j x H5 H6 hj ⟨sm5, ps, hM5, hp⟩ ⟨rfl, kk, v0, hkv9, rfl⟩
        rw [kT, List.getElem?_map] at hkv9
        obtain ⟨t1, ht1, e9⟩ := Option.map_eq_some_iff.mp hkv9
        cases e9
        have htm := List.mem_of_getElem? ht1
        have v1 : valV (kT r.2.2) (.inr t1.1) = some (.str t1.2) := by rw [valV_goal (List.mem_map_of_mem htm), goalT_at ttk htm]
        refine ⟨rfl, ?_⟩
        dsimp only [tYes]
        rw [if_pos rfl]
        refine ⟨_, rfl, _, rfl, _, rfl, _, rfl, a, _, rfl, .inl ⟨kT r.2.2, .inr t1.1, .inr ⟨od2, sm5 _ _ upd_same⟩, rfl, v1.symm⟩, N, _, rfl, .inl ⟨kT nm, .inr t1.2, rd_same hNr sm5, rfl, (valV_goal (tgo t1 htm)).symm⟩, by show 2 ≤ sizeLine; decide, fun T1 hT1 => ?_⟩
        have g := Same.new (o := .tup [.str t1.1, .str (goalT nm t1.2)]) hT1
        have nT : T1 ≠ M := fun e => by rw [e, hM5] at hT1; cases hT1
        have lps : ps.length ≤ 60 := by rw [paired_len hp, kT, renT, List.length_map, List.length_map, List.length_take]; omega
        refine ⟨_, g _ _ hM5, by rw [List.length_map, sizeLine_eq]; omega, fun c u e => ?_, ps ++ [T1], by rw [upd_same, List.map_append]; rfl, ?_⟩
        · rw [upd_ne (ne_of_none e hM)]; exact g _ _ (sm5 _ _ e)
        · have e : renT nm (r.2.2.take j ++ [t1]) = renT nm (r.2.2.take j) ++ [(t1.1, goalT nm t1.2)] := by rw [renT, renT, List.map_append]; rfl
          rw [cut_upd (by simp), take_succ_get ht1, e, kT_app]
          exact pair_app (paired_imp (fun p kv e => cut_same g _ _ e) hp) (by rw [cut_out (by simpa using nT)]; exact upd_same)
      · rintro H5 ⟨sm5, ps, hM5, hp⟩
        rw [show (kT r.2.2).length = r.2.2.length by rw [kT, List.length_map], List.take_length] at hp
        have su5 := Same.unlock ha sm5
        have hp5 : Paired (fun p (kv : Key × V) => SqT K (L2.upd H5 a (.dK (kT r.2.2))) p [kV kv.1, kv.2]) ps (kT (renT nm r.2.2)) := paired_imp (fun p kv e => SqT.of (unl_at (sm5 _ _ upd_same) (cut_le _ _ e))) hp
        refine ⟨sm5 _ _ upd_same, M, ps, kT (renT nm r.2.2), rfl, SqL.of (by rw [upd_ne nM.symm]; exact hM5), hp5, fun B hB => ?_⟩
        rw [merge_id2 (by rw [kT_keys, renT_keys]; exact inr_nd' ttk)]
        have s6 := Same.new (o := .dK (kT (renT nm r.2.2))) hB
        have hB6 : TurnsAt (L2.upd (L2.upd H5 a (.dK (kT r.2.2))) B (.dK (kT (renT nm r.2.2)))) B (renT nm r.2.2) := upd_same
        have s46 := Same.trans su5 s6
        have hF5 := su5 _ _ hF3
        have nB : B ≠ Fd := fun e => by rw [e, hF5] at hB; cases hB
        generalize L2.upd (L2.upd H5 a (.dK (kT r.2.2))) B (.dK (kT (renT nm r.2.2))) = H6 at s6 hB6 s46
        refine ⟨by show 2 ≤ sizeLine; decide, fun T1 hT1 => ?_⟩
        have s7 := Same.new (o := .tup [.str r.2.1, .ref B]) hT1
        have q := Same.trans s46 s7
        have nT : T1 ≠ Fd := fun e => by rw [e, s46 _ _ hF3] at hT1; cases hT1
        refine ⟨_, rfl, _, rfl, _, rfl, N, _, rfl, .inl ⟨kT nm, .inr r.1, .inl (q _ _ hN3), rfl, (valV_goal (n.cov r.1 hs)).symm⟩, Fd, _, rfl, DPut.k (kvs := kv2) (k := Sum.inr (goalT nm r.1)) (q _ _ hF3) (by rw [sizeLine_eq]; omega), ?_⟩
        refine ⟨_, _, _, _, rfl, fun c u e => ?_, upd_same, ?_⟩
        · have nc : c ≠ Fd := fun z => by rw [z, upd_ne nbF.symm, nF] at e; cases e
          rw [upd_ne nc]; exact q _ _ (sm _ _ e)
        · rw [D1.putK_new fr, take_succ_get hr', renB, List.map_append, cut_new_upd]
          have oT : H T1 = none := upd_none' ((Same.trans sm s46).free hT1)
          have oB : H B = none := upd_none' ((Same.trans sm su5).free hB)
          refine (hR2.same (cut_same (new_same q))).app ⟨T1, B, rfl, ?_, ?_⟩
          · rw [cut_out (by simpa using nT), new_out oT]; exact upd_same
          · rw [TurnsAt, cut_out (by simpa using nB), new_out oB]; exact s7 _ _ hB6
    · rintro σ H3 ⟨v3, v4, v5, kv2, rfl, sm, hF3, hR2⟩
      have hl : kvs.length = bk.length := hR.len
      rw [hl, List.take_length] at hR2
      have su := Same.unlock hb sm
      have sN : Same (newH H H3) (newH H (L2.upd H3 b (.dK kvs))) := fun c u e => by
        obtain ⟨n, e⟩ := new_some e
        rw [new_out n, upd_ne fun z => by rw [z, hb] at n; cases n]; exact e
      have hR3 : Rows (newH H (L2.upd H3 b (.dK kvs))) kv2 (renB nm bk) := (hR2.same cut_le).same sN
      refine ⟨sm _ _ upd_same, _, rfl, _, rfl, _, rfl, W, _, _, _, rfl, rfl, SqL.of (su _ _ hW), atI_nat (j := 1) rfl, N, _, rfl, .inl ⟨kT nm, .inr st, .inl (su _ _ hN), rfl, (valV_goal (n.cov st ok.st)).symm⟩, by show 2 ≤ sizeLine; decide, fun R hR' => ?_⟩
      have q := Same.new (o := .lst [.ref Fd, .str (goalT nm st)]) hR'
      exact k _ R (Same.trans su q) (su.free hR') ⟨Fd, upd_same, kv2, by rw [new_out nF]; exact q _ _ (by rw [upd_ne nbF.symm]; exact hF3), hR3.same (new_same q)⟩
end
end D1
end L2
/-! the law's own walk -/
namespace L2
namespace D1
open PySem PySem.Spec PyProof.Rows D2
abbrev sReached : Stmt := top 55
theorem FK_put2 {ns : List Str} {x : Str} (h : x ∈ ns) : putK (FK ns) (.inr x) (.bl true) = FK ns := by
  have e : putK (FK ns) (.inr x) (.bl true) = (FK ns).map fun kv => if kv.1 = Sum.inr x then (kv.1, V.bl true) else kv := by
    unfold putK
    exact if_pos (List.any_eq_true.mpr ⟨(.inr x, .bl true), List.mem_map.mpr ⟨x, h, rfl⟩, decide_eq_true rfl⟩)
  rw [e, FK, List.map_map]
  refine List.map_congr_left fun y _ => ?_
  show (if (Sum.inr y : Key) = Sum.inr x then ((Sum.inr y : Key), V.bl true) else (.inr y, .bl true)) = _
  by_cases c : (Sum.inr y : Key) = Sum.inr x
  · rw [if_pos c]
  · rw [if_neg c]
theorem merge_FK : ∀ (l acc : List Str), acc.Nodup → ∃ ns : List Str, mergeK (FK acc) (FK l) = FK ns ∧ ns.Nodup ∧ ∀ x, x ∈ ns ↔ x ∈ acc ∨ x ∈ l
  | [], acc, nd => ⟨acc, rfl, nd, fun x => by simp⟩
  | y :: l, acc, nd => by
    by_cases h : y ∈ acc
    · obtain ⟨ns, e, nd2, m⟩ := merge_FK l acc nd
      refine ⟨ns, ?_, nd2, fun x => ?_⟩
      · show mergeK (putK (FK acc) (.inr y) (.bl true)) (FK l) = _
        rw [FK_put2 h, e]
      · rw [m x, List.mem_cons]
        exact ⟨fun z => z.elim .inl fun q => .inr (.inr q), fun z => z.elim .inl fun q => q.elim (fun e => .inl (e ▸ h)) .inr⟩
    · obtain ⟨ns, e, nd2, m⟩ := merge_FK l (acc ++ [y]) (nodup_app nd h)
      refine ⟨ns, ?_, nd2, fun x => ?_⟩
      · show mergeK (putK (FK acc) (.inr y) (.bl true)) (FK l) = _
        rw [FK_put h, e]
      · rw [m x, List.mem_append, List.mem_singleton, List.mem_cons, or_assoc]
def Cl (bk : Bk) (fs : List Str) : Prop := ∀ x ∈ fs, ∀ t ∈ (rowOf bk x).2, t.2 ∈ fs
/-- behind i turns -/
structure RI (bk : Bk) (st : Str) (i : Nat) (fs : List Str) : Prop where
  beg : st ∈ fs
  rc : ∀ x ∈ fs, Rch bk st x
  len : fs.length ≤ 3600 * i + 1
  or : Cl bk fs ∨ ∃ ds : List Str, ds.Nodup ∧ (∀ x ∈ ds, x ∈ fs) ∧ ds.length = i + 1
theorem RI.next {bk : Bk} {st : Str} {i : Nat} {fs gs : List Str} (h : RI bk st i fs) (sub : ∀ x ∈ fs, x ∈ gs) (to : ∀ x ∈ fs, ∀ t ∈ (rowOf bk x).2, t.2 ∈ gs) (of : ∀ y ∈ gs, y ∈ fs ∨ ∃ x ∈ fs, ∃ t ∈ (rowOf bk x).2, t.2 = y) (len : gs.length ≤ 3600 * (i + 1) + 1) : RI bk st (i + 1) gs := by
  have rc : ∀ x ∈ gs, Rch bk st x := fun y hy => by
    rcases of y hy with z | ⟨x, hx, t, ht, e⟩
    · exact h.rc y z
    · rw [← e]; exact .next (h.rc x hx) ht
  refine ⟨sub _ h.beg, rc, len, ?_⟩
  by_cases c : ∀ y ∈ gs, y ∈ fs
  · exact .inl fun x hx t ht => to x (c x hx) t ht
  · have ⟨y, hy⟩ := Classical.not_forall.mp c
    have ⟨hy, ny⟩ := Classical.not_imp.mp hy
    rcases h.or with cl | ⟨ds, nd, sb, e⟩
    · rcases of y hy with z | ⟨x, hx, t, ht, e⟩
      · exact absurd z ny
      · exact absurd (e ▸ cl x hx t ht) ny
    · refine .inr ⟨y :: ds, List.nodup_cons.mpr ⟨fun z => ny (sb y z), nd⟩, fun x hx => ?_, by rw [List.length_cons, e]⟩
      rcases List.mem_cons.mp hx with z | z
      · rw [z]; exact hy
      · exact sub x (sb x z)
theorem RI.done {bk : Bk} {st : Str} {fs : List Str} (ok : DOk bk st) (h : RI bk st bk.length fs) : ∀ x, x ∈ fs ↔ Rch bk st x := by
  have cl : Cl bk fs := h.or.elim id fun ⟨ds, nd, sb, e⟩ => by
    have := pigeon ds (bk.map (·.1)) nd fun x hx => (h.rc x (sb x hx)).mem ok
    rw [List.length_map] at this
    omega
  refine fun x => ⟨h.rc x, fun z => ?_⟩
  induction z with
  | here => exact h.beg
  | next _ ht ih => exact cl _ ih _ ht
/-- a dict that may be locked already -/
theorem lk_one {H : Hp} {b : Addr} {kvs : List (Key × V)} (h : Rd H b (.dK kvs)) : ∃ ds : List Addr, ds.Nodup ∧ (∀ d ∈ ds, ∃ u, H d = some u ∧ Mut (some u)) ∧ (∀ H2, Lk ds H H2 → ∃ od, H2 b = some (.frz od (.dK kvs))) ∧ ∀ d ∈ ds, d = b := by
  rcases h with h | ⟨od, h⟩
  · refine ⟨[b], List.nodup_cons.mpr ⟨by simp, List.nodup_nil⟩, fun d hd => ?_, fun H2 lk => ?_, fun d hd => List.mem_singleton.mp hd⟩
    · rw [List.mem_singleton.mp hd]; exact ⟨_, h, trivial⟩
    · obtain ⟨od, u, h1, h2⟩ := lk.2 b (List.mem_singleton.mpr rfl)
      rw [h] at h1; cases h1
      exact ⟨od, h2⟩
  · exact ⟨[], List.nodup_nil, (fun d hd => by cases hd), fun H2 lk => ⟨od, by rw [lk.1 b (by simp)]; exact h⟩, fun d hd => by cases hd⟩
theorem book_neR {H : Hp} {b a : Addr} {kvs : List (Key × V)} {bk : Bk} {ts : List (Str × Str)} (hb : Rd H b (.dK kvs)) (h : Rows H kvs bk) (ne : bk ≠ []) (ha : TurnsAt H a ts) : a ≠ b := by
  rcases hb with hb | ⟨od, hb⟩
  · exact book_ne hb h ne ha
  · exact fun e => by rw [TurnsAt, e, hb] at ha; cases ha
theorem call_lenR {X : Cx} : CallR X (.builtin "len") (fun xs H Q => ∃ a kvs, xs = [V.ref a] ∧ Rd H a (.dK kvs) ∧ Q (.int kvs.length) H) := by
  intro pins s σ H xs us Q I r h
  obtain ⟨a, kvs, rfl, ha, q⟩ := h
  obtain ⟨u, rfl, ru⟩ := vals1 r
  obtain rfl : u = Value.ref a := ru
  exact d_len I ha fun t s' I' => ⟨.int kvs.length, H, I', ⟨t, rfl⟩, q⟩
def spReached : Sp := fun vs H Q _ => ∃ (b : Addr) (bk : Bk) (st : Str), vs = [.ref b, .str st] ∧ BookR H b bk ∧ DOk bk st ∧ ∀ H' R ys, Same H H' → H R = none → SL H' R ys → Come bk st ys → Q (.ref R) H'
section
variable {P : Program} {w : World} {K : PySem.W.Frag} {mg : Str → Option Value} {base : Heap} {C : Addr}
theorem scRe : FnScope ["_law_book", "_law_start", "_law_found", "_law_turn", "_law_state", "_law_one", "_law_word_here"] ["_law_book", "_law_start"] (defScope sReached) := ⟨rfl, rfl, rfl, by decide +kernel, rfl, by decide +kernel, by decide +kernel⟩
theorem ok_reached {f : Addr} {fd : FuncData} (F : Fun K "_law_reached" "_law_reached" sReached f fd) (T : Free3 mg) : FnOk P w K mg base CX0 1 f fd ["_law_book", "_law_start"] spReached := by
  refine F.ok scRe (fun vs H Q E h => ?_) (fun cdv A outer s H vs Q E hr h => ?_)
  · obtain ⟨b, bk, st, rfl, _⟩ := h; rfl
  · obtain ⟨b, bk, st, rfl, ⟨kvs, hb, hR⟩, ok, k⟩ := h
    have hu := hu_of hr
    refine ⟨_, pss_cons (ps_set (i := 2) scRe.nd rfl (Or.inr rfl) (pe_lst (pa_cons (pv 1) pa_nil)))
      (pss_cons (ps_for PassesOwn.never rfl (pi_range1 rfl T.range (pa_cons (pe_callB call_lenR (by rfl) T.len PySem.boot_len (pa_cons (pv 0) pa_nil)) pa_nil)) (pg_name (i := 3) scRe.nd rfl (Or.inl rfl))
        (pss_one (ps_for PassesOwn.never rfl (pi_list (pe_lkAny (pe_lc (own := [("_law_one", 5)]) (g := gName 5) (tt := tTest (tOp (rIn K false) (tVar 5) (tVar 2))) (te := tVar 5) rfl scRe.nd (pi_keys (pv 0))
            (blkOk_by (N := ["_law_book", "_law_start", "_law_found", "_law_turn", "_law_state", "_law_one", "_law_word_here"]) (sc := defScope sReached) (by decide +kernel)) (fun _ _ _ _ _ => pg_name (i := 5) scRe.nd rfl (Or.inl rfl)) (fun _ _ _ _ _ => pts_one (pt_cmpR op_in_seq (pv 5) (pv 2) (by rfl))) (fun _ _ _ _ _ => pv 5)))) (pg_name (i := 4) scRe.nd rfl (Or.inr rfl))
          (pss_one (ps_set (i := 2) scRe.nd rfl (Or.inr rfl) (pe_op op_cat (pv 2) (pe_lock (pe_lc (own := [("_law_word_here", 6)]) (g := gName 6) (tt := tYes) (te := tDGet (tOp (rIxT K) (tDGet (tVar 0) (tVar 4)) (tC (.int 1))) (tVar 6)) rfl scRe.nd (pi_keys (pe_ix ix_tup (pe_dget hu (pv 0) (pv 4) (fun _ _ => rfl)) pe_int (fun _ _ => rfl)))
            (blkOk_by (N := ["_law_book", "_law_start", "_law_found", "_law_turn", "_law_state", "_law_one", "_law_word_here"]) (sc := defScope sReached) (by decide +kernel)) (fun _ _ _ _ _ => pg_name (i := 6) scRe.nd rfl (Or.inl rfl)) (fun _ _ _ _ _ => pts_nil)
            (fun _ _ _ _ _ => pe_dget hu (pe_ix ix_tup (pe_dget hu (pv 0) (pv 4) (fun _ _ => rfl)) pe_int (fun _ _ => rfl)) (pv 6) (fun _ _ => rfl))))))))))
      (pss_one (ps_ret (pe_callB (call_sortedD rfl) (by rfl) T.sorted (by decide +kernel) (pa_cons (pe_callTy (call_dictP rfl) (by rfl) T.dict (by decide +kernel) (pa_cons (pe_lc (own := [("_law_state", 4)]) (g := gName 4) (tt := tYes) (te := tTup (tCons (tVar 4) (tCons (tC (.bl true)) tNil))) rfl scRe.nd (pi_list (pv 2))
        (blkOk_by (N := ["_law_book", "_law_start", "_law_found", "_law_turn", "_law_state", "_law_one", "_law_word_here"]) (sc := defScope sReached) (by decide +kernel)) (fun _ _ _ _ _ => pg_name (i := 4) scRe.nd rfl (Or.inl rfl)) (fun _ _ _ _ _ => pts_nil)
        (fun _ _ _ _ _ => pe_tup (pa_cons (pv 4) (pa_cons pe_bl pa_nil)))) pa_nil)) pa_nil))))), ?_⟩
    have lk0 : kvs.length = bk.length := hR.len
    have l60 := ok.len
    have lpos : 0 < bk.length := List.length_pos_iff.mpr ok.ne
    refine ⟨_, rfl, by show 1 ≤ sizeLine; decide, fun F0 hF0 => ?_⟩
    have g0 := Same.new (o := .lst [.str st]) hF0
    have hF00 : SL (L2.upd H F0 (.lst [.str st])) F0 [st] := upd_same
    generalize L2.upd H F0 (.lst [.str st]) = H0 at g0 hF00
    refine ⟨_, rfl, b, kvs, rfl, rd_same hb g0, (kvs.length : Int), rfl, by omega, by omega, ?_⟩
    refine for_range (n := kvs.length) (fun i σ H' => ∃ (Fi : Addr) (fs : List Str) (v3 v4 : Option V), σ = [some (.ref b), some (.str st), some (.ref Fi), v3, v4, none, none] ∧ Same H H' ∧ SL H' Fi fs ∧ RI bk st i fs)
      ⟨F0, [st], none, none, rfl, g0, hF00, List.mem_singleton.mpr rfl, fun x hx => (List.mem_singleton.mp hx) ▸ .here, Nat.le_refl _, .inr ⟨[st], List.nodup_cons.mpr ⟨by simp, List.nodup_nil⟩, fun x hx => hx, rfl⟩⟩ ?_ ?_
    · rintro i σ H5 hi ⟨Fi, fs, v3, v4, rfl, s5, hF5, ri⟩
      have hb5 := rd_same hb s5
      obtain ⟨ds, nds, hmu, hlk, hdb⟩ := lk_one hb5
      have nFd : Fi ∉ ds := fun z => by
        rw [SL, hdb Fi z] at hF5
        rcases hb5 with e | ⟨od, e⟩ <;> rw [e] at hF5 <;> cases hF5
      refine ⟨ds.length, lk_all _ _ (fun v H3 => ∃ D, v = .ref D ∧ D ∉ ds ∧ SL H3 D ((bk.map (·.1)).filter fun x => decide (x ∈ fs))) ds H5 _ nds hmu ?_ ?_⟩
      · intro H2 Q2 lk k2
        obtain ⟨od, hb2⟩ := hlk H2 lk
        have hF2 : SL H2 Fi fs := by rw [SL, lk.1 Fi nFd]; exact hF5
        refine ⟨_, rfl, b, od, rfl, .inl ⟨kvs, hb2, fun D hD => ?_⟩⟩
        have nDd : D ∉ ds := fun z => by rw [hdb D z, hb2] at hD; cases hD
        refine lc_it (walk_keys (d := b) (o := od) (kvs := kvs)) (fun j H' => Same H2 H' ∧ SL H' D (((bk.map (·.1)).take j).filter fun x => decide (x ∈ fs))) ⟨Same.new hD, upd_same⟩ (fun j H' _ z => z.1 _ _ hb2) ?_ ?_
        · rintro j x H6 H7 hj ⟨sm, hl⟩ ⟨rfl, kk, v0, hkv, rfl⟩
          obtain ⟨r, hr', rfl, _⟩ := hR.at hkv
          have hz : (bk.map (·.1))[j]? = some r.1 := by rw [List.getElem?_map, hr']; rfl
          have jl : j < bk.length := (List.getElem?_eq_some_iff.mp hr').1
          refine ⟨rfl, _, rfl, _, rfl, Fi, _, rfl, .inl (hF2.same sm).sq, rfl, flat_strs fs, ?_⟩
          refine ⟨_, rfl, ?_⟩
          rw [if_neg (by decide), show inV (kV (Sum.inr r.1)) (fs.map V.str) = decide (r.1 ∈ fs) from inV_str r.1 fs]
          by_cases hzs : r.1 ∈ fs
          · rw [decide_eq_true hzs]
            refine iteT ⟨_, rfl, _, hl, by rw [List.length_map, sizeLine_eq]; exact Nat.lt_of_le_of_lt (List.length_filter_le _ _) (by rw [List.length_take]; omega), fun c u e => ?_, ?_⟩
            · rw [upd_ne (ne_of_none e hD)]; exact sm _ _ e
            · rw [SL, upd_same, filt_yes hz (by simpa using hzs), List.map_append]; rfl
          · rw [decide_eq_false hzs]
            refine iteF ⟨sm, ?_⟩
            rw [filt_no hz (by simpa using hzs)]
            exact hl
        · rintro H6 ⟨sm, hl⟩
          rw [lk0, ← List.length_map (·.1), List.take_length] at hl
          exact k2 _ _ sm ⟨D, rfl, nDd, hl⟩
      · rintro v H6 ⟨D, rfl, nDd, hl⟩ H7 s57 e57
        have s6 := Same.trans s5 s57
        have hl6 : SL H7 D ((bk.map (·.1)).filter fun x => decide (x ∈ fs)) := by rw [SL, e57 D nDd]; exact hl
        have hF6 := hF5.same s57
        have om : ∀ x, x ∈ ((bk.map (·.1)).filter fun x => decide (x ∈ fs)) ↔ x ∈ bk.map (·.1) ∧ x ∈ fs := fun x => by rw [List.mem_filter]; simp
        have ol : ((bk.map (·.1)).filter fun x => decide (x ∈ fs)).length ≤ 60 := Nat.le_trans (List.length_filter_le _ _) (by rw [List.length_map]; exact l60)
        generalize ((bk.map (·.1)).filter fun x => decide (x ∈ fs)) = os at hl6 om ol
        refine ⟨D, rfl, ⟨_, hl6.sq⟩, ?_⟩
        have lfs := ri.len
        refine for_list (K := K) (a := D) (xs := os.map V.str) (fun m σ H' => ∃ (Fm : Addr) (gs : List Str) (v4 : Option V), σ = [some (.ref b), some (.str st), some (.ref Fm), some (.int (0 + (i : Int))), v4, none, none] ∧ Same H H' ∧ SL H' Fm gs ∧ SL H' D os ∧ (∀ x ∈ fs, x ∈ gs) ∧ (∀ x ∈ os.take m, ∀ t ∈ (rowOf bk x).2, t.2 ∈ gs) ∧ (∀ y ∈ gs, y ∈ fs ∨ ∃ x ∈ fs, ∃ t ∈ (rowOf bk x).2, t.2 = y) ∧ gs.length ≤ fs.length + 60 * m)
          ⟨Fi, fs, v4, rfl, s6, hF6, hl6, fun x hx => hx, (fun x hx => by simp at hx), fun y hy => .inl hy, Nat.le_refl _⟩ (fun m σ H' _ ⟨_, _, _, _, _, _, z, _⟩ => z.sq) ?_ ?_
        · rintro m v σ H8 hv ⟨Fm, gs, v4, rfl, s8, hF8, hD8, g1, g2, g3, g4⟩
          obtain ⟨x, hx, rfl⟩ := get_map hv
          have ml : m < os.length := (List.getElem?_eq_some_iff.mp hx).1
          obtain ⟨xm, xf⟩ := (om x).mp (List.mem_of_getElem? hx)
          obtain ⟨v, ev, ⟨t, a, rfl, ht, ha⟩, hrow⟩ := hR.look xm
          have ts60 := ok.len2 _ hrow
          have ttk := ok.tk _ hrow
          have ts60 : (rowOf bk x).2.length ≤ 60 := ts60
          have ttk : ((rowOf bk x).2.map (·.1)).Nodup := ttk
          have et : ∀ t, t ∈ (rowOf bk x).2 → t ∈ (rowOf bk x).2 := fun t h => h
          generalize ets : (rowOf bk x).2 = ts at ts60 ttk ha
          have ha8 := s8 _ _ ha
          have nba : a ≠ b := book_neR hb hR ok.ne ha
          have nta : t ≠ a := fun e => by rw [TurnsAt, ← e, ht] at ha; cases ha
          refine ⟨_, rfl, a, _, ha8, trivial, fun od2 => ?_⟩
          have sb : Rd (L2.upd H8 a (.frz od2 (.dK (kT ts)))) b (.dK kvs) := rd_lock (rd_same hb s8) ha8 fun _ _ e => by cases e
          have st2 : (L2.upd H8 a (.frz od2 (.dK (kT ts)))) t = some (.tup [.str (rowOf bk x).1, .ref a]) := by rw [upd_ne nta]; exact s8 _ _ ht
          refine ⟨_, rfl, _, rfl, b, _, rfl, .inl ⟨kvs, .inr x, sb, rfl, ev.symm⟩, t, _, _, _, rfl, rfl, SqT.of st2, atI_nat (j := 1) rfl, a, od2, rfl, .inl ⟨kT ts, upd_same, fun D2 hD2 => ?_⟩⟩
          have nD2 : a ≠ D2 := fun e => by rw [← e, upd_same] at hD2; cases hD2
          refine lc_it (walk_keys (d := a) (o := od2) (kvs := kT ts)) (fun j H' => Same (L2.upd H8 a (.frz od2 (.dK (kT ts)))) H' ∧ SL H' D2 ((ts.map (·.2)).take j)) ⟨Same.new hD2, upd_same⟩ (fun j H' _ z => z.1 _ _ upd_same) ?_ ?_
          · rintro j y H9 H10 hj ⟨sm9, hl9⟩ ⟨rfl, kk, v0, hkv9, rfl⟩
            rw [kT, List.getElem?_map] at hkv9
            obtain ⟨t1, ht1, e9⟩ := Option.map_eq_some_iff.mp hkv9
            cases e9
            have htm := List.mem_of_getElem? ht1
            have jl : j < ts.length := (List.getElem?_eq_some_iff.mp ht1).1
            have v1 : valV (kT ts) (.inr t1.1) = some (.str t1.2) := by rw [valV_goal (List.mem_map_of_mem htm), goalT_at ttk htm]
            have hz : (ts.map (·.2))[j]? = some t1.2 := by rw [List.getElem?_map, ht1]; rfl
            refine ⟨rfl, ?_⟩
            dsimp only [tYes]
            rw [if_pos rfl]
            refine ⟨_, rfl, _, rfl, b, _, rfl, .inl ⟨kvs, .inr x, rd_same sb sm9, rfl, ev.symm⟩, t, _, _, _, rfl, rfl, SqT.of (sm9 _ _ st2), atI_nat (j := 1) rfl, _, rfl, a, _, rfl, .inl ⟨kT ts, .inr t1.1, .inr ⟨od2, sm9 _ _ upd_same⟩, rfl, v1.symm⟩, _, hl9, by rw [List.length_map, List.length_take, List.length_map, sizeLine_eq]; omega, fun c u e => ?_, ?_⟩
            · rw [upd_ne (ne_of_none e hD2)]; exact sm9 _ _ e
            · rw [SL, upd_same, take_succ_get hz, List.map_append]; rfl
          · rintro H9 ⟨sm9, hl9⟩
            rw [show (kT ts).length = (ts.map (·.2)).length by rw [kT, List.length_map, List.length_map], List.take_length] at hl9
            have su9 := Same.unlock ha8 sm9
            have lgs : gs.length ≤ 216001 + 3600 := by omega
            refine ⟨sm9 _ _ upd_same, Fm, D2, _, _, rfl, rfl, su9 _ _ hF8, by rw [upd_ne nD2.symm]; exact hl9, by rw [List.length_map, List.length_map, List.length_map, sizeLine_eq]; omega, fun q hq => ?_⟩
            have q9 := Same.new (o := .lst (gs.map V.str ++ (ts.map (·.2)).map V.str)) hq
            have s10 := Same.trans (Same.trans s8 su9) q9
            refine ⟨q, gs ++ ts.map (·.2), _, rfl, s10, by rw [SL, upd_same, List.map_append], (hD8.same su9).same q9, fun y hy => List.mem_append_left _ (g1 y hy), fun y hy u hu => ?_, fun y hy => ?_, by rw [List.length_append, List.length_map]; omega⟩
            · rw [take_succ_get hx] at hy
              rcases List.mem_append.mp hy with z | z
              · exact List.mem_append_left _ (g2 y z u hu)
              · rw [List.mem_singleton.mp z, ets] at hu
                exact List.mem_append_right _ (List.mem_map_of_mem hu)
            · rcases List.mem_append.mp hy with z | z
              · exact g3 y z
              · obtain ⟨u, hu, e⟩ := List.mem_map.mp z
                exact .inr ⟨x, xf, u, by rw [ets]; exact hu, e⟩
        · rintro σ H8 ⟨Fm, gs, v4, rfl, s8, hF8, hD8, g1, g2, g3, g4⟩
          rw [List.length_map, List.take_length] at g2
          rw [List.length_map] at g4
          exact ⟨Fm, gs, _, _, rfl, s8, hF8, ri.next g1 (fun x hx t ht => g2 x ((om x).mpr ⟨(ri.rc x hx).mem ok, hx⟩) t ht) g3 (by omega)⟩
    · rintro σ H5 ⟨Fi, fs, v3, v4, rfl, s5, hF5, ri⟩
      rw [lk0] at ri
      have lfs := ri.len
      refine ⟨_, rfl, Fi, rfl, ⟨_, hF5.sq⟩, fun M hM => ?_⟩
      refine lc_it (walk_list (K := K) (a := Fi) (xs := fs.map V.str)) (fun j H' => Same H5 H' ∧ ∃ ps : List Addr, H' M = some (.lst (ps.map V.ref)) ∧ Paired (fun p (kv : Key × V) => (cut [M] H') p = some (.tup [kV kv.1, kv.2])) ps (FK (fs.take j))) ⟨Same.new hM, [], upd_same, .nil⟩ (fun j H' _ z => (hF5.same z.1).sq) ?_ ?_
      · rintro j v H6 H7 hj ⟨sm, ps, hM6, hp⟩ ⟨rfl, hx⟩
        obtain ⟨z, hz, rfl⟩ := get_map hx
        have jl : j < fs.length := (List.getElem?_eq_some_iff.mp hz).1
        refine ⟨rfl, ?_⟩
        dsimp only [tYes]
        rw [if_pos rfl]
        refine ⟨_, rfl, by show 2 ≤ sizeLine; decide, fun T1 hT1 => ?_⟩
        have g := Same.new (o := .tup [.str z, .bl true]) hT1
        have nT : T1 ≠ M := fun e => by rw [e, hM6] at hT1; cases hT1
        have lps : ps.length ≤ 216001 := by rw [paired_len hp, FK, List.length_map, List.length_take]; omega
        refine ⟨_, g _ _ hM6, by rw [List.length_map, sizeLine_eq]; omega, fun c u e => ?_, ps ++ [T1], by rw [upd_same, List.map_append]; rfl, ?_⟩
        · rw [upd_ne (ne_of_none e hM)]; exact g _ _ (sm _ _ e)
        · rw [cut_upd (by simp), take_succ_get hz, FK, List.map_append]
          exact pair_app (paired_imp (fun p kv e => cut_same g _ _ e) hp) (by rw [cut_out (by simpa using nT)]; exact upd_same)
      · rintro H6 ⟨sm, ps, hM6, hp⟩
        rw [List.length_map, List.take_length] at hp
        have s6 := Same.trans s5 sm
        refine ⟨M, ps, FK fs, rfl, SqL.of hM6, paired_imp (fun p kv e => SqT.of (cut_le _ _ e)) hp, fun B hB => ?_⟩
        obtain ⟨ns, e, nd, mm⟩ := merge_FK fs [] List.nodup_nil
        rw [show mergeK [] (FK fs) = FK ns from e]
        have mem : ∀ x, x ∈ ns ↔ Rch bk st x := fun x => by rw [mm x, ← ri.done ok x]; simp
        have s7 := Same.new (o := .dK (FK ns)) hB
        refine ⟨B, FK ns, ns, rfl, .inl upd_same, FK_keys ns, reach_len (bk := bk) (st := st) ⟨nd, mem⟩ ok, fun ys p pm so hp2 => ?_⟩
        have s17 := Same.trans s6 s7
        refine k _ p ys (Same.trans s17 (Same.new hp2)) (s17.free hp2) upd_same ⟨pm.nodup_iff.mpr nd, sorted_pw so, fun x => ?_⟩
        rw [pm.mem_iff, mem x]
end
end D1
end L2
/-! the law's new names -/
namespace L2
namespace D1
open PySem PySem.Spec PyProof.Rows D2
abbrev sNames : Stmt := top 60
def mno : Str := Str.ofString "mnopqrst"
theorem mno_wd : ∀ x ∈ signs mno, Wd x := by
  have h : ∀ c ∈ tl mno, 97 ≤ c ∧ c ≤ 122 := by decide +kernel
  intro x hx
  obtain ⟨c, hc, rfl⟩ := List.mem_map.mp hx
  exact wd_let (h c hc).1 (h c hc).2
theorem mno_nd : (signs mno).Nodup := by decide +kernel
theorem mno_len : (signs mno).length = 8 := by decide +kernel
/-- the pool from which new names are taken -/
structure Pool (ss ps : List Str) : Prop where
  nd : ps.Nodup
  wd : ∀ x ∈ ps, Wd x
  len : ss.length ≤ ps.length
  le : ps.length ≤ 100
theorem nd_filter_app {xs ys : List Str} (nx : xs.Nodup) (ny : ys.Nodup) : (xs ++ ys.filter fun y => decide (y ∉ xs)).Nodup := by
  refine List.nodup_append.mpr ⟨nx, ny.filter _, fun x hx y hy e => ?_⟩
  have := (List.mem_filter.mp hy).2
  rw [← e] at this
  exact (of_decide_eq_true this) hx
def tFresh : TE := fun σ H Q => ∃ (p S Po : Addr) (ss ps : List Str) (t : Int), σ[0]? = some (some (.ref p)) ∧ σ[3]? = some (some (.ref S)) ∧ σ[4]? = some (some (.ref Po)) ∧ Purse H p t ∧ SL H S ss ∧ SL H Po ps ∧ S ≠ p ∧ Po ≠ p ∧ ss.length ≤ 60 ∧ Pool ss ps ∧ ss.Nodup ∧ (∀ x ∈ ss, Wd x) ∧ t < 2 ^ 27 ∧
  ∀ (H' : Hp) (R : Addr) (zs : List Str) (t' : Int), But p H H' → R ≠ p → SL H' R zs → zs.length = ss.length → zs.Nodup → (∀ x ∈ zs, Wd x) → Purse H' p t' → t' ≤ t + 61 → Q (.ref R) H'
theorem zip_ok {bk : Bk} {zs : List Str} (nd : (bk.map (·.1)).Nodup) (l : zs.length = bk.length) (nz : zs.Nodup) (wz : ∀ x ∈ zs, Wd x) : NamesOk bk ((srt (bk.map (·.1))).zip zs) := by
  have ls : (srt (bk.map (·.1))).length = bk.length := by rw [(srt_perm _).length_eq, List.length_map]
  have e1 : ((srt (bk.map (·.1))).zip zs).map (·.1) = srt (bk.map (·.1)) := List.map_fst_zip (by omega)
  have e2 : ((srt (bk.map (·.1))).zip zs).map (·.2) = zs := List.map_snd_zip (by omega)
  refine ⟨by rw [e1]; exact (srt_perm _).nodup_iff.mpr nd, by rw [List.length_zip]; omega, fun s hs => by rw [e1]; exact (srt_perm _).mem_iff.mpr hs, fun t ht => wz _ ?_, by rw [e2]; exact nz⟩
  have := List.mem_map_of_mem (f := (·.2)) ht
  rwa [e2] at this
def spNames : Sp := fun vs H Q _ => ∃ (p W L : Addr) (bk : Bk) (st : Str) (ws : List Str) (t : Int), vs = [.ref p, .ref W, .ref L] ∧ Purse H p t ∧ WorldAt (cut [p] H) W bk st ∧ DOk bk st ∧ SL H L ws ∧ L ≠ p ∧ ws.Nodup ∧ ws.length ≤ 6 ∧ (∀ x ∈ ws, Wd x) ∧ t < 2 ^ 26 ∧
  ∀ (H' : Hp) (R : Addr) (nm : List (Str × Str)) (t' : Int), But p H H' → H R = none → TurnsAt H' R nm → NamesOk bk nm → Purse H' p t' → t' ≤ t + 200 → Q (.ref R) H'
section
variable {P : Program} {w : World} {K : PySem.W.Frag} {mg : Str → Option Value} {base : Heap} {C : Addr}
theorem scNs : FnScope ["_law_purse_here", "_law_world_here", "_law_words_here", "_law_states", "_law_pool_here", "_law_fresh", "_law_word_here", "_law_letter", "_law_at"] ["_law_purse_here", "_law_world_here", "_law_words_here"] (defScope sNames) := ⟨rfl, rfl, rfl, by decide +kernel, rfl, by decide +kernel, by decide +kernel⟩
abbrev nsN : List Str := ["_law_purse_here", "_law_world_here", "_law_words_here", "_law_states", "_law_pool_here", "_law_fresh", "_law_word_here", "_law_letter", "_law_at"]
theorem ok_names {f : Addr} {fd : FuncData} (F : Fun K "_law_names" "_law_names" sNames f fd) (T : Free3 mg) (CD : CDraw P w K mg base) (CS : CShuf P w K mg base) : FnOk P w K mg base CX0 4 f fd ["_law_purse_here", "_law_world_here", "_law_words_here"] spNames := by
  refine F.ok scNs (fun vs H Q E h => ?_) (fun cdv A outer s H vs Q E hr h => ?_)
  · obtain ⟨p, W, L, bk, st, ws, t, rfl, _⟩ := h; rfl
  · obtain ⟨p, W, L, bk, st, ws, t, rfl, hp, hWc, ok, hL, nLp, nws, lws, aws, t1, k⟩ := h
    have hu := hu_of hr
    refine ⟨_, pss_cons (ps_set (i := 3) scNs.nd rfl (Or.inr rfl) (pe_callB (call_sortedD rfl) (by rfl) T.sorted (by decide +kernel) (pa_cons (pe_ix ix_list (pv 1) pe_int (fun _ _ => rfl)) pa_nil)))
      (pss_cons (ps_set (i := 4) scNs.nd rfl (Or.inr rfl) (pe_cal CS (hr.mono (by decide)) rfl (pa_cons (pv 0) (pa_cons (pe_op op_cat (pv 3) (pe_lc (own := [("_law_word_here", 6)]) (g := gName 6) (tt := tTest (tOp (rIn K true) (tVar 6) (tVar 3))) (te := tVar 6) rfl scNs.nd (pi_list (pv 2))
          (blkOk_by (N := nsN) (sc := defScope sNames) (by decide +kernel)) (fun _ _ _ _ _ => pg_name (i := 6) scNs.nd rfl (Or.inl rfl)) (fun _ _ _ _ _ => pts_one (pt_cmpR op_notIn_seq (pv 6) (pv 3) rfl)) (fun _ _ _ _ _ => pv 6))) pa_nil))))
      (pss_cons (ps_set (i := 4) scNs.nd rfl (Or.inr rfl) (pe_op op_cat (pv 4) (pe_lc (own := [("_law_letter", 7)]) (g := gName 7) (tt := tTest (tOp (rIn K true) (tVar 7) (tVar 4))) (te := tVar 7) rfl scNs.nd (pi_list (pe_callTy (call_listStr rfl) (by rfl) T.list (by decide +kernel) (pa_cons pe_str pa_nil)))
          (blkOk_by (N := nsN) (sc := defScope sNames) (by decide +kernel)) (fun _ _ _ _ _ => pg_name (i := 7) scNs.nd rfl (Or.inl rfl)) (fun _ _ _ _ _ => pts_one (pt_cmpR op_notIn_seq (pv 7) (pv 4) rfl)) (fun _ _ _ _ _ => pv 7))))
      (pss_cons (ps_set (i := 5) scNs.nd rfl (Or.inr rfl) (pe_imp (t' := tFresh) (pe_ifExp (pt_cmpR op_gt (pe_cal CD (hr.mono (by decide)) rfl (pa_cons (pv 0) (pa_cons pe_int pa_nil))) pe_int (nomark _))
          (pe_slice sl_list (pv 4) po_none (po_some (pe_callB call_len_seq (by rfl) T.len PySem.boot_len (pa_cons (pv 3) pa_nil))))
          (pe_cal CS (hr.mono (by decide)) rfl (pa_cons (pv 0) (pa_cons (pv 3) pa_nil)))) ?sub1))
      (pss_one (ps_ret (pe_callTy (call_dictP rfl) (by rfl) T.dict (by decide +kernel) (pa_cons (pe_lc (own := [("_law_at", 8)]) (g := gName 8) (tt := tYes) (te := tTup (tCons (tOp (rIxL K) (tVar 3) (tVar 8)) (tCons (tOp (rIxL K) (tVar 5) (tVar 8)) tNil))) rfl scNs.nd
          (pi_range1 rfl T.range (pa_cons (pe_callB call_len_seq (by rfl) T.len PySem.boot_len (pa_cons (pv 3) pa_nil)) pa_nil))
          (blkOk_by (N := nsN) (sc := defScope sNames) (by decide +kernel)) (fun _ _ _ _ _ => pg_name (i := 8) scNs.nd rfl (Or.inl rfl)) (fun _ _ _ _ _ => pts_nil)
          (fun _ _ _ _ _ => pe_tup (pa_cons (pe_ix ix_list (pv 3) (pv 8) (fun _ _ => rfl)) (pa_cons (pe_ix ix_list (pv 5) (pv 8) (fun _ _ => rfl)) pa_nil)))) pa_nil))))))), ?_⟩
    case sub1 =>
      rintro σ H Q ⟨p, S, Po, ss, ps, t, e0, e3, e4, hp, hS, hP, nS, nP, l60, po, nss, wss, t1, k⟩
      refine ⟨_, e0, p, 3, t, rfl, hp, by decide, by decide, by omega, fun r t2 o r0 r1 tt2 hp2 => ?_⟩
      have b2 := But.upd p H o
      have hS2 : SL (L2.upd H p o) S ss := b2 _ _ nS hS
      have hP2 : SL (L2.upd H p o) Po ps := b2 _ _ nP hP
      generalize L2.upd H p o = H2 at b2 hS2 hP2 hp2
      refine ⟨_, _, rfl, rfl, _, rfl, ?_⟩
      refine ite2 (fun _ => ?_) (fun _ => ?_)
      · refine ⟨_, e4, _, e3, S, _, rfl, .inl hS2.sq, ?_⟩
        rw [List.length_map]
        refine ⟨(ss.length : Int), rfl, Po, _, rfl, SqL.of hP2, fun q hq => ?_⟩
        rw [cutV_map, cutL_to _ (by omega), Int.toNat_natCast]
        exact k _ q (ps.take ss.length) t2 (b2.newt hq) (hp2.ne hq) upd_same (by rw [List.length_take]; have := po.len; omega) (List.Nodup.sublist (List.take_sublist _ _) po.nd) (fun x hx => po.wd x (List.mem_of_mem_take hx)) (hp2.new hq) (by omega)
      · refine ⟨_, e0, _, e3, p, S, _, t2, rfl, hp2, hS2, nS, by rw [List.length_map]; omega, by omega, fun H5 R5 ys t5 b5 hR5 hy pm hp5 tt5 => ?_⟩
        obtain ⟨zs, rfl, pz⟩ := perm_str pm
        rw [List.length_map] at tt5
        exact k H5 R5 zs t5 (b2.trans b5) (hp2.ne hR5) hy pz.length_eq (pz.nodup_iff.mpr nss) (fun x hx => wss x (pz.mem_iff.mp hx)) hp5 (by omega)
    obtain ⟨b, hWc2, ⟨kvs, hbc, hRc⟩⟩ := hWc
    have hW := cut_le _ _ hWc2
    have hb := cut_le _ _ hbc
    have l60 := ok.len
    have ek : kvs.map (·.1) = (bk.map (·.1)).map Sum.inr := by rw [hRc.keys, List.map_map]; rfl
    refine ⟨_, rfl, W, _, _, _, rfl, rfl, SqL.of hW, atI_nat (j := 0) rfl, b, kvs, bk.map (·.1), rfl, .inl hb, ek, by rw [List.length_map]; omega, fun ss S pm so hS => ?_⟩
    have ess := srt_of pm so
    have nss : ss.Nodup := pm.nodup_iff.mpr ok.nd
    have lss : ss.length = bk.length := by rw [pm.length_eq, List.length_map]
    have wss : ∀ x ∈ ss, Wd x := fun x hx => by
      obtain ⟨r, hr, e⟩ := List.mem_map.mp (pm.mem_iff.mp hx)
      rw [← e]; exact (ok.rs r hr).1
    have g1 := Same.new (o := .lst (ss.map V.str)) hS
    have hS1 : SL (L2.upd H S (.lst (ss.map V.str))) S ss := upd_same
    have hp1 := hp.same g1
    have nSp := hp.ne hS
    generalize L2.upd H S (.lst (ss.map V.str)) = H1 at g1 hS1 hp1
    refine ⟨_, rfl, _, rfl, _, rfl, L, rfl, ⟨_, (hL.same g1).sq⟩, fun D hD => ?_⟩
    have nSD : S ≠ D := ne_of_none hS1 hD
    refine lc_list (K := K) (a := L) (xs := ws.map V.str) (fun j H' => Same H1 H' ∧ SL H' D ((ws.take j).filter fun x => decide (x ∉ ss))) ⟨Same.new hD, upd_same⟩ (fun j H' _ z => ((hL.same g1).same z.1).sq) ?_ ?_
    · rintro j x H' hx ⟨sm, hD'⟩
      obtain ⟨z, hz, rfl⟩ := get_map hx
      have jl : j < ws.length := (List.getElem?_eq_some_iff.mp hz).1
      refine ⟨rfl, _, rfl, _, rfl, S, _, rfl, .inl (hS1.same sm).sq, rfl, flat_strs ss, ?_⟩
      refine ⟨_, rfl, ?_⟩
      rw [if_pos rfl, inV_str]
      by_cases hzs : z ∈ ss
      · rw [decide_eq_true hzs]
        refine iteF ⟨sm, ?_⟩
        rw [filt_no hz (by simpa using hzs)]
        exact hD'
      · rw [decide_eq_false hzs]
        refine iteT ⟨_, rfl, _, hD', by rw [List.length_map, sizeLine_eq]; exact Nat.lt_of_le_of_lt (List.length_filter_le _ _) (by rw [List.length_take]; omega), fun c u e => ?_, ?_⟩
        · rw [upd_ne (ne_of_none e hD)]; exact sm _ _ e
        · rw [SL, upd_same, filt_yes hz (by simpa using hzs), List.map_append]; rfl
    rintro H2 ⟨s2, hD2⟩
    rw [List.length_map, List.take_length] at hD2
    have hS2 := hS1.same s2
    have hp2 := hp1.same s2
    have lf : (ws.filter fun x => decide (x ∉ ss)).length ≤ 6 := Nat.le_trans (List.length_filter_le _ _) lws
    refine ⟨S, D, _, _, rfl, rfl, hS2, hD2, by rw [List.length_map, List.length_map, sizeLine_eq]; omega, fun q2 hq2 => ?_⟩
    rw [← List.map_append]
    have g3 := Same.new (o := .lst ((ss ++ ws.filter fun x => decide (x ∉ ss)).map V.str)) hq2
    have hp3 := hp2.same g3
    have e3 : SL (L2.upd H2 q2 (.lst ((ss ++ ws.filter fun x => decide (x ∉ ss)).map V.str))) q2 (ss ++ ws.filter fun x => decide (x ∉ ss)) := upd_same
    have hS3 := hS2.same g3
    have b03 : But p H (L2.upd H2 q2 (.lst ((ss ++ ws.filter fun x => decide (x ∉ ss)).map V.str))) := But.of (Same.trans (Same.trans g1 s2) g3)
    have nq2 := hp2.ne hq2
    have ps0 : Pool ss (ss ++ ws.filter fun x => decide (x ∉ ss)) := ⟨nd_filter_app nss nws, fun x hx => (List.mem_append.mp hx).elim (wss x) fun z => aws x (List.mem_filter.mp z).1, by rw [List.length_append]; omega, by rw [List.length_append]; omega⟩
    have pl0 : (ss ++ ws.filter fun x => decide (x ∉ ss)).length ≤ 66 := by rw [List.length_append]; omega
    generalize L2.upd H2 q2 (.lst ((ss ++ ws.filter fun x => decide (x ∉ ss)).map V.str)) = H3 at hp3 e3 hS3 b03
    generalize (ss ++ ws.filter fun x => decide (x ∉ ss)) = ps at e3 ps0 pl0
    refine ⟨p, q2, _, t, rfl, hp3, e3, nq2, by rw [List.length_map]; omega, by omega, fun H4 Po ys t4 b4 hPo hy pm4 hp4 tt4 => ?_⟩
    obtain ⟨zs, rfl, pz⟩ := perm_str pm4
    rw [List.length_map] at tt4
    have hS4 : SL H4 S ss := b4 _ _ nSp hS3
    have b04 := b03.trans b4
    have nPo : Po ≠ p := hp3.ne hPo
    have pz0 : Pool ss zs := ⟨pz.nodup_iff.mpr ps0.nd, fun x hx => ps0.wd x (pz.mem_iff.mp hx), by rw [pz.length_eq]; exact ps0.len, by rw [pz.length_eq]; exact ps0.le⟩
    have zl0 : zs.length ≤ 66 := by rw [pz.length_eq]; exact pl0
    have hy : SL H4 Po zs := hy
    refine ⟨_, rfl, mno, rfl, by decide +kernel, fun Lt hLt => ?_⟩
    have g5 := Same.new (o := .lst ((signs mno).map V.str)) hLt
    have eLt : SL (L2.upd H4 Lt (.lst ((signs mno).map V.str))) Lt (signs mno) := upd_same
    generalize L2.upd H4 Lt (.lst ((signs mno).map V.str)) = H5 at g5 eLt
    have hy5 := hy.same g5
    refine ⟨Lt, rfl, ⟨_, eLt.sq⟩, fun D hD => ?_⟩
    refine lc_list (K := K) (a := Lt) (xs := (signs mno).map V.str) (fun j H' => Same H5 H' ∧ SL H' D (((signs mno).take j).filter fun x => decide (x ∉ zs))) ⟨Same.new hD, upd_same⟩ (fun j H' _ z => (eLt.same z.1).sq) ?_ ?_
    · rintro j x H' hx ⟨sm, hD'⟩
      obtain ⟨z, hz, rfl⟩ := get_map hx
      have jl : j < 8 := by rw [← mno_len]; exact (List.getElem?_eq_some_iff.mp hz).1
      refine ⟨rfl, _, rfl, _, rfl, Po, _, rfl, .inl (hy5.same sm).sq, rfl, flat_strs zs, ?_⟩
      refine ⟨_, rfl, ?_⟩
      rw [if_pos rfl, inV_str]
      by_cases hzs : z ∈ zs
      · rw [decide_eq_true hzs]
        refine iteF ⟨sm, ?_⟩
        rw [filt_no hz (by simpa using hzs)]
        exact hD'
      · rw [decide_eq_false hzs]
        refine iteT ⟨_, rfl, _, hD', by rw [List.length_map, sizeLine_eq]; exact Nat.lt_of_le_of_lt (List.length_filter_le _ _) (by rw [List.length_take]; omega), fun c u e => ?_, ?_⟩
        · rw [upd_ne (ne_of_none e hD)]; exact sm _ _ e
        · rw [SL, upd_same, filt_yes hz (by simpa using hzs), List.map_append]; rfl
    rintro H6 ⟨s6, hD6⟩
    rw [List.length_map, List.take_length] at hD6
    have lf2 : ((signs mno).filter fun x => decide (x ∉ zs)).length ≤ 8 := Nat.le_trans (List.length_filter_le _ _) (Nat.le_of_eq mno_len)
    refine ⟨Po, D, _, _, rfl, rfl, hy5.same s6, hD6, by rw [List.length_map, List.length_map, sizeLine_eq]; omega, fun q7 hq7 => ?_⟩
    rw [← List.map_append]
    have g7 := Same.new (o := .lst ((zs ++ (signs mno).filter fun x => decide (x ∉ zs)).map V.str)) hq7
    have s47 := Same.trans (Same.trans g5 s6) g7
    have e7 : SL (L2.upd H6 q7 (.lst ((zs ++ (signs mno).filter fun x => decide (x ∉ zs)).map V.str))) q7 (zs ++ (signs mno).filter fun x => decide (x ∉ zs)) := upd_same
    have nq7 := (hp4.same (Same.trans g5 s6)).ne hq7
    have po : Pool ss (zs ++ (signs mno).filter fun x => decide (x ∉ zs)) := ⟨nd_filter_app pz0.nd mno_nd, fun x hx => (List.mem_append.mp hx).elim (pz0.wd x) fun z => mno_wd x (List.mem_filter.mp z).1, by rw [List.length_append]; have := pz0.len; omega, by rw [List.length_append]; omega⟩
    generalize L2.upd H6 q7 (.lst ((zs ++ (signs mno).filter fun x => decide (x ∉ zs)).map V.str)) = H7 at s47 e7
    generalize (zs ++ (signs mno).filter fun x => decide (x ∉ zs)) = qs at e7 po
    have hp7 := hp4.same s47
    have hS7 := hS4.same s47
    refine ⟨p, S, q7, ss, qs, t4, rfl, rfl, rfl, hp7, hS7, e7, nSp, nq7, by omega, po, nss, wss, by omega, fun H8 R8 zs8 t8 b8 nR8 hR8 l8 nd8 wd8 hp8 tt8 => ?_⟩
    have hS8 : SL H8 S ss := b8 _ _ nSp hS7
    have b08 := (b04.trans (But.of s47)).trans b8
    refine ⟨_, rfl, S, _, rfl, .inl hS8.sq, ?_⟩
    refine ⟨((ss.map V.str).length : Int), rfl, by omega, by rw [List.length_map]; omega, fun M hM => ?_⟩
    have nm_l : (ss.zip zs8).length = bk.length := by rw [List.length_zip]; omega
    have en : (((ss.map V.str).length : Nat) : Int).toNat = bk.length := by rw [Int.toNat_natCast, List.length_map, lss]
    have nmok : NamesOk bk (ss.zip zs8) := by rw [ess]; exact zip_ok ok.nd (by omega) nd8 wd8
    refine lc_range (n := (((ss.map V.str).length : Nat) : Int).toNat) (fun j H' => Same H8 H' ∧ ∃ as : List Addr, H' M = some (.lst (as.map V.ref)) ∧ Paired (fun a (kv : Key × V) => (cut [M] H') a = some (.tup [kV kv.1, kv.2])) as (kT ((ss.zip zs8).take j))) ⟨Same.new hM, [], upd_same, .nil⟩ ?_ ?_
    · rintro j H9 hj ⟨s9, as, hM9, hp9⟩
      rw [en] at hj
      have h1 : j < ss.length := by omega
      have h2 : j < zs8.length := by omega
      have z1 := List.getElem?_eq_getElem h1
      have z2 := List.getElem?_eq_getElem h2
      have hz : (ss.zip zs8)[j]? = some (ss[j], zs8[j]) := by rw [List.getElem?_zip_eq_some]; exact ⟨z1, z2⟩
      have a1 : atI (ss.map V.str) (0 + (j : Int)) = some (V.str ss[j]) := at_of (j := j) (by omega) (by rw [List.getElem?_map, z1]; rfl)
      have a2 : atI (zs8.map V.str) (0 + (j : Int)) = some (V.str zs8[j]) := at_of (j := j) (by omega) (by rw [List.getElem?_map, z2]; rfl)
      generalize ss[j] = x at hz a1
      generalize zs8[j] = y at hz a2
      refine ⟨rfl, ?_⟩
      dsimp only [tYes]
      rw [if_pos rfl]
      refine ⟨_, rfl, _, rfl, S, _, _, _, rfl, rfl, (hS8.same s9).sq, a1, _, rfl, _, rfl, R8, _, _, _, rfl, rfl, (hR8.same s9).sq, a2, by show 2 ≤ sizeLine; decide, fun T1 hT1 => ?_⟩
      have g := Same.new (o := .tup [.str x, .str y]) hT1
      have nT : T1 ≠ M := fun e => by rw [e, hM9] at hT1; cases hT1
      have lps : as.length ≤ 60 := by rw [paired_len hp9, kT, List.length_map, List.length_take]; omega
      refine ⟨_, g _ _ hM9, by rw [List.length_map, sizeLine_eq]; omega, fun c u e => ?_, as ++ [T1], by rw [upd_same, List.map_append]; rfl, ?_⟩
      · rw [upd_ne (ne_of_none e hM)]; exact g _ _ (s9 _ _ e)
      · rw [cut_upd (by simp), take_succ_get hz, kT_app]
        exact pair_app (paired_imp (fun p kv e => cut_same g _ _ e) hp9) (by rw [cut_out (by simpa using nT)]; exact upd_same)
    · rintro H9 ⟨s9, as, hM9, hp9⟩
      rw [en, ← nm_l, List.take_length] at hp9
      refine ⟨M, as, kT (ss.zip zs8), rfl, SqL.of hM9, paired_imp (fun p kv e => SqT.of (cut_le _ _ e)) hp9, fun B hB => ?_⟩
      rw [merge_id2 (by rw [kT_keys]; exact inr_nd' nmok.nd)]
      have b09 := b08.trans (But.of s9)
      exact k _ B _ t8 (b09.newt hB) (b09.fr hB ((hp8.same s9).ne hB)) upd_same nmok ((hp8.same s9).new hB) (by omega)
end
end D1
end L2
/-! calls by names alone; == of lists of words; what a list that is written leaves -/
namespace L2
namespace D1
open PySem PySem.Spec PyProof.Rows D2
/-- a def that is called by names alone keeps a promise -/
structure CalK (P : Program) (w : World) (K : PySem.W.Frag) (mg : Str → Option Value) (base : Heap) (x : Str) (k : Nat) (ps ks : List Str) (gV : List V → List V) (sp : Sp) : Prop where
  ex : ∃ f fd g, mg x = some (.ref f) ∧ PySem.W.keepIn K (.ref f) = true ∧ FnOk P w K mg base CX0 k f fd ps sp ∧ KBinds K fd ps ks g fun vs zs => vs ++ gV zs
theorem pe_calK {X : Cx} {x : Str} {k : Nat} {ps ks : List Str} {gV : List V → List V} {sp : Sp} {kws : List Keyword} {tk : TA} {p pos : Pos} (C : CalK X.prog X.w X.K X.mg X.base x k ps ks gV sp) (hr : Room k X.A) (hg : Gl X x) (hkw : PK X kws tk)
    (hall : (backToKw pos (keywordEach kws X.env)).all (·.1.isSome) = true := by rfl) (hks : (backToKw pos (keywordEach kws X.env)).filterMap (·.1) = ks := by rfl) (hdb : (x == ("__debug__" : Str)) = false := by decide)
    (hpl : ((backTo pos (starEach [] X.env)).any (·.1) || (backToKw pos (keywordEach kws X.env)).any (·.1.isNone)) = false := by rfl) : PE X (.Call (.Name x p) [] kws pos) (fun σ H Q => tk σ H fun zs H2 => sp (gV zs) H2 Q E0) := by
  obtain ⟨f, fd, g, h1, h2, h3, h4⟩ := C.ex
  refine ⟨fun pins s σ H Q I h => ?_⟩
  refine wpAny_Call_Name_kw (ld_glob I hg h1 ?_ hdb)
  refine PySem.W.callWith_KW0 (h₀ := X.base) I.ok.mod.kin h2 hall (thn (hkw.run pos pins s σ H _ I h) fun ws s2 ⟨zs, H2, I2, rz, q2⟩ => ⟨I2.kIn, ?_⟩) hpl
  rw [hks]
  exact run_fnk (us := []) (vs := []) h3 hr h4 pass0 I2 .nil rz q2
/-! ### == of words' lists -/
def dW (ss : List Str) : PyData := .list (ss.map PyData.str)
def dP (ps : List (Str × Str)) : PyData := .list (ps.map fun p => .tuple [.str p.1, .str p.2])
theorem lay_str {x : Str} (h : Wd x) : PyData.canLay0 (.str x) = true := by
  show (x.cps.all fun c => decide (c < 0x110000)) = true
  rw [← Array.all_toList]
  refine List.all_eq_true.mpr fun c hc => ?_
  have := h.ok c hc
  exact decide_eq_true (by omega)
theorem lay_words : ∀ {ss : List Str}, (∀ x ∈ ss, Wd x) → PyData.canLayAll0 (ss.map PyData.str) = true
  | [], _ => rfl
  | x :: r, h => by
    have a := lay_str (h x (.head _))
    have b := lay_words (ss := r) fun y hy => h y (.tail _ hy)
    show (PyData.canLay0 (.str x) && PyData.canLayAll0 (r.map PyData.str)) = true
    rw [a, b]; rfl
theorem dep_words : ∀ (ss : List Str), PyData.depthAll (ss.map PyData.str) = 0
  | [] => rfl
  | x :: r => by
    show max (PyData.depth (.str x)) (PyData.depthAll (r.map PyData.str)) = 0
    rw [dep_words r]; rfl
theorem sh_words {ss : List Str} (h : ∀ x ∈ ss, Wd x) : SeqAt.shaped (dW ss) = true := by
  show (PyData.canLayAll0 (ss.map PyData.str) && decide (PyData.depthAll (ss.map PyData.str) + 1 ≤ 64)) = true
  rw [lay_words h, dep_words]; rfl
theorem eq_words {ss : List Str} (h : ∀ x ∈ ss, Wd x) : PyData.eqv (dW ss) (dW ss) = true := SeqAt.eqv_refl _ (lay_words h)
theorem dpa_words {K : PySem.W.Frag} {H : Hp} : ∀ ss : List Str, DpAll K H (ss.map V.str) (ss.map PyData.str)
  | [] => .nil
  | x :: r => .cons (.str x) (dpa_words r)
theorem dp_words {K : PySem.W.Frag} {H : Hp} {a : Addr} {ss : List Str} (h : SL H a ss) : Dp K H (.ref a) (dW ss) := .lst h.sq (dpa_words ss)
theorem lay_pairs : ∀ {ps : List (Str × Str)}, (∀ p ∈ ps, Wd p.1 ∧ Wd p.2) → PyData.canLayAll0 (ps.map fun p => .tuple [.str p.1, .str p.2]) = true
  | [], _ => rfl
  | x :: r, h => by
    have a1 := lay_str (h x (.head _)).1
    have a2 := lay_str (h x (.head _)).2
    have b := lay_pairs (ps := r) fun y hy => h y (.tail _ hy)
    show ((PyData.canLay0 (.str x.1) && (PyData.canLay0 (.str x.2) && true)) && PyData.canLayAll0 (r.map fun p => .tuple [.str p.1, .str p.2])) = true
    rw [a1, a2, b]; rfl
theorem dep_pairs : ∀ (ps : List (Str × Str)), PyData.depthAll (ps.map fun p => .tuple [.str p.1, .str p.2]) ≤ 1
  | [] => Nat.zero_le _
  | x :: r => by
    show max 1 (PyData.depthAll (r.map fun p => .tuple [.str p.1, .str p.2])) ≤ 1
    have := dep_pairs r
    omega
theorem sh_pairs {ps : List (Str × Str)} (h : ∀ p ∈ ps, Wd p.1 ∧ Wd p.2) : SeqAt.shaped (dP ps) = true := by
  show (PyData.canLayAll0 (ps.map fun p => .tuple [.str p.1, .str p.2]) && decide (PyData.depthAll (ps.map fun p => .tuple [.str p.1, .str p.2]) + 1 ≤ 64)) = true
  rw [lay_pairs h, decide_eq_true (by have := dep_pairs ps; omega)]; rfl
theorem eq_pairs {ps : List (Str × Str)} (h : ∀ p ∈ ps, Wd p.1 ∧ Wd p.2) : PyData.eqv (dP ps) (dP ps) = true := SeqAt.eqv_refl _ (lay_pairs h)
theorem dp_pairs {K : PySem.W.Frag} {H : Hp} {a : Addr} {as : List Addr} {ps : List (Str × Str)} (h : H a = some (.lst (as.map V.ref))) (g : Paired (fun t (p : Str × Str) => H t = some (.tup [.str p.1, .str p.2])) as ps) : Dp K H (.ref a) (dP ps) := by
  refine .lst (SqL.of h) ?_
  clear h
  induction g with
  | nil => exact .nil
  | cons e _ ih => exact .cons (.tup (SqT.of e) (.cons (.str _) (.cons (.str _) .nil))) ih
/-! ### a list is written: what stands beside it -/
theorem TurnsAt.but {T : Addr} {H H' : Hp} {a : Addr} {ts : List (Str × Str)} {xs : List V} (h : TurnsAt H a ts) (b : But T H H') (hT : H T = some (.lst xs)) : TurnsAt H' a ts := b _ _ (fun e => by rw [TurnsAt, e, hT] at h; cases h) h
theorem BookAt.but {T : Addr} {H H' : Hp} {a : Addr} {bk : Bk} {xs : List V} (h : BookAt H a bk) (b : But T H H') (hT : H T = some (.lst xs)) : BookAt H' a bk := by
  obtain ⟨kvs, e, r⟩ := h
  refine ⟨kvs, b _ _ (fun z => by rw [z, hT] at e; cases e) e, ?_⟩
  clear e
  unfold Rows at r ⊢
  induction r with
  | nil => exact .nil
  | cons h1 _ ih =>
    obtain ⟨e1, t, a, ev, ht, ha⟩ := h1
    exact .cons ⟨e1, t, a, ev, b _ _ (fun z => by rw [z, hT] at ht; cases ht) ht, ha.but b hT⟩ ih
theorem BookR.but {T : Addr} {H H' : Hp} {a : Addr} {bk : Bk} {xs : List V} (h : BookR H a bk) (b : But T H H') (hT : H T = some (.lst xs)) : BookR H' a bk := by
  obtain ⟨kvs, e, r⟩ := h
  refine ⟨kvs, e.elim (fun e => .inl (b _ _ (fun z => by rw [z, hT] at e; cases e) e)) fun ⟨od, e⟩ => .inr ⟨od, b _ _ (fun z => by rw [z, hT] at e; cases e) e⟩, ?_⟩
  clear e
  unfold Rows at r ⊢
  induction r with
  | nil => exact .nil
  | cons h1 _ ih =>
    obtain ⟨e1, t, a, ev, ht, ha⟩ := h1
    exact .cons ⟨e1, t, a, ev, b _ _ (fun z => by rw [z, hT] at ht; cases ht) ht, ha.but b hT⟩ ih
theorem DeskAt.but {C T : Addr} {H H' : Hp} {q : Addr} {bk : Bk} {st : Str} {xs : List V} (h : DeskAt C H q bk st) (b : But T H H') (hT : H T = some (.lst xs)) : DeskAt C H' q bk st := by
  obtain ⟨dx, c, e, r⟩ := h
  exact ⟨dx, c, b _ _ (fun z => by rw [z, hT] at e; cases e) e, r.but b hT⟩
/-! ### what is come to in a trimmed desk -/
theorem rch_sub {bk : Bk} {st : Str} {ys : List Str} (h : Come bk st ys) (x : Str) : Rch (subB bk ys) st x ↔ Rch bk st x := by
  constructor
  · intro z
    induction z with
    | here => exact .here
    | next hs ht ih =>
      rw [subB_row h.nd ((h.mem _).mpr ih)] at ht
      exact .next ih ht
  · intro z
    induction z with
    | here => exact .here
    | next hs ht ih =>
      refine .next ih ?_
      rw [subB_row h.nd ((h.mem _).mpr hs)]
      exact ht
theorem subB_sub {bk : Bk} {ys : List Str} (nd : ys.Nodup) : ordB (subB (subB bk ys) ys) = ordB (subB bk ys) := by
  refine ordB_eq (by rw [subB_names, subB_names]) fun s hs => ?_
  rw [subB_names] at hs
  rw [subB_row nd hs]
  exact ⟨rfl, rfl⟩
theorem Come.sorted {bk : Bk} {st : Str} {ys : List Str} (h : Come bk st ys) : srt ys = ys := pw_unique (srt_perm ys) (srt_pw ys) h.so
theorem Come.wd {bk : Bk} {st : Str} {ys : List Str} (h : Come bk st ys) (ok : DOk bk st) : ∀ x ∈ ys, Wd x := fun x hx => by
  have hm := ((h.mem x).mp hx).mem ok
  exact (ok.rs _ (row_mem hm)).1
theorem Come.le {bk : Bk} {st : Str} {ys : List Str} (h : Come bk st ys) (ok : DOk bk st) : ys.length ≤ 60 := by
  have := pigeon ys (bk.map (·.1)) h.nd fun x hx => ((h.mem x).mp hx).mem ok
  rw [List.length_map] at this
  have := ok.len; omega
end D1
end L2
/-! the law looks at trimmed desks -/
namespace L2
namespace D1
open PySem PySem.Spec PyProof.Rows D2
abbrev sTrimR : Stmt := top 61
def spTrimR (C : Addr) : Sp := fun vs H Q _ => ∃ (q W : Addr) (bk : Bk) (st : Str), vs = [.ref q, .ref W] ∧ DeskAt C H q bk st ∧ WorldR H W bk st ∧ DOk bk st ∧ ∀ H', Same H H' → Q (.bl true) H'
section
variable {P : Program} {w : World} {K : PySem.W.Frag} {mg : Str → Option Value} {base : Heap} {C : Addr}
abbrev CReached (P : Program) (w : World) (K : PySem.W.Frag) (mg : Str → Option Value) (base : Heap) := Cal P w K mg base "_law_reached" 1 ["_law_book", "_law_start"] spReached
abbrev CMade (P : Program) (w : World) (K : PySem.W.Frag) (mg : Str → Option Value) (base : Heap) (C : Addr) := Cal P w K mg base "_law_made" 4 ["_law_desk_here"] (spMade C)
abbrev CDue (P : Program) (w : World) (K : PySem.W.Frag) (mg : Str → Option Value) (base : Heap) := Cal P w K mg base "_law_due" 3 ["_law_world_here"] spDue
abbrev CTrimmed (P : Program) (w : World) (K : PySem.W.Frag) (mg : Str → Option Value) (base : Heap) (C : Addr) := Cal P w K mg base "trimmed" 6 ["desk"] (spTrimmed C)
abbrev CStates (P : Program) (w : World) (K : PySem.W.Frag) (mg : Str → Option Value) (base : Heap) (C : Addr) := Cal P w K mg base "states_of" 4 ["desk"] (spStates C)
abbrev KTrimmed (P : Program) (w : World) (K : PySem.W.Frag) (mg : Str → Option Value) (base : Heap) (C : Addr) := CalK P w K mg base "trimmed" 6 ["desk"] ["desk"] id (spTrimmed C)
abbrev KComeTo (P : Program) (w : World) (K : PySem.W.Frag) (mg : Str → Option Value) (base : Heap) (C : Addr) := CalK P w K mg base "come_to" 5 ["desk"] ["desk"] id (spComeTo C)
abbrev trN : List Str := ["_law_desk_here", "_law_world_here", "_law_reached_here", "_law_told", "_law_made_here", "_law_state"]
theorem scTrr : FnScope trN ["_law_desk_here", "_law_world_here"] (defScope sTrimR) := ⟨rfl, rfl, rfl, by decide +kernel, rfl, by decide +kernel, by decide +kernel⟩
theorem ok_trimr {f : Addr} {fd : FuncData} (F : Fun K "_law_trimmed_right" "_law_trimmed_right" sTrimR f fd) (T : Free3 mg) (CE : CExact P w K mg base 5) (EQ : EqD P w K mg base C) (CR : CReached P w K mg base) (CM : CMade P w K mg base C) (CD : CDue P w K mg base) (CT : CTrimmed P w K mg base C) (KT : KTrimmed P w K mg base C) (CC : CComeTo P w K mg base C) (KC : KComeTo P w K mg base C) (CS : CStates P w K mg base C) :
    FnOk P w K mg base CX0 8 f fd ["_law_desk_here", "_law_world_here"] (spTrimR C) := by
  refine F.ok scTrr (fun vs H Q E h => ?_) (fun cdv A outer s H vs Q E0' hr h => ?_)
  · obtain ⟨q, W, bk, st, rfl, _⟩ := h; rfl
  · obtain ⟨q, W, bk, st, rfl, hq, ⟨b, hW, ⟨kvs, hb, hRw⟩⟩, ok, k⟩ := h
    have hu := hu_of hr
    refine ⟨_, pss_cons (ps_set (i := 2) scTrr.nd rfl (Or.inl rfl) (pe_cal CR (hr.mono (by decide)) rfl (pa_cons (pe_ix ix_list (pv 1) pe_int (fun _ _ => rfl)) (pa_cons (pe_ix ix_list (pv 1) pe_int (fun _ _ => rfl)) pa_nil))))
      (pss_cons (ps_par (i := 3) (j := 4) rfl scTrr.nd rfl rfl (by decide) rfl rfl (pa_cons (pe_cal CC (hr.mono (by decide)) rfl (pa_cons (pv 0) pa_nil)) (pa_cons (pe_calK KT (hr.mono (by decide)) rfl (pk_cons (pv 0) pk_nil)) pa_nil)) (by rfl))
      (pss_cons (ps_if (PW.pt (pw_or (pt_not (pt_val (pe_cal CE (hr.mono (by decide)) rfl (pa_cons (pv 3) (pa_cons (pv 2) pa_nil))))) (pw_or1 (pt_not (pt_val (pe_cal CE (hr.mono (by decide)) rfl (pa_cons (pe_cal CM (hr.mono (by decide)) rfl (pa_cons (pv 4) pa_nil)) (pa_cons (pe_cal CD (hr.mono (by decide)) rfl (pa_cons (pe_lst (pa_cons (pe_callTy (call_dictP rfl) (by rfl) T.dict (by decide +kernel) (pa_cons (pe_lc (own := [("_law_state", 5)]) (g := gName 5) (tt := tYes)
            (te := tTup (tCons (tVar 5) (tCons (tDGet (tOp (rIxL K) (tVar 1) (tC (.int 0))) (tVar 5)) tNil))) rfl scTrr.nd (pi_list (pv 2))
            (blkOk_by (N := trN) (sc := defScope sTrimR) (by decide +kernel)) (fun _ _ _ _ _ => pg_name (i := 5) scTrr.nd rfl (Or.inl rfl)) (fun _ _ _ _ _ => pts_nil)
            (fun _ _ _ _ _ => pe_tup (pa_cons (pv 5) (pa_cons (pe_dget hu (pe_ix ix_list (pv 1) pe_int (fun _ _ => rfl)) (pv 5) (fun _ _ => rfl)) pa_nil)))) pa_nil)) (pa_cons (pe_ix ix_list (pv 1) pe_int (fun _ _ => rfl)) pa_nil))) pa_nil)) pa_nil)))))))) (pss_one (ps_ret pe_bl)) pss_nil)
      (pss_cons (ps_expr (pe_bm PySem.F.plainAttrs_list PySem.F.slot_list_append PySem.F.type_list_append mt_append (pv 3) (pa_cons pe_str pa_nil)))
      (pss_one (ps_ret (pe_and (pe_cal CE (hr.mono (by decide)) rfl (pa_cons (pe_calK KC (hr.mono (by decide)) rfl (pk_cons (pv 0) pk_nil)) (pa_cons (pv 2) pa_nil)))
        (pe_and (pe_cmpR (eqD EQ (hr.mono (by decide))) (pe_cal CT (hr.mono (by decide)) rfl (pa_cons (pv 4) pa_nil)) (pv 4) (by rfl))
        (pe_and (pe_cmpR (op_eqD hr.units) (pe_cal CC (hr.mono (by decide)) rfl (pa_cons (pv 4) pa_nil)) (pv 2) (by rfl))
        (pe_one (pe_cmpR (op_eqD hr.units) (pe_cal CS (hr.mono (by decide)) rfl (pa_cons (pv 4) pa_nil)) (pv 2) (by rfl))))))))))), ?_⟩
    refine ⟨_, rfl, W, _, _, _, rfl, rfl, SqL.of hW, atI_nat (j := 0) rfl, _, rfl, W, _, _, _, rfl, rfl, SqL.of hW, atI_nat (j := 1) rfl, b, bk, st, rfl, ⟨kvs, hb, hRw⟩, ok, fun H1 R ys s1 nR hR cm => ?_⟩
    have hq1 := hq.same s1
    refine ⟨_, rfl, q, bk, st, rfl, hq1, ok, fun H2 T0 ys2 s2 nT hT cm2 => ?_⟩
    obtain rfl : ys2 = ys := cm2.one cm fun x => Iff.rfl
    refine ⟨_, rfl, q, bk, st, rfl, hq1.same s2, ok, fun H3 M ys3 s3 nM cm3 hM okM _ => ⟨_, _, rfl, ?_⟩⟩
    obtain rfl : ys3 = ys2 := cm3.one cm2 fun x => Iff.rfl
    have ly := cm.le ok
    have wy := cm.wd ok
    have hm : ∀ x ∈ ys3, x ∈ bk.map (·.1) := fun x hx => ((cm.mem x).mp hx).mem ok
    have s13 := Same.trans s2 s3
    have hR3 := hR.same s13
    have hT3 := hT.same s3
    have s03 := Same.trans s1 s13
    have nRT : R ≠ T0 := fun e => by rw [SL, e, nT] at hR; cases hR
    have nT0 : H T0 = none := s1.free nT
    refine ⟨_, rfl, _, rfl, _, _, rfl, (eqx_list hT3 hR3 (by omega)).up (by decide), fun H4 s4 => ⟨_, rfl, iteF ?_⟩⟩
    have s04 := Same.trans s03 s4
    refine ⟨_, rfl, M, subB bk ys3, st, rfl, hM.same s4, okM, fun H5 R5 s5 nR5 hR5 => ?_⟩
    have s05 := Same.trans s04 s5
    have hRL := (hR3.same s4).same s5
    refine ⟨_, rfl, R, rfl, ⟨_, hRL.sq⟩, fun D hD => ?_⟩
    refine lc_list (K := K) (a := R) (xs := ys3.map V.str) (fun i H' => Same H5 H' ∧ ∃ (ps : List Addr) (kv2 : List (Key × V)), H' D = some (.lst (ps.map V.ref)) ∧ Paired (fun p (kv : Key × V) => (cut [D] H') p = some (.tup [kV kv.1, kv.2])) ps kv2 ∧ Rows (cut [D] H') kv2 (subB bk (ys3.take i))) ⟨Same.new hD, [], [], upd_same, .nil, .nil⟩ (fun i H' _ z => (hRL.same z.1).sq) ?_ ?_
    · rintro i v H6 hx ⟨sm, ps, kv2, hD6, hp, hR6⟩
      obtain ⟨z, hz, rfl⟩ := get_map hx
      have hzm := hm z (List.mem_of_getElem? hz)
      have s6 := Same.trans s05 sm
      have il : i < ys3.length := (List.getElem?_eq_some_iff.mp hz).1
      obtain ⟨v, ev, hrow, hmem⟩ := (hRw.same s6).look hzm
      obtain ⟨t, a, rfl, ht, ha⟩ := hrow
      refine ⟨rfl, ?_⟩
      dsimp only [tYes]
      rw [if_pos rfl]
      refine ⟨_, rfl, _, rfl, W, _, _, _, rfl, rfl, SqL.of (s6 _ _ hW), atI_nat (j := 0) rfl, _, rfl, b, _, rfl, .inl ⟨kvs, .inr z, rd_same hb s6, rfl, ev.symm⟩, by show 2 ≤ sizeLine; decide, fun T1 hT1 => ?_⟩
      have g := Same.new (o := .tup [.str z, .ref t]) hT1
      have nT1 : T1 ≠ D := fun e => by rw [e, hD6] at hT1; cases hT1
      have nt : t ≠ D := fun e => by rw [e, hD6] at ht; cases ht
      have na : a ≠ D := fun e => by rw [TurnsAt, e, hD6] at ha; cases ha
      have lps : ps.length ≤ 60 := by rw [paired_len hp, hR6.len, subB, List.length_map, List.length_take]; omega
      refine ⟨_, g _ _ hD6, by rw [List.length_map, sizeLine_eq]; omega, fun c u e => ?_, ps ++ [T1], kv2 ++ [(.inr z, .ref t)], by rw [upd_same, List.map_append]; rfl, ?_, ?_⟩
      · rw [upd_ne (ne_of_none e hD)]; exact g _ _ (sm _ _ e)
      · rw [cut_upd (by simp)]
        exact pair_app (paired_imp (fun p kv e => cut_same g _ _ e) hp) (by rw [cut_out (by simpa using nT1)]; exact upd_same)
      · rw [cut_upd (by simp), take_succ_get hz, subB, List.map_append]
        refine (hR6.same (cut_same g)).app ⟨t, a, rfl, ?_, ?_⟩
        · rw [cut_out (by simpa using nt)]; exact g _ _ ht
        · rw [TurnsAt, cut_out (by simpa using na)]; exact g _ _ ha
    rintro H6 ⟨sm, ps, kv2, hD6, hp, hR6⟩
    rw [List.length_map, List.take_length] at hR6
    have s06 := Same.trans s05 sm
    refine ⟨D, ps, kv2, rfl, SqL.of hD6, paired_imp (fun p kv e => SqT.of (cut_le _ _ e)) hp, fun B hB => ?_⟩
    have e1 : kv2.map (·.1) = ((subB bk ys3).map (·.1)).map Sum.inr := by rw [hR6.keys, List.map_map]; rfl
    rw [merge_id2 (by rw [e1, subB_names]; exact inr_nd' cm.nd)]
    have s7 := Same.new (o := .dK kv2) hB
    have hB7 : BookAt (L2.upd H6 B (.dK kv2)) B (subB bk ys3) := ⟨kv2, upd_same, (hR6.same cut_le).same s7⟩
    generalize L2.upd H6 B (.dK kv2) = H7 at s7 hB7
    have s07 := Same.trans s06 s7
    have s57 := Same.trans sm s7
    refine ⟨_, rfl, W, _, _, _, rfl, rfl, SqL.of (s07 _ _ hW), atI_nat (j := 1) rfl, by show 2 ≤ sizeLine; decide, fun W2 hW2 => ?_⟩
    have s8 := Same.new (o := .lst [.ref B, .str st]) hW2
    refine ⟨W2, subB bk ys3, st, rfl, ⟨B, upd_same, (hB7.same s8).r⟩, okM.bok, fun H9 R9 s9 nR9 hR9 => ?_⟩
    have s59 := Same.trans (Same.trans s57 s8) s9
    refine ⟨_, _, rfl, eqx_world (hR5.same s59) hR9 okM.obok (ordB_ne okM.ne), fun H10 s10 => ⟨_, rfl, iteF ?_⟩⟩
    have s410 := Same.trans (Same.trans s5 s59) s10
    have s310 := Same.trans s4 s410
    have hT10 := hT3.same s310
    have hR10 := hR3.same s310
    have hM10 := hM.same s310
    have s010 := Same.trans s03 s310
    have hq10 := hq.same s010
    clear hR9 hR5 hB7 hR6 hp hD6
    refine ⟨_, rfl, .inl ⟨rfl, _, hT10.sq⟩, T0, _, _, rfl, rfl, hT10, by rw [List.length_map, sizeLine_eq]; omega, ?_⟩
    have bT := But.upd T0 H10 (.lst (ys3.map V.str ++ [.str "zz"]))
    generalize L2.upd H10 T0 (.lst (ys3.map V.str ++ [.str "zz"])) = H11 at bT
    have hq11 := hq10.but bT hT10
    have hM11 := hM10.but bT hT10
    have hR11 : SL H11 R ys3 := bT _ _ nRT hR10
    have s011 : Same H H11 := fun c u e => bT _ _ (ne_of_none e nT0) (s010 _ _ e)
    refine ⟨_, rfl, q, bk, st, rfl, hq11, ok, fun H12 R12 ys12 s12 nR12 hR12 cm12 => ?_⟩
    obtain rfl : ys12 = ys3 := cm12.one cm fun x => Iff.rfl
    refine ⟨_, rfl, _, _, rfl, (eqx_list hR12 (hR11.same s12) (by omega)).up (by decide), fun H13 s13' => ⟨true, rfl, iteT ?_⟩⟩
    have s1113 := Same.trans s12 s13'
    have hM13 := hM11.same s1113
    refine ⟨_, rfl, M, subB bk ys12, st, rfl, hM13, okM, fun H14 R14 ys14 s14 nR14 cm14 hR14 ok14 _ => ?_⟩
    obtain rfl : ys14 = ys12 := cm14.one cm fun x => rch_sub cm x
    have hM14 := hM13.same s14
    have e14 : ordB (subB (subB bk ys14) ys14) = ordB (subB bk ys14) := subB_sub cm.nd
    refine ⟨_, rfl, rEqB_of ⟨_, _, st, st, hR14, hM14, e14, ok14, (decide_eq_true rfl).symm⟩ ⟨true, rfl, iteT ?_⟩⟩
    refine ⟨_, rfl, M, subB bk ys14, st, rfl, hM14, okM, fun H15 R15 ys15 s15 nR15 hR15 cm15 => ?_⟩
    obtain rfl : ys15 = ys14 := cm15.one cm fun x => rch_sub cm x
    have s1115 := Same.trans (Same.trans s1113 s14) s15
    have hR15' := hR11.same s1115
    refine ⟨_, rfl, _, _, dp_words hR15, dp_words hR15', sh_words wy, sh_words wy, ?_⟩
    rw [eq_words wy]
    refine ⟨true, rfl, iteT ?_⟩
    refine ⟨_, rfl, M, subB bk ys15, st, rfl, hM14.same s15, okM, fun H16 R16 s16 nR16 hR16 => ?_⟩
    rw [subB_names, cm.sorted] at hR16
    refine ⟨_, rfl, _, _, dp_words hR16, dp_words (hR15'.same s16), sh_words wy, sh_words wy, ?_⟩
    rw [eq_words wy]
    exact k _ (Same.trans (Same.trans s011 s1115) s16)
end
end D1
end L2
/-! the law looks at begun desks -/
namespace L2
namespace D1
open PySem PySem.Spec PyProof.Rows D2
abbrev sBegR : Stmt := top 63
theorem DeskAt.lock {C : Addr} {H : Hp} {q b : Addr} {bk bk' : Bk} {st : Str} {kvs : List (Key × V)} {od : Obj} (h : DeskAt C H q bk st) (hb : H b = some (.dK kvs)) (hR : Rows H kvs bk') (ne : bk' ≠ []) : DeskAt C (L2.upd H b (.frz od (.dK kvs))) q bk st := by
  obtain ⟨dx, c, e, ⟨kv2, e2, r2⟩⟩ := h
  refine ⟨dx, c, by rw [upd_ne fun z => by rw [z, hb] at e; cases e]; exact e, kv2, rd_lock e2 hb (fun _ _ e => by cases e), ?_⟩
  unfold Rows at r2 ⊢
  clear e2 e
  generalize ordB bk = bb at r2
  induction r2 with
  | nil => exact .nil
  | cons h1 _ ih =>
    obtain ⟨e1, t, a, ev, ht, ha⟩ := h1
    refine .cons ⟨e1, t, a, ev, by rw [upd_ne fun z => by rw [z, hb] at ht; cases ht]; exact ht, ?_⟩ ih
    rw [TurnsAt, upd_ne (book_ne hb hR ne ha)]; exact ha
def spBegR (C : Addr) : Sp := fun vs H Q _ => ∃ (q W : Addr) (bk : Bk) (st : Str), vs = [.ref q, .ref W] ∧ DeskAt C H q bk st ∧ WorldAt H W bk st ∧ DOk bk st ∧ ∀ H', Same H H' → Q (.bl true) H'
section
variable {P : Program} {w : World} {K : PySem.W.Frag} {mg : Str → Option Value} {base : Heap} {C : Addr}
abbrev CBegun (P : Program) (w : World) (K : PySem.W.Frag) (mg : Str → Option Value) (base : Heap) (C : Addr) := Cal P w K mg base "begun" 6 ["desk", "state"] (spBegun C)
abbrev KBegun (P : Program) (w : World) (K : PySem.W.Frag) (mg : Str → Option Value) (base : Heap) (C : Addr) := CalK P w K mg base "begun" 6 ["desk", "state"] ["state", "desk"] List.reverse (spBegun C)
abbrev CTrimR (P : Program) (w : World) (K : PySem.W.Frag) (mg : Str → Option Value) (base : Heap) (C : Addr) := Cal P w K mg base "_law_trimmed_right" 8 ["_law_desk_here", "_law_world_here"] (spTrimR C)
abbrev brN : List Str := ["_law_desk_here", "_law_world_here", "_law_state", "_law_made_here"]
theorem scBr : FnScope brN ["_law_desk_here", "_law_world_here"] (defScope sBegR) := ⟨rfl, rfl, rfl, by decide +kernel, rfl, by decide +kernel, by decide +kernel⟩
theorem ok_begr {f : Addr} {fd : FuncData} (F : Fun K "_law_begun_right" "_law_begun_right" sBegR f fd) (CE : CExact P w K mg base 5) (EQ : EqD P w K mg base C) (CR : CReached P w K mg base) (CM : CMade P w K mg base C) (CD : CDue P w K mg base) (CB : CBegun P w K mg base C) (KB : KBegun P w K mg base C) (CC : CComeTo P w K mg base C) (CT : CTrimR P w K mg base C) :
    FnOk P w K mg base CX0 9 f fd ["_law_desk_here", "_law_world_here"] (spBegR C) := by
  refine F.ok scBr (fun vs H Q E h => ?_) (fun cdv A outer s H vs Q E0' hr h => ?_)
  · obtain ⟨q, W, bk, st, rfl, _⟩ := h; rfl
  · obtain ⟨q, W, bk, st, rfl, hq0, ⟨b, hW, ⟨kvs, hb, hRw⟩⟩, ok, k⟩ := h
    have hu := hu_of hr
    refine ⟨_, pss_cons (ps_lock (ps_for PassesOwn.never rfl (pi_keys (pe_ix ix_list (pv 1) pe_int (fun _ _ => rfl))) (pg_name (i := 2) scBr.nd rfl (Or.inl rfl))
        (pss_cons (ps_set (i := 3) scBr.nd rfl (Or.inl rfl) (pe_cal CB (hr.mono (by decide)) rfl (pa_cons (pv 0) (pa_cons (pv 2) pa_nil))))
        (pss_cons (ps_if (PW.pt (pw_or (pt_not (pt_val (pe_cal CE (hr.mono (by decide)) rfl (pa_cons (pe_cal CM (hr.mono (by decide)) rfl (pa_cons (pv 3) pa_nil)) (pa_cons (pe_cal CD (hr.mono (by decide)) rfl (pa_cons (pe_lst (pa_cons (pe_ix ix_list (pv 1) pe_int (fun _ _ => rfl)) (pa_cons (pv 2) pa_nil))) pa_nil)) pa_nil)))))
            (pw_or1 (pt_cmpR (neD EQ (hr.mono (by decide))) (pe_cal CB (hr.mono (by decide)) rfl (pa_cons (pv 3) (pa_cons (pe_ix ix_list (pv 1) pe_int (fun _ _ => rfl)) pa_nil))) (pv 0) (by rfl))))) (pss_one (ps_ret pe_bl)) pss_nil)
        (pss_cons (ps_if (PW.pt (pw_or (pt_not (pt_val (pe_cal CE (hr.mono (by decide)) rfl (pa_cons (pe_cal CC (hr.mono (by decide)) rfl (pa_cons (pv 3) pa_nil)) (pa_cons (pe_cal CR (hr.mono (by decide)) rfl (pa_cons (pe_ix ix_list (pv 1) pe_int (fun _ _ => rfl)) (pa_cons (pv 2) pa_nil))) pa_nil)))))
            (pw_or1 (pt_cmpR (neD EQ (hr.mono (by decide))) (pe_calK KB (hr.mono (by decide)) rfl (pk_cons (pv 2) (pk_cons (pv 0) pk_nil))) (pv 3) (by rfl))))) (pss_one (ps_ret pe_bl)) pss_nil)
        (pss_one (ps_if (PW.pt (pw_or (pt_cmpR op_ne (pe_cmpR (eqD EQ (hr.mono (by decide))) (pv 3) (pv 0) (by rfl)) (pe_cmpR op_eq (pv 2) (pe_ix ix_list (pv 1) pe_int (fun _ _ => rfl)) (by rfl)) (by rfl))
            (pw_or1 (pt_not (pt_val (pe_cal CT (hr.mono (by decide)) rfl (pa_cons (pv 3) (pa_cons (pe_lst (pa_cons (pe_ix ix_list (pv 1) pe_int (fun _ _ => rfl)) (pa_cons (pv 2) pa_nil))) pa_nil)))))))) (pss_one (ps_ret pe_bl)) pss_nil)))))))
      (pss_one (ps_ret pe_bl)), ?_⟩
    refine ⟨b, _, hb, trivial, fun od => ?_⟩
    have hq := hq0.lock (od := od) hb hRw ok.ne
    have hRL := hRw.lock (o := .frz od (.dK kvs)) hb ok.ne
    have nWb : W ≠ b := fun e => by rw [e, hb] at hW; cases hW
    have hWL : (L2.upd H b (.frz od (.dK kvs))) W = some (.lst [.ref b, .str st]) := by rw [upd_ne nWb]; exact hW
    have hbL : BookR (L2.upd H b (.frz od (.dK kvs))) b bk := ⟨kvs, .inr ⟨od, upd_same⟩, hRL⟩
    have lk : (L2.upd H b (.frz od (.dK kvs))) b = some (.frz od (.dK kvs)) := upd_same
    refine ⟨_, rfl, W, _, _, _, rfl, rfl, SqL.of hWL, atI_nat (j := 0) rfl, b, od, rfl, .inl ⟨kvs, upd_same, ?_⟩⟩
    generalize eL : L2.upd H b (.frz od (.dK kvs)) = HL at hq hRL hWL hbL lk
    refine for_it (walk_keys (d := b) (o := od) (kvs := kvs)) (fun i σ H' => ∃ (v2 v3 : Option V), σ = [some (.ref q), some (.ref W), v2, v3] ∧ Same HL H') ⟨none, none, rfl, Same.refl _⟩ (fun i σ H' _ ⟨_, _, _, z⟩ => z _ _ lk) ?_ ?_
    · rintro i x σ H3 H4 hi ⟨v2, v3, rfl, sm⟩ ⟨rfl, kk, v0, hkv, rfl⟩
      obtain ⟨r, hr', rfl, _⟩ := hRw.at hkv
      have hs : r.1 ∈ bk.map (·.1) := List.mem_map_of_mem (List.mem_of_getElem? hr')
      generalize r.1 = s0 at hs
      have oks := ok.at hs
      refine ⟨_, rfl, _, rfl, q, bk, st, s0, rfl, hq.same sm, ok, hs, fun H5 M s5 nM hM => ?_⟩
      have w5 := Same.trans sm s5
      refine ⟨_, rfl, M, bk, s0, rfl, hM, oks, fun H6 R6 s6 nR6 hR6 => ?_⟩
      have w6 := Same.trans w5 s6
      refine ⟨_, rfl, W, _, _, _, rfl, rfl, SqL.of (w6 _ _ hWL), atI_nat (j := 0) rfl, _, rfl, by show 2 ≤ sizeLine; decide, fun W7 hW7 => ?_⟩
      have s7 := Same.new (o := .lst [.ref b, .str s0]) hW7
      have w7 := Same.trans w6 s7
      refine ⟨W7, bk, s0, rfl, ⟨b, upd_same, hbL.same w7⟩, ok.bok, fun H8 R8 s8 nR8 hR8 => ?_⟩
      have s68 := Same.trans s7 s8
      refine ⟨_, _, rfl, eqx_world (hR6.same s68) hR8 ok.obok (ordB_ne ok.ne), fun H9 s9 => ⟨_, rfl, iteF ?_⟩⟩
      have w9 := Same.trans (Same.trans w6 s68) s9
      have s59 := Same.trans (Same.trans s6 s68) s9
      have hM9 := hM.same s59
      refine ⟨_, rfl, _, rfl, W, _, _, _, rfl, rfl, SqL.of (w9 _ _ hWL), atI_nat (j := 1) rfl, M, bk, s0, st, rfl, hM9, oks, ok.st, fun H10 R10 s10 nR10 hR10 => ?_⟩
      have w10 := Same.trans w9 s10
      refine ⟨_, rfl, rEqB_of ⟨bk, bk, st, st, hR10, hq.same w10, rfl, ok, (decide_eq_true rfl).symm⟩ ⟨_, rfl, iteF ?_⟩⟩
      have hM10 := hM9.same s10
      refine ⟨_, rfl, M, bk, s0, rfl, hM10, oks, fun H11 R11 ys s11 nR11 hR11 cm => ?_⟩
      have w11 := Same.trans w10 s11
      refine ⟨_, rfl, W, _, _, _, rfl, rfl, SqL.of (w11 _ _ hWL), atI_nat (j := 0) rfl, _, rfl, b, bk, s0, rfl, hbL.same w11, oks, fun H12 R12 ys2 s12 nR12 hR12 cm2 => ?_⟩
      obtain rfl : ys2 = ys := cm2.one cm fun x => Iff.rfl
      refine ⟨_, _, rfl, (eqx_list (hR11.same s12) hR12 (by have := cm.le oks; omega)).up (by decide), fun H13 s13 => ⟨_, rfl, iteF ?_⟩⟩
      have w13 := Same.trans (Same.trans w11 s12) s13
      have hM13 := hM10.same (Same.trans (Same.trans s11 s12) s13)
      refine ⟨_, rfl, _, rfl, q, bk, st, s0, rfl, hq.same w13, ok, hs, fun H14 R14 s14 nR14 hR14 => ?_⟩
      have w14 := Same.trans w13 s14
      have hM14 := hM13.same s14
      refine ⟨_, rfl, rEqB_of ⟨bk, bk, s0, s0, hR14, hM14, rfl, oks, (decide_eq_true rfl).symm⟩ ⟨_, rfl, iteF ?_⟩⟩
      have hq14 := hq.same w14
      refine ⟨_, rfl, _, rfl, rEqB_of ⟨bk, bk, s0, st, hM14, hq14, rfl, oks, rfl⟩ ?_⟩
      refine ⟨_, rfl, _, rfl, W, _, _, _, rfl, rfl, SqL.of (w14 _ _ hWL), atI_nat (j := 1) rfl, rfl, rfl, ?_⟩
      have eb : decide (V.str s0 = V.str st) = decide (s0 = st) := by
        by_cases h : s0 = st
        · rw [h, decide_eq_true rfl, decide_eq_true rfl]
        · rw [decide_eq_false h, decide_eq_false fun z => h (V.str.inj z)]
      refine ⟨_, rfl, ?_⟩
      refine ite2 (fun c => absurd c (by rw [show kV (Sum.inr s0) = V.str s0 from rfl, eb]; simp)) (fun _ => ?_)
      refine ⟨_, rfl, _, rfl, W, _, _, _, rfl, rfl, SqL.of (w14 _ _ hWL), atI_nat (j := 0) rfl, _, rfl, by show 2 ≤ sizeLine; decide, fun W15 hW15 => ?_⟩
      have s15 := Same.new (o := .lst [.ref b, .str s0]) hW15
      have w15 := Same.trans w14 s15
      refine ⟨M, W15, bk, s0, rfl, hM14.same s15, ⟨b, upd_same, hbL.same w15⟩, oks, fun H16 s16 => ⟨_, rfl, iteF ⟨_, _, rfl, Same.trans w15 s16⟩⟩⟩
    · rintro σ H3 ⟨v2, v3, rfl, sm⟩
      subst eL
      have su := Same.unlock hb sm
      exact ⟨sm _ _ lk, k _ su⟩
end
end D1
end L2
/-! what the law asks of a world -/
namespace L2
namespace D1
open PySem PySem.Spec PyProof.Rows D2
abbrev sRight : Stmt := top 64
def spRenR (C : Addr) : Sp := fun vs H Q _ => ∃ (p q W L : Addr) (bk : Bk) (st : Str) (ws : List Str) (t : Int), vs = [.ref p, .ref q, .ref W, .ref L] ∧ Purse H p t ∧ DeskAt C H q bk st ∧ WorldAt (cut [p] H) W bk st ∧ DOk bk st ∧ SL H L ws ∧ L ≠ p ∧ ws.Nodup ∧ ws.length ≤ 6 ∧ (∀ x ∈ ws, Wd x) ∧ t < 2 ^ 26 ∧
  ∀ (H' : Hp) (t' : Int), But p H H' → Purse H' p t' → t' ≤ t + 400 → Q (.bl true) H'
def spRight : Sp := fun vs H Q _ => ∃ (p W L : Addr) (bk : Bk) (st : Str) (ws : List Str) (t : Int), vs = [.ref p, .ref W, .ref L] ∧ Purse H p t ∧ WorldAt (cut [p] H) W bk st ∧ DOk bk st ∧ SL H L ws ∧ L ≠ p ∧ ws.Nodup ∧ ws.length ≤ 6 ∧ (∀ x ∈ ws, Wd x) ∧ t < 2 ^ 26 ∧
  ∀ (H' : Hp) (t' : Int), But p H H' → Purse H' p t' → t' ≤ t + 400 → Q (.bl true) H'
theorem wordsOf_wd {bk : Bk} {st : Str} {ys : List Str} (h : WordsOf bk ys) (ok : DOk bk st) : ∀ x ∈ ys, Wd x := fun x hx => by
  obtain ⟨r, hr, hx⟩ := (h.mem x).mp hx
  obtain ⟨t, ht, rfl⟩ := List.mem_map.mp hx
  rcases (ok.rs r hr).2.1 with ⟨_, e⟩ | ⟨_, _, _, a⟩
  · rw [e] at ht; cases ht
  · exact (a t ht).1
theorem words_turn (bk : Bk) (x : Str) : (∃ r ∈ turnB bk, x ∈ r.2.2.map (·.1)) ↔ ∃ r ∈ bk, x ∈ r.2.2.map (·.1) := by
  constructor
  · rintro ⟨r, hr, hx⟩
    obtain ⟨r0, h0, rfl⟩ := List.mem_map.mp hr
    exact ⟨r0, h0, hx⟩
  · rintro ⟨r, hr, hx⟩
    exact ⟨_, List.mem_map.mpr ⟨r, hr, rfl⟩, hx⟩
theorem rch_turn {bk : Bk} {st : Str} (ok : DOk bk st) (x : Str) : Rch (turnB bk) st x ↔ Rch bk st x := by
  constructor
  · intro z
    induction z with
    | here => exact .here
    | next _ ht ih =>
      rw [turnB_row ok.nd (ih.mem ok)] at ht
      exact .next ih ht
  · intro z
    induction z with
    | here => exact .here
    | next hs ht ih =>
      refine .next ih ?_
      rw [turnB_row ok.nd (hs.mem ok)]
      exact ht
theorem flip_same {k : Str} {ts : List (Str × Str)} (h : RForm k ts) : decide (V.str (flipK k) = V.str k) = decide (V.str k = V.str "done") := by
  rcases flip_kind h with e | e | e <;> rw [e]
  · rw [decide_eq_false (fun z => absurd (V.str.inj z) (by decide +kernel)), decide_eq_false (fun z => absurd (V.str.inj z) (by decide +kernel))]
  · rw [decide_eq_false (fun z => absurd (V.str.inj z) (by decide +kernel)), decide_eq_false (fun z => absurd (V.str.inj z) (by decide +kernel))]
  · rw [decide_eq_true (congrArg V.str (by decide +kernel)), decide_eq_true rfl]
theorem kT_vals {ts : List (Str × Str)} (nd : (ts.map (·.1)).Nodup) : ∀ p ∈ kT ts, valV (kT ts) p.1 = some p.2 ∧ flatB p.2 = true := fun p hp => by
  obtain ⟨i, hi, e⟩ := List.getElem_of_mem hp
  refine ⟨val_at (i := i) (by rw [kT_keys]; exact inr_nd' nd) (by rw [List.getElem?_eq_getElem hi, e]), ?_⟩
  obtain ⟨t, _, rfl⟩ := List.mem_map.mp hp
  rfl
section
variable {P : Program} {w : World} {K : PySem.W.Frag} {mg : Str → Option Value} {base : Heap} {C : Addr}
abbrev CLDesk (P : Program) (w : World) (K : PySem.W.Frag) (mg : Str → Option Value) (base : Heap) (C : Addr) := Cal P w K mg base "_law_desk" 6 ["_law_world_here"] (spLDesk C)
abbrev CTurned (P : Program) (w : World) (K : PySem.W.Frag) (mg : Str → Option Value) (base : Heap) (C : Addr) := Cal P w K mg base "turned" 6 ["desk"] (spTurned C)
abbrev KTurned (P : Program) (w : World) (K : PySem.W.Frag) (mg : Str → Option Value) (base : Heap) (C : Addr) := CalK P w K mg base "turned" 6 ["desk"] ["desk"] id (spTurned C)
abbrev COther (P : Program) (w : World) (K : PySem.W.Frag) (mg : Str → Option Value) (base : Heap) := Cal P w K mg base "_law_other_kinds" 1 ["_law_world_here"] spOther
abbrev CWordsOf (P : Program) (w : World) (K : PySem.W.Frag) (mg : Str → Option Value) (base : Heap) (C : Addr) := Cal P w K mg base "words_of" 5 ["desk"] (spWordsOf C)
abbrev CTurnsOf (P : Program) (w : World) (K : PySem.W.Frag) (mg : Str → Option Value) (base : Heap) (C : Addr) := Cal P w K mg base "turns_of" 5 ["desk", "state"] (spTurnsOf C)
abbrev CKindOf (P : Program) (w : World) (K : PySem.W.Frag) (mg : Str → Option Value) (base : Heap) (C : Addr) := Cal P w K mg base "kind_of" 5 ["desk", "state"] (spKind C)
abbrev CBegR (P : Program) (w : World) (K : PySem.W.Frag) (mg : Str → Option Value) (base : Heap) (C : Addr) := Cal P w K mg base "_law_begun_right" 9 ["_law_desk_here", "_law_world_here"] (spBegR C)
abbrev CRenR (P : Program) (w : World) (K : PySem.W.Frag) (mg : Str → Option Value) (base : Heap) (C : Addr) := Cal P w K mg base "_law_renamed_right" 10 ["_law_purse_here", "_law_desk_here", "_law_world_here", "_law_words_here"] (spRenR C)
abbrev riN : List Str := ["_law_purse_here", "_law_world_here", "_law_words_here", "_law_desk_here", "_law_other", "_law_state"]
theorem scRi : FnScope riN ["_law_purse_here", "_law_world_here", "_law_words_here"] (defScope sRight) := ⟨rfl, rfl, rfl, by decide +kernel, rfl, by decide +kernel, by decide +kernel⟩
theorem ok_right {f : Addr} {fd : FuncData} (F : Fun K "_law_right" "_law_right" sRight f fd) (CE : CExact P w K mg base 5) (EQ : EqD P w K mg base C) (CM : CMade P w K mg base C) (CD : CDue P w K mg base) (CL : CLDesk P w K mg base C) (CT : CTurned P w K mg base C) (KT : KTurned P w K mg base C) (CO : COther P w K mg base)
    (CW : CWordsOf P w K mg base C) (CC : CComeTo P w K mg base C) (CU : CTurnsOf P w K mg base C) (CK : CKindOf P w K mg base C) (R1 : CTrimR P w K mg base C) (R2 : CBegR P w K mg base C) (R3 : CRenR P w K mg base C) :
    FnOk P w K mg base CX0 11 f fd ["_law_purse_here", "_law_world_here", "_law_words_here"] spRight := by
  refine F.ok scRi (fun vs H Q E h => ?_) (fun cdv A outer s H vs Q E0' hr h => ?_)
  · obtain ⟨p, W, L, bk, st, ws, t, rfl, _⟩ := h; rfl
  · obtain ⟨p, W, L, bk, st, ws, t, rfl, hp, hWc, ok, hL, nLp, nws, lws, aws, t1, k⟩ := h
    have hu := hu_of hr
    refine ⟨_, pss_cons (ps_set (i := 3) scRi.nd rfl (Or.inl rfl) (pe_cal CL (hr.mono (by decide)) rfl (pa_cons (pv 1) pa_nil)))
      (pss_cons (ps_set (i := 4) scRi.nd rfl (Or.inl rfl) (pe_calK KT (hr.mono (by decide)) rfl (pk_cons (pv 3) pk_nil)))
      (pss_cons (ps_if (PW.pt (pw_or (pt_not (pt_val (pe_cal CE (hr.mono (by decide)) rfl (pa_cons (pe_cal CM (hr.mono (by decide)) rfl (pa_cons (pv 4) pa_nil)) (pa_cons (pe_cal CD (hr.mono (by decide)) rfl (pa_cons (pe_cal CO (hr.mono (by decide)) rfl (pa_cons (pv 1) pa_nil)) pa_nil)) pa_nil)))))
          (pw_or1 (pt_cmpR (neD EQ (hr.mono (by decide))) (pe_cal CT (hr.mono (by decide)) rfl (pa_cons (pv 4) pa_nil)) (pv 3) (by rfl))))) (pss_one (ps_ret pe_bl)) pss_nil)
      (pss_cons (ps_if (PW.pt (pw_or (pt_cmpR (op_neD hr.units) (pe_cal CW (hr.mono (by decide)) rfl (pa_cons (pv 4) pa_nil)) (pe_cal CW (hr.mono (by decide)) rfl (pa_cons (pv 3) pa_nil)) (by rfl))
          (pw_or1 (pt_cmpR (op_neD hr.units) (pe_cal CC (hr.mono (by decide)) rfl (pa_cons (pv 4) pa_nil)) (pe_cal CC (hr.mono (by decide)) rfl (pa_cons (pv 3) pa_nil)) (by rfl))))) (pss_one (ps_ret pe_bl)) pss_nil)
      (pss_cons (ps_lock (ps_for PassesOwn.never rfl (pi_keys (pe_ix ix_list (pv 1) pe_int (fun _ _ => rfl))) (pg_name (i := 5) scRi.nd rfl (Or.inl rfl))
        (pss_one (ps_if (PW.pt (pw_or (pt_cmpR (op_ne_dictA (Nat.lt_of_le_of_lt (Nat.le_add_right _ 64) hr.units)) (pe_cal CU (hr.mono (by decide)) rfl (pa_cons (pv 4) (pa_cons (pv 5) pa_nil))) (pe_cal CU (hr.mono (by decide)) rfl (pa_cons (pv 3) (pa_cons (pv 5) pa_nil))) (by rfl))
          (pw_or1 (pt_cmpR op_ne (pe_cmpR op_eq (pe_cal CK (hr.mono (by decide)) rfl (pa_cons (pv 4) (pa_cons (pv 5) pa_nil))) (pe_cal CK (hr.mono (by decide)) rfl (pa_cons (pv 3) (pa_cons (pv 5) pa_nil))) (by rfl)) (pe_cmpR op_eq (pe_cal CK (hr.mono (by decide)) rfl (pa_cons (pv 3) (pa_cons (pv 5) pa_nil))) pe_str (by rfl)) (by rfl))))) (pss_one (ps_ret pe_bl)) pss_nil))))
      (pss_cons (ps_if (PW.pt (pw_or (pt_not (pt_val (pe_cal R1 (hr.mono (by decide)) rfl (pa_cons (pv 3) (pa_cons (pv 1) pa_nil))))) (pw_or (pt_not (pt_val (pe_cal R2 (hr.mono (by decide)) rfl (pa_cons (pv 3) (pa_cons (pv 1) pa_nil))))) (pw_or1 (pt_not (pt_val (pe_cal R3 (hr.mono (by decide)) rfl (pa_cons (pv 0) (pa_cons (pv 3) (pa_cons (pv 1) (pa_cons (pv 2) pa_nil))))))))))) (pss_one (ps_ret pe_bl)) pss_nil)
      (pss_one (ps_ret (pe_cal CE (hr.mono (by decide)) rfl (pa_cons (pe_cal CM (hr.mono (by decide)) rfl (pa_cons (pv 3) pa_nil)) (pa_cons (pe_cal CD (hr.mono (by decide)) rfl (pa_cons (pv 1) pa_nil)) pa_nil)))))))))), ?_⟩
    obtain ⟨b, hWc2, ⟨kvs, hbc, hRc⟩⟩ := id hWc
    have nWp : W ≠ p := fun e => by rw [e, cut, if_pos (by simp)] at hWc2; cases hWc2
    have hWp : WorldAt H W bk st := by
      obtain ⟨b, e, kv, e2, r⟩ := hWc
      exact ⟨b, cut_le _ _ e, kv, cut_le _ _ e2, r.same cut_le⟩
    refine ⟨_, rfl, W, bk, st, rfl, hWp, ok, fun H1 q s1 nq hq => ?_⟩
    refine ⟨_, rfl, q, bk, st, rfl, hq, ok, fun H2 o s2 no ho _ => ?_⟩
    have okT := ok.turn
    have s02 := Same.trans s1 s2
    have hq2 := hq.same s2
    refine ⟨_, rfl, o, turnB bk, st, rfl, ho, okT, fun H3 R3 s3 nR3 hR3 => ?_⟩
    have s03 := Same.trans s02 s3
    refine ⟨_, rfl, W, bk, st, rfl, hWp.same s03, ok, fun H4 W4 s4 nW4 hW4 => ?_⟩
    refine ⟨W4, turnB bk, st, rfl, hW4.r, okT.bok, fun H5 R5 s5 nR5 hR5 => ?_⟩
    have s35 := Same.trans s4 s5
    refine ⟨_, _, rfl, eqx_world (hR3.same s35) hR5 okT.obok (ordB_ne okT.ne), fun H6 s6 => ⟨_, rfl, iteF ?_⟩⟩
    have s26 := Same.trans (Same.trans s3 s35) s6
    have ho6 := ho.same s26
    have hq6 := hq2.same s26
    refine ⟨_, rfl, o, turnB bk, st, rfl, ho6, okT, fun H7 R7 s7 nR7 hR7 _ => ?_⟩
    refine ⟨_, rfl, rEqB_of ⟨_, bk, st, st, hR7, hq6.same s7, ordB_turn2 ok, okT.turn, (decide_eq_true rfl).symm⟩ ⟨_, rfl, iteF ?_⟩⟩
    have ho7 := ho6.same s7
    have hq7 := hq6.same s7
    refine ⟨_, rfl, o, turnB bk, st, rfl, ho7, okT, fun H8 R8 ys8 s8 nR8 hR8 w8 => ?_⟩
    refine ⟨_, rfl, q, bk, st, rfl, hq7.same s8, ok, fun H9 R9 ys9 s9 nR9 hR9 w9 => ?_⟩
    obtain rfl : ys9 = ys8 := (w8.one w9 (words_turn bk)).symm
    have ww := wordsOf_wd w9 ok
    refine ⟨_, _, dp_words (hR8.same s9), dp_words hR9, sh_words ww, sh_words ww, ?_⟩
    rw [eq_words ww]
    refine ⟨_, rfl, iteF ?_⟩
    have s79 := Same.trans s8 s9
    have ho9 := ho7.same s79
    have hq9 := hq7.same s79
    refine ⟨_, rfl, o, turnB bk, st, rfl, ho9, okT, fun H10 R10 y10 s10 nR10 hR10 c10 => ?_⟩
    refine ⟨_, rfl, q, bk, st, rfl, hq9.same s10, ok, fun H11 R11 y11 s11 nR11 hR11 c11 => ?_⟩
    obtain rfl : y11 = y10 := (c10.one c11 (rch_turn ok)).symm
    have wc := c11.wd ok
    refine ⟨_, _, dp_words (hR10.same s11), dp_words hR11, sh_words wc, sh_words wc, ?_⟩
    rw [eq_words wc]
    refine ⟨_, rfl, iteF ?_⟩
    have s911 := Same.trans s10 s11
    have ho11 := ho9.same s911
    have hq11 := hq9.same s911
    have s011 : Same H H11 := Same.trans (Same.trans (Same.trans (Same.trans s02 s26) s7) s79) s911
    clear hR10 hR11 hR8 hR9 hR7 hR5 hW4 hR3 ho9 hq9 ho7 hq7 ho6 hq6 hq2 ho hq
    have hW11 := cut_le _ _ hWc2
    have hW11 := s011 _ _ hW11
    have hb11 := s011 _ _ (cut_le _ _ hbc)
    have hRw : Rows H11 kvs bk := (hRc.same cut_le).same s011
    refine ⟨b, _, hb11, trivial, fun od => ?_⟩
    have hqL := hq11.lock (od := od) hb11 hRw ok.ne
    have hoL := ho11.lock (od := od) hb11 hRw ok.ne
    have nWb : W ≠ b := fun e => by rw [e, hb11] at hW11; cases hW11
    have hWL : (L2.upd H11 b (.frz od (.dK kvs))) W = some (.lst [.ref b, .str st]) := by rw [upd_ne nWb]; exact hW11
    refine ⟨_, rfl, W, _, _, _, rfl, rfl, SqL.of hWL, atI_nat (j := 0) rfl, b, od, rfl, .inl ⟨kvs, upd_same, ?_⟩⟩
    refine for_it (walk_keys (d := b) (o := od) (kvs := kvs)) (fun i σ H' => ∃ v5 : Option V, σ = [some (.ref p), some (.ref W), some (.ref L), some (.ref q), some (.ref o), v5] ∧ Same (L2.upd H11 b (.frz od (.dK kvs))) H') ⟨none, rfl, Same.refl _⟩ (fun i σ H' _ ⟨_, _, z⟩ => z _ _ upd_same) ?_ ?_
    · rintro i x σ H12 H13 hi ⟨v5, rfl, sm⟩ ⟨rfl, kk, v0, hkv, rfl⟩
      obtain ⟨r, hr', rfl, _⟩ := hRw.at hkv
      have hs : r.1 ∈ bk.map (·.1) := List.mem_map_of_mem (List.mem_of_getElem? hr')
      generalize r.1 = s0 at hs
      have hsT : s0 ∈ (turnB bk).map (·.1) := by rw [turnB_names]; exact hs
      have tr := turnB_row ok.nd hs
      have fm := (ok.rs _ (row_mem hs)).2.1
      have tk := ordT_nd (ok.tk _ (row_mem hs))
      refine ⟨_, rfl, _, rfl, o, turnB bk, st, s0, rfl, hoL.same sm, okT, hsT, fun H14 R14 s14 hR14 => ?_⟩
      have m14 := Same.trans sm s14
      refine ⟨_, rfl, _, rfl, q, bk, st, s0, rfl, hqL.same m14, ok, hs, fun H15 R15 s15 hR15 => ?_⟩
      rw [tr] at hR14
      have m15 := Same.trans m14 s15
      refine ⟨R14, R15, _, _, rfl, rfl, hR14.same s15, hR15, rfl, kT_vals tk, _, rfl, iteF ?_⟩
      refine ⟨_, rfl, _, rfl, o, turnB bk, st, s0, rfl, hoL.same m15, okT, hsT, fun H16 s16 => ?_⟩
      have m16 := Same.trans m15 s16
      rw [tr]
      refine ⟨_, rfl, _, rfl, q, bk, st, s0, rfl, hqL.same m16, ok, hs, fun H17 s17 => ?_⟩
      have m17 := Same.trans m16 s17
      refine ⟨rfl, _, rfl, _, rfl, q, bk, st, s0, rfl, hqL.same m17, ok, hs, fun H18 s18 => ?_⟩
      refine ⟨rfl, rfl, _, rfl, ?_⟩
      have fs := flip_same fm
      refine ite2 (fun c => absurd c (by rw [fs]; simp)) (fun _ => ⟨_, rfl, Same.trans m17 s18⟩)
    · rintro σ H12 ⟨v5, rfl, sm⟩
      have s1112 := Same.unlock hb11 sm
      refine ⟨sm _ _ upd_same, ?_⟩
      generalize L2.upd H12 b (.dK kvs) = H13 at s1112
      have s013 := Same.trans s011 s1112
      have hq13 := hq11.same s1112
      have hW13 := hWp.same s013
      refine ⟨_, rfl, _, rfl, q, W, bk, st, rfl, hq13, hW13.r, ok, fun H14 s14 => ⟨_, rfl, iteF ?_⟩⟩
      have hq14 := hq13.same s14
      have s014 := Same.trans s013 s14
      refine ⟨_, rfl, _, rfl, q, W, bk, st, rfl, hq14, hWp.same s014, ok, fun H15 s15 => ⟨_, rfl, iteF ?_⟩⟩
      have s015 := Same.trans s014 s15
      have hq15 := hq14.same s15
      have hp15 := hp.same s015
      refine ⟨_, rfl, _, rfl, _, rfl, _, rfl, p, q, W, L, bk, st, ws, t, rfl, hp15, hq15, hWc.same (cut_same s015), ok, hL.same s015, nLp, nws, lws, aws, t1, fun H16 t16 b16 hp16 tt16 => ⟨_, rfl, iteF ?_⟩⟩
      obtain ⟨g, bb, z, ep, _⟩ := id hp15
      have hq16 := hq15.but b16 ep
      have hW16 : WorldAt H16 W bk st := by
        obtain ⟨b, e, h2⟩ := hWp.same s015
        exact ⟨b, b16 _ _ nWp e, h2.but b16 ep⟩
      have b016 : But p H H16 := (But.of s015).trans b16
      refine ⟨_, rfl, q, bk, st, rfl, hq16, ok, fun H17 R17 s17 nR17 hR17 => ?_⟩
      refine ⟨_, rfl, W, bk, st, rfl, (hW16.same s17).r, ok.bok, fun H18 R18 s18 nR18 hR18 => ?_⟩
      refine ⟨_, _, rfl, eqx_world (hR17.same s18) hR18 ok.obok (ordB_ne ok.ne), fun H19 s19 => ?_⟩
      have s1619 := Same.trans (Same.trans s17 s18) s19
      exact k H19 t16 (b016.trans (But.of s1619)) (hp16.same s1619) tt16
end
end D1
end L2
/-! what renaming does to books -/
namespace L2
namespace D1
open PySem PySem.Spec PyProof.Rows D2 X3
theorem renT_congr {nm nm' ts : List (Str × Str)} (h : ∀ t ∈ ts, goalT nm t.2 = goalT nm' t.2) : renT nm ts = renT nm' ts := List.map_congr_left fun t ht => by rw [h t ht]
theorem renB_congr {nm nm' : List (Str × Str)} {bk : Bk} (h1 : ∀ s ∈ bk.map (·.1), goalT nm s = goalT nm' s) (h2 : ∀ r ∈ bk, ∀ t ∈ r.2.2, t.2 ∈ bk.map (·.1)) : renB nm bk = renB nm' bk :=
  List.map_congr_left fun r hr => by rw [h1 r.1 (List.mem_map_of_mem hr), renT_congr fun t ht => h1 t.2 (h2 r hr t ht)]
theorem turn_ren (nm : List (Str × Str)) (bk : Bk) : turnB (renB nm bk) = renB nm (turnB bk) := by
  rw [turnB, renB, renB, turnB, List.map_map, List.map_map]; rfl
theorem NamesOk.turn {nm : List (Str × Str)} {bk : Bk} (h : NamesOk bk nm) : NamesOk (turnB bk) nm :=
  ⟨h.nd, by rw [turnB, List.length_map]; exact h.len, fun s hs => h.cov s (by rw [turnB_names] at hs; exact hs), h.wd, h.un⟩
/-- the same names, told in another order -/
def listed (nm : List (Str × Str)) (ss : List Str) : List (Str × Str) := ss.map fun s => (s, goalT nm s)
theorem listed_keys (nm : List (Str × Str)) (ss : List Str) : (listed nm ss).map (·.1) = ss := by rw [listed, List.map_map]; exact List.map_id'' (fun _ => rfl) _
theorem listed_goal {nm : List (Str × Str)} {ss : List Str} (nd : ss.Nodup) {s : Str} (h : s ∈ ss) : goalT (listed nm ss) s = goalT nm s := by
  have := goalT_at (ts := listed nm ss) (by rw [listed_keys]; exact nd) (t := (s, goalT nm s)) (List.mem_map.mpr ⟨s, h, rfl⟩)
  exact this
theorem NamesOk.listed {nm : List (Str × Str)} {bk bk' : Bk} (h : NamesOk bk nm) {ss : List Str} (nd : ss.Nodup) (l : ss.length = bk'.length) (cov : ∀ s ∈ bk'.map (·.1), s ∈ ss) (sub : ∀ s ∈ ss, s ∈ nm.map (·.1)) : NamesOk bk' (listed nm ss) := by
  refine ⟨by rw [listed_keys]; exact nd, by rw [D1.listed, List.length_map]; exact l, fun s hs => by rw [listed_keys]; exact cov s hs, fun t ht => ?_, ?_⟩
  · obtain ⟨s, hs, rfl⟩ := List.mem_map.mp ht
    exact h.wd _ (goal_mem (sub s hs))
  · rw [D1.listed, List.map_map]
    exact map_nd nd fun x hx y hy e => goal_inj h.un (sub x hx) (sub y hy) e
/-- the way back -/
def backN (nm : List (Str × Str)) : List (Str × Str) := nm.map fun t => (t.2, t.1)
theorem backN_goal {nm : List (Str × Str)} (un : (nm.map (·.2)).Nodup) {s : Str} (h : s ∈ nm.map (·.1)) : goalT (backN nm) (goalT nm s) = s := by
  have := goalT_at (ts := backN nm) (by rw [backN, List.map_map]; exact un) (t := (goalT nm s, s)) (List.mem_map.mpr ⟨_, goal_mem h, rfl⟩)
  exact this
theorem NamesOk.back {nm : List (Str × Str)} {bk : Bk} {st : Str} (ok : DOk bk st) (h : NamesOk bk nm) : NamesOk (renB nm bk) (backN nm) := by
  have sub : ∀ s ∈ nm.map (·.1), s ∈ bk.map (·.1) := fun s hs => by
    have e : (bk.map (·.1)).Perm (nm.map (·.1)) := (perm_of_nodup ok.nd h.cov (by rw [List.length_map, List.length_map]; exact h.len)).symm
    exact e.mem_iff.mpr hs
  refine ⟨by rw [backN, List.map_map]; exact h.un, by rw [backN, renB, List.length_map, List.length_map]; exact h.len, fun s hs => ?_, fun t ht => ?_, by rw [backN, List.map_map]; exact h.nd⟩
  · rw [renB_names] at hs
    obtain ⟨x, hx, rfl⟩ := List.mem_map.mp hs
    rw [backN, List.map_map]
    exact List.mem_map.mpr ⟨_, goal_mem (h.cov x hx), rfl⟩
  · obtain ⟨u, hu, rfl⟩ := List.mem_map.mp ht
    have := sub u.1 (List.mem_map_of_mem hu)
    exact (ok.rs _ (row_mem this)).1
theorem ren_id {nm : List (Str × Str)} {bk : Bk} (h1 : ∀ s ∈ bk.map (·.1), goalT nm s = s) (h2 : ∀ r ∈ bk, ∀ t ∈ r.2.2, t.2 ∈ bk.map (·.1)) : renB nm bk = bk := by
  have e : ∀ r ∈ bk, (goalT nm r.1, r.2.1, renT nm r.2.2) = r := fun r hr => by
    have e2 : renT nm r.2.2 = r.2.2 := by
      rw [renT, List.map_congr_left (g := id) fun t ht => by rw [h1 t.2 (h2 r hr t ht)]; rfl, List.map_id]
    rw [h1 r.1 (List.mem_map_of_mem hr), e2]
  rw [renB, List.map_congr_left (g := id) fun r hr => e r hr, List.map_id]
theorem ren_back {nm : List (Str × Str)} {bk : Bk} {st : Str} (ok : DOk bk st) (h : NamesOk bk nm) : renB (backN nm) (renB nm bk) = bk := by
  have g : ∀ s ∈ bk.map (·.1), goalT (backN nm) (goalT nm s) = s := fun s hs => backN_goal h.un (h.cov s hs)
  have e : ∀ r ∈ bk, (goalT (backN nm) (goalT nm r.1), r.2.1, renT (backN nm) (renT nm r.2.2)) = r := fun r hr => by
    have e2 : renT (backN nm) (renT nm r.2.2) = r.2.2 := by
      rw [renT, renT, List.map_map, List.map_congr_left (g := id) fun t ht => by
        show (t.1, goalT (backN nm) (goalT nm t.2)) = t
        rw [g t.2 ((ok.rs r hr).2.2 t ht)], List.map_id]
    rw [g r.1 (List.mem_map_of_mem hr), e2]
  show (bk.map fun r => (goalT nm r.1, r.2.1, renT nm r.2.2)).map (fun r => (goalT (backN nm) r.1, r.2.1, renT (backN nm) r.2.2)) = bk
  rw [List.map_map]
  refine (List.map_congr_left (g := id) fun r hr => e r hr).trans (List.map_id _)
/-! ### ways and what is come to -/
theorem renT_mem {nm ts : List (Str × Str)} {u : Str × Str} : u ∈ renT nm ts ↔ ∃ t ∈ ts, u = (t.1, goalT nm t.2) := by
  rw [renT, List.mem_map]
  exact ⟨fun ⟨t, a, b⟩ => ⟨t, a, b.symm⟩, fun ⟨t, a, b⟩ => ⟨t, a, b.symm⟩⟩
theorem rch_ren {nm : List (Str × Str)} {bk : Bk} {st : Str} (ok : DOk bk st) (h : NamesOk bk nm) (y : Str) : Rch (renB nm bk) (goalT nm st) y ↔ ∃ x, Rch bk st x ∧ y = goalT nm x := by
  constructor
  · intro z
    induction z with
    | here => exact ⟨st, .here, rfl⟩
    | next _ ht ih =>
      obtain ⟨x, hx, rfl⟩ := ih
      rw [renB_row h ok.nd (hx.mem ok)] at ht
      obtain ⟨t, h1, rfl⟩ := renT_mem.mp ht
      exact ⟨t.2, .next hx h1, rfl⟩
  · rintro ⟨x, hx, rfl⟩
    induction hx with
    | here => exact .here
    | @next s t hs ht ih =>
      have : (t.1, goalT nm t.2) ∈ (rowOf (renB nm bk) (goalT nm s)).2 := by
        rw [renB_row h ok.nd (hs.mem ok)]
        exact renT_mem.mpr ⟨t, ht, rfl⟩
      exact .next ih this
theorem come_ren {nm : List (Str × Str)} {bk : Bk} {st : Str} {ys zs : List Str} (ok : DOk bk st) (h : NamesOk bk nm) (c : Come bk st ys) (d : Come (renB nm bk) (goalT nm st) zs) : zs.Perm (ys.map (goalT nm)) := by
  have nd : (ys.map (goalT nm)).Nodup := map_nd c.nd fun x hx y hy e => goal_inj h.un (h.cov x (((c.mem x).mp hx).mem ok)) (h.cov y (((c.mem y).mp hy).mem ok)) e
  have mem : ∀ y, y ∈ zs ↔ y ∈ ys.map (goalT nm) := fun y => by
    rw [d.mem y, rch_ren ok h y, List.mem_map]
    exact ⟨fun ⟨x, a, b⟩ => ⟨x, (c.mem x).mpr a, b.symm⟩, fun ⟨x, a, b⟩ => ⟨x, (c.mem x).mp a, b.symm⟩⟩
  refine perm_of_nodup nd (fun x hx => (mem x).mpr hx) ?_
  have a := pigeon zs _ d.nd fun x hx => (mem x).mp hx
  have b := pigeon _ zs nd fun x hx => (mem x).mpr hx
  omega
theorem trim_ren {nm : List (Str × Str)} {bk : Bk} {st : Str} {ys zs : List Str} (ok : DOk bk st) (h : NamesOk bk nm) (c : Come bk st ys) (d : Come (renB nm bk) (goalT nm st) zs) : ordB (subB (renB nm bk) zs) = ordB (renB (listed nm ys) (subB bk ys)) := by
  have hm : ∀ x ∈ ys, x ∈ bk.map (·.1) := fun x hx => ((c.mem x).mp hx).mem ok
  have pm := come_ren ok h c d
  have okS := c.sub ok
  have e0 : renB (listed nm ys) (subB bk ys) = renB nm (subB bk ys) := renB_congr (fun s hs => by rw [subB_names] at hs; exact listed_goal c.nd hs) fun r hr t ht => (okS.rs r hr).2.2 t ht
  rw [e0]
  refine ordB_eq (by rw [subB_names, renB_names, subB_names]; exact pm) fun s hs => ?_
  rw [subB_names] at hs
  obtain ⟨x, hx, rfl⟩ := List.mem_map.mp (pm.mem_iff.mp hs)
  have nS : ((renB nm (subB bk ys)).map (·.1)).Nodup := by
    rw [renB_names, subB_names]
    exact map_nd c.nd fun x hx y hy e => goal_inj h.un (h.cov x (hm x hx)) (h.cov y (hm y hy)) e
  have e2 := rowOf_self nS (r := (goalT nm x, (rowOf bk x).1, renT nm (rowOf bk x).2)) (List.mem_map.mpr ⟨(x, rowOf bk x), List.mem_map.mpr ⟨x, hx, rfl⟩, rfl⟩)
  have e2 : rowOf (renB nm (subB bk ys)) (goalT nm x) = ((rowOf bk x).1, renT nm (rowOf bk x).2) := e2
  rw [subB_row d.nd hs, renB_row h ok.nd (hm x hx), e2]
  exact ⟨rfl, rfl⟩
theorem next_ren {nm ts : List (Str × Str)} {w : Str} : nextT (renT nm ts) w = (nextT ts w).map (goalT nm) := by
  induction ts with
  | nil => rfl
  | cons t r ih =>
    by_cases e : t.1 = w
    · have a : nextT (t :: r) w = some t.2 := by rw [nextT, List.find?_cons, decide_eq_true e]; rfl
      have b : nextT (renT nm (t :: r)) w = some (goalT nm t.2) := by rw [nextT, renT, List.map_cons, List.find?_cons, decide_eq_true e]; rfl
      rw [a, b]; rfl
    · have a : nextT (t :: r) w = nextT r w := by rw [nextT, List.find?_cons, decide_eq_false e]; rfl
      have b : nextT (renT nm (t :: r)) w = nextT (renT nm r) w := by rw [nextT, renT, List.map_cons, List.find?_cons, decide_eq_false e]; rfl
      rw [a, b, ih]
theorem walk_ren {nm : List (Str × Str)} {bk : Bk} {st0 : Str} (ok : DOk bk st0) (h : NamesOk bk nm) : ∀ {way : List Str} {s : Str}, s ∈ bk.map (·.1) → walkB (renB nm bk) (goalT nm s) way = (walkB bk s way).map (goalT nm)
  | [], s, _ => rfl
  | x :: r, s, hs => by
    rw [walkB, walkB, renB_row h ok.nd hs, next_ren]
    cases e : nextT (rowOf bk s).2 x with
    | none => rfl
    | some g =>
      obtain ⟨t, ht, _, e3⟩ := nextT_mem e
      exact walk_ren ok h (by rw [← e3]; exact (ok.rs _ (row_mem hs)).2.2 t ht)
end D1
end L2
/-! the law looks at renamed desks -/
namespace L2
namespace D1
open PySem PySem.Spec PyProof.Rows D2 X3
abbrev sRenR : Stmt := top 62
theorem same_written {H H' : Hp} {a : Addr} {o : HO} (s : Same H H') (n : H a = none) : Same H (L2.upd H' a o) := fun c u e => by rw [upd_ne (ne_of_none e n)]; exact s _ _ e
theorem new_written {H H' : Hp} {a : Addr} {u o : HO} (k : H a = some u) : Same (newH H H') (L2.upd H' a o) := fun c v e => by
  obtain ⟨n, e⟩ := new_some e
  rw [upd_ne (fun z => by rw [z, k] at n; cases n)]; exact e
theorem DeskN.written {C : Addr} {H H1 H' : Hp} {q a : Addr} {u o : HO} {bk : Bk} {st : Str} (h : DeskN C H H1 q bk st) (nq : H q = none) (s : Same H1 H') (k : H a = some u) : DeskAt C (L2.upd H' a o) q bk st := by
  obtain ⟨dx, b, e, r⟩ := h
  exact ⟨dx, b, by rw [upd_ne (fun z => by rw [z, k] at nq; cases nq)]; exact s _ _ e, r.same (Same.trans (new_same s) (new_written k))⟩
theorem WorldN.written {H H1 H' : Hp} {R a : Addr} {u o : HO} {bk : Bk} {st : Str} (h : WorldN H H1 R bk st) (nR : H R = none) (s : Same H1 H') (k : H a = some u) : WorldAt (L2.upd H' a o) R bk st := by
  obtain ⟨b, e, r⟩ := h
  exact ⟨b, by rw [upd_ne (fun z => by rw [z, k] at nR; cases nR)]; exact s _ _ e, r.same (Same.trans (new_same s) (new_written k))⟩
theorem NamesOk.sub {nm : List (Str × Str)} {bk : Bk} {st : Str} (ok : DOk bk st) (h : NamesOk bk nm) : ∀ s ∈ nm.map (·.1), s ∈ bk.map (·.1) := fun s hs => by
  have e : (bk.map (·.1)).Perm (nm.map (·.1)) := (perm_of_nodup ok.nd h.cov (by rw [List.length_map, List.length_map]; exact h.len)).symm
  exact e.mem_iff.mpr hs
theorem NamesOk.wds {nm : List (Str × Str)} {bk : Bk} {st : Str} (ok : DOk bk st) (h : NamesOk bk nm) : ∀ t ∈ nm, Wd t.1 ∧ Wd t.2 := fun t ht => ⟨(ok.rs _ (row_mem (h.sub ok t.1 (List.mem_map_of_mem ht)))).1, h.wd t ht⟩
theorem kT_paired {H : Hp} : ∀ {ps : List (Str × Str)} {as : List Addr}, Paired (fun (t : Addr) (q : Key × V) => H t = some (.tup [kV q.1, q.2])) as (kT ps) → Paired (fun (t : Addr) (p : Str × Str) => H t = some (.tup [.str p.1, .str p.2])) as ps
  | [], _, h => by
    have h : Paired _ _ ([] : List (Key × V)) := h
    cases h; exact .nil
  | p :: r, _, h => by
    have h : Paired _ _ ((Sum.inr p.1, V.str p.2) :: kT r) := h
    cases h with
    | cons e h => exact .cons e (kT_paired h)
/-- the own names -/
def ownN (bk : Bk) : List (Str × Str) := bk.map fun r => (r.1, r.1)
theorem ownN_keys (bk : Bk) : (ownN bk).map (·.1) = bk.map (·.1) := by rw [ownN, List.map_map]; rfl
theorem ownN_goal {bk : Bk} (nd : (bk.map (·.1)).Nodup) {s : Str} (h : s ∈ bk.map (·.1)) : goalT (ownN bk) s = s := by
  obtain ⟨r, hr, rfl⟩ := List.mem_map.mp h
  exact goalT_at (ts := ownN bk) (by rw [ownN_keys]; exact nd) (t := (r.1, r.1)) (List.mem_map.mpr ⟨r, hr, rfl⟩)
theorem ownN_ok {bk : Bk} {st : Str} (ok : DOk bk st) : NamesOk bk (ownN bk) := by
  refine ⟨by rw [ownN_keys]; exact ok.nd, by rw [ownN, List.length_map], fun s hs => by rw [ownN_keys]; exact hs, fun t ht => ?_, by rw [ownN, List.map_map]; exact ok.nd⟩
  obtain ⟨r, hr, rfl⟩ := List.mem_map.mp ht
  exact (ok.rs r hr).1
section
variable {P : Program} {w : World} {K : PySem.W.Frag} {mg : Str → Option Value} {base : Heap} {C : Addr}
abbrev CNames (P : Program) (w : World) (K : PySem.W.Frag) (mg : Str → Option Value) (base : Heap) := Cal P w K mg base "_law_names" 4 ["_law_purse_here", "_law_world_here", "_law_words_here"] spNames
abbrev CNamed (P : Program) (w : World) (K : PySem.W.Frag) (mg : Str → Option Value) (base : Heap) := Cal P w K mg base "_law_named" 1 ["_law_world_here", "_law_names_here"] spNamed
abbrev CRenamed (P : Program) (w : World) (K : PySem.W.Frag) (mg : Str → Option Value) (base : Heap) (C : Addr) := Cal P w K mg base "renamed" 6 ["desk", "names"] (spRenamed C)
abbrev KRenamed (P : Program) (w : World) (K : PySem.W.Frag) (mg : Str → Option Value) (base : Heap) (C : Addr) := CalK P w K mg base "renamed" 6 ["desk", "names"] ["names", "desk"] List.reverse (spRenamed C)
abbrev CTalks (P : Program) (w : World) (K : PySem.W.Frag) (mg : Str → Option Value) (base : Heap) := Cal P w K mg base "_law_talks" 1 ["_law_words_here", "_law_size"] spTalks
abbrev CBehind (P : Program) (w : World) (K : PySem.W.Frag) (mg : Str → Option Value) (base : Heap) := Cal P w K mg base "_law_behind" 1 ["_law_world_here", "_law_talk"] spBehind
abbrev rrN : List Str := ["_law_purse_here", "_law_desk_here", "_law_world_here", "_law_words_here", "_law_names_here", "_law_handed", "_law_back", "_law_state", "_law_before", "_law_made_here", "_law_due_here", "_law_talk", "_law_one", "_law_other", "_law_own", "_law_some"]
theorem scRr2 : FnScope rrN ["_law_purse_here", "_law_desk_here", "_law_world_here", "_law_words_here"] (defScope sRenR) := ⟨rfl, rfl, rfl, by decide +kernel, rfl, by decide +kernel, by decide +kernel⟩
theorem ok_renr {f : Addr} {fd : FuncData} (F : Fun K "_law_renamed_right" "_law_renamed_right" sRenR f fd) (T : Free3 mg) (CE : CExact P w K mg base 5) (EQ : EqD P w K mg base C) (CS : CShuf P w K mg base) (CN : CNames P w K mg base) (CA : CNamed P w K mg base) (CR : CRenamed P w K mg base C) (KR : KRenamed P w K mg base C) (CM : CMade P w K mg base C) (CD : CDue P w K mg base)
    (CT : CTalks P w K mg base) (CB : CBehind P w K mg base) (CU : CTurned P w K mg base C) (CX : CTrimmed P w K mg base C) (CC : CComeTo P w K mg base C) :
    FnOk P w K mg base CX0 10 f fd ["_law_purse_here", "_law_desk_here", "_law_world_here", "_law_words_here"] (spRenR C) := by
  refine F.ok scRr2 (fun vs H Q E h => ?_) (fun cdv A outer s H vs Q E0' hr h => ?_)
  · obtain ⟨p, q, W, L, bk, st, ws, t, rfl, _⟩ := h; rfl
  · obtain ⟨p, q, W, L, bk, st, ws, t, rfl, hp, hq, hWc, ok, hL, nLp, nws, lws, aws, t1, k⟩ := h
    have hu := hu_of hr
    refine ⟨_, pss_cons (ps_set (i := 4) scRr2.nd rfl (Or.inr rfl) (pe_cal CN (hr.mono (by decide)) rfl (pa_cons (pv 0) (pa_cons (pv 2) (pa_cons (pv 3) pa_nil)))))
      (pss_cons (ps_par (i := 5) (j := 6) rfl scRr2.nd rfl rfl (by decide) rfl rfl (pa_cons (pe_callTy (call_dictP rfl) (by rfl) T.dict (by decide +kernel) (pa_cons (pe_lc (own := [("_law_state", 7)]) (g := gName 7) (tt := tYes) (te := tTup (tCons (tVar 7) (tCons (tDGet (tVar 4) (tVar 7)) tNil))) rfl scRr2.nd
            (pi_list (pe_cal CS (hr.mono (by decide)) rfl (pa_cons (pv 0) (pa_cons (pe_callB (call_sortedD rfl) (by rfl) T.sorted (by decide +kernel) (pa_cons (pv 4) pa_nil)) pa_nil))))
            (blkOk_by (N := rrN) (sc := defScope sRenR) (by decide +kernel)) (fun _ _ _ _ _ => pg_name (i := 7) scRr2.nd rfl (Or.inl rfl)) (fun _ _ _ _ _ => pts_nil) (fun _ _ _ _ _ => pe_tup (pa_cons (pv 7) (pa_cons (pe_dget hu (pv 4) (pv 7) (fun _ _ => rfl)) pa_nil)))) pa_nil))
          (pa_cons (pe_callTy (call_dictP rfl) (by rfl) T.dict (by decide +kernel) (pa_cons (pe_lock (pe_lc (own := [("_law_state", 7)]) (g := gName 7) (tt := tYes) (te := tTup (tCons (tDGet (tVar 4) (tVar 7)) (tCons (tVar 7) tNil))) rfl scRr2.nd
            (pi_keys (pv 4))
            (blkOk_by (N := rrN) (sc := defScope sRenR) (by decide +kernel)) (fun _ _ _ _ _ => pg_name (i := 7) scRr2.nd rfl (Or.inl rfl)) (fun _ _ _ _ _ => pts_nil) (fun _ _ _ _ _ => pe_tup (pa_cons (pe_dget hu (pv 4) (pv 7) (fun _ _ => rfl)) (pa_cons (pv 7) pa_nil))))) pa_nil)) pa_nil)) (by rfl))
      (pss_cons (ps_set (i := 8) scRr2.nd rfl (Or.inl rfl) (LiI.pe_listItems rfl (pv 5) (by rfl) T.list (by decide +kernel)))
      (pss_cons (ps_par (i := 9) (j := 10) rfl scRr2.nd rfl rfl (by decide) rfl rfl (pa_cons (pe_cal CR (hr.mono (by decide)) rfl (pa_cons (pv 1) (pa_cons (pv 5) pa_nil))) (pa_cons (pe_cal CA (hr.mono (by decide)) rfl (pa_cons (pv 2) (pa_cons (pv 4) pa_nil))) pa_nil)) (by rfl))
      (pss_cons (ps_if (PW.pt (pw_or (pt_cmpR (op_neD hr.units) (LiI.pe_listItems rfl (pv 5) (by rfl) T.list (by decide +kernel)) (pv 8) (by rfl)) (pw_or1 (pt_not (pt_val (pe_cal CE (hr.mono (by decide)) rfl (pa_cons (pe_cal CM (hr.mono (by decide)) rfl (pa_cons (pv 9) pa_nil)) (pa_cons (pe_cal CD (hr.mono (by decide)) rfl (pa_cons (pv 10) pa_nil)) pa_nil)))))))) (pss_one (ps_ret pe_bl)) pss_nil)
      (pss_cons (ps_expr (pe_dclear (pv 5)))
      (pss_cons (ps_if (PW.pt (pw_or (pt_not (pt_val (pe_cal CE (hr.mono (by decide)) rfl (pa_cons (pe_cal CM (hr.mono (by decide)) rfl (pa_cons (pv 9) pa_nil)) (pa_cons (pe_cal CD (hr.mono (by decide)) rfl (pa_cons (pv 10) pa_nil)) pa_nil))))) (pw_or1 (pt_cmpR (neD EQ (hr.mono (by decide))) (pe_calK KR (hr.mono (by decide)) rfl (pk_cons (pv 6) (pk_cons (pv 9) pk_nil))) (pv 1) (by rfl))))) (pss_one (ps_ret pe_bl)) pss_nil)
      (pss_cons (ps_for PassesOwn.never rfl (pi_list (pe_cal CT (hr.mono (by decide)) rfl (pa_cons (pe_slice sl_list (pv 3) po_none (po_some pe_int)) (pa_cons pe_int pa_nil)))) (pg_name (i := 11) scRr2.nd rfl (Or.inl rfl))
        (pss_cons (ps_par (i := 12) (j := 13) rfl scRr2.nd rfl rfl (by decide) rfl rfl (pa_cons (pe_cal CB (hr.mono (by decide)) rfl (pa_cons (pv 2) (pa_cons (pv 11) pa_nil))) (pa_cons (pe_cal CB (hr.mono (by decide)) rfl (pa_cons (pv 10) (pa_cons (pv 11) pa_nil))) pa_nil)) (by rfl))
        (pss_one (ps_if (pt_cmpR op_ne (pv 13) (pe_ifExp (pt_cmp (pc_isN (pv 12)) rfl) pe_non (pe_dget hu (pv 4) (pv 12) (fun _ _ => rfl))) (by rfl)) (pss_one (ps_ret pe_bl)) pss_nil))))
      (pss_cons (ps_set (i := 14) scRr2.nd rfl (Or.inl rfl) (pe_callTy (call_dictP rfl) (by rfl) T.dict (by decide +kernel) (pa_cons (pe_lock (pe_lc (own := [("_law_state", 7)]) (g := gName 7) (tt := tYes) (te := tTup (tCons (tVar 7) (tCons (tVar 7) tNil))) rfl scRr2.nd
            (pi_keys (pe_ix ix_list (pv 2) pe_int (fun _ _ => rfl)))
            (blkOk_by (N := rrN) (sc := defScope sRenR) (by decide +kernel)) (fun _ _ _ _ _ => pg_name (i := 7) scRr2.nd rfl (Or.inl rfl)) (fun _ _ _ _ _ => pts_nil) (fun _ _ _ _ _ => pe_tup (pa_cons (pv 7) (pa_cons (pv 7) pa_nil))))) pa_nil)))
      (pss_cons (ps_set (i := 15) scRr2.nd rfl (Or.inl rfl) (pe_lst (pa_cons (pe_cal CU (hr.mono (by decide)) rfl (pa_cons (pv 9) pa_nil))
          (pa_cons (pe_cal CR (hr.mono (by decide)) rfl (pa_cons (pe_cal CU (hr.mono (by decide)) rfl (pa_cons (pv 1) pa_nil)) (pa_cons (pv 4) pa_nil)))
          (pa_cons (pe_cal CR (hr.mono (by decide)) rfl (pa_cons (pv 1) (pa_cons (pv 14) pa_nil)))
          (pa_cons (pe_cal CX (hr.mono (by decide)) rfl (pa_cons (pe_cal CR (hr.mono (by decide)) rfl (pa_cons (pv 1) (pa_cons (pv 4) pa_nil))) pa_nil))
          (pa_cons (pe_cal CR (hr.mono (by decide)) rfl (pa_cons (pe_cal CX (hr.mono (by decide)) rfl (pa_cons (pv 1) pa_nil)) (pa_cons (pe_callTy (call_dictP rfl) (by rfl) T.dict (by decide +kernel) (pa_cons (pe_lc (own := [("_law_state", 7)]) (g := gName 7) (tt := tYes) (te := tTup (tCons (tVar 7) (tCons (tDGet (tVar 4) (tVar 7)) tNil))) rfl scRr2.nd
            (pi_list (pe_cal CC (hr.mono (by decide)) rfl (pa_cons (pv 1) pa_nil)))
            (blkOk_by (N := rrN) (sc := defScope sRenR) (by decide +kernel)) (fun _ _ _ _ _ => pg_name (i := 7) scRr2.nd rfl (Or.inl rfl)) (fun _ _ _ _ _ => pts_nil) (fun _ _ _ _ _ => pe_tup (pa_cons (pv 7) (pa_cons (pe_dget hu (pv 4) (pv 7) (fun _ _ => rfl)) pa_nil)))) pa_nil)) pa_nil))) pa_nil)))))))
      (pss_cons (ps_dput hu (pv 14) (pe_ix ix_list (pv 2) pe_int (fun _ _ => rfl)) pe_str rfl)
      (pss_one (ps_ret (pe_and (pe_cmpR (eqD EQ (hr.mono (by decide))) (pe_ix ix_list (pv 15) pe_int (fun _ _ => rfl)) (pe_ix ix_list (pv 15) pe_int (fun _ _ => rfl)) (by rfl))
        (pe_and (pe_cmpR (eqD EQ (hr.mono (by decide))) (pe_ix ix_list (pv 15) pe_int (fun _ _ => rfl)) (pv 1) (by rfl))
        (pe_one (pe_cmpR (eqD EQ (hr.mono (by decide))) (pe_ix ix_list (pv 15) pe_int (fun _ _ => rfl)) (pe_ix ix_list (pv 15) pe_int (fun _ _ => rfl)) (by rfl))))))))))))))))), ?_⟩
    obtain ⟨b, hWc2, ⟨kvs, hbc, hRc⟩⟩ := id hWc
    have nWp : W ≠ p := fun e => by rw [e, cut, if_pos (by simp)] at hWc2; cases hWc2
    have hWp : WorldAt H W bk st := ⟨b, cut_le _ _ hWc2, kvs, cut_le _ _ hbc, hRc.same cut_le⟩
    refine ⟨_, rfl, _, rfl, _, rfl, p, W, L, bk, st, ws, t, rfl, hp, hWc, ok, hL, nLp, nws, lws, aws, t1, fun H1 N nm t2 b1 nN hN nmok hp1 tt1 => ?_⟩
    have lnm : nm.length ≤ 60 := by rw [nmok.len]; exact ok.len
    obtain ⟨g0, bb0, z0, ep0, _⟩ := id hp
    have nNp : N ≠ p := hp.ne nN
    refine ⟨_, rfl, _, rfl, N, kT nm, nm.map (·.1), rfl, .inl hN, kT_keys nm, by rw [List.length_map]; omega, fun ys S pm so hS => ?_⟩
    have g1 := Same.new (o := .lst (ys.map V.str)) hS
    have nSp := hp1.ne hS
    have ndy : ys.Nodup := pm.nodup_iff.mpr nmok.nd
    have ly : ys.length ≤ 60 := by rw [pm.length_eq, List.length_map]; exact lnm
    refine ⟨p, S, _, t2, rfl, hp1.new hS, upd_same, nSp, by rw [List.length_map]; omega, by omega, fun H2 R2 zs t3 b2 nR2 hz pm2 hp2 tt2 => ?_⟩
    obtain ⟨ss, rfl, pz⟩ := perm_str pm2
    rw [List.length_map] at tt2
    have hz : SL H2 R2 ss := hz
    have b12 : But p H1 H2 := (But.of g1).trans b2
    have b02 := b1.trans b12
    have hN2 : TurnsAt H2 N nm := b12 _ _ nNp hN
    have nds : ss.Nodup := pz.nodup_iff.mpr ndy
    have mss : ∀ x, x ∈ ss ↔ x ∈ nm.map (·.1) := fun x => by rw [pz.mem_iff, pm.mem_iff]
    have lss : ss.length = nm.length := by rw [pz.length_eq, pm.length_eq, List.length_map]
    obtain ⟨g2, bb2, z2, ep2, _⟩ := id hp2
    have hq2 : DeskAt C H2 q bk st := hq.but b02 ep0
    have hW2 : WorldAt H2 W bk st := by
      obtain ⟨b, e, h2⟩ := hWp
      exact ⟨b, b02 _ _ nWp e, h2.but b02 ep0⟩
    have hL2 : SL H2 L ws := b02 _ _ nLp hL
    refine ⟨R2, rfl, ⟨_, hz.sq⟩, fun D hD => ?_⟩
    refine lc_list (K := K) (a := R2) (xs := ss.map V.str) (fun i H' => Same H2 H' ∧ ∃ ps : List Addr, H' D = some (.lst (ps.map V.ref)) ∧ Paired (fun a (kv : Key × V) => (cut [D] H') a = some (.tup [kV kv.1, kv.2])) ps (kT (listed nm (ss.take i)))) ⟨Same.new hD, [], upd_same, .nil⟩ (fun i H' _ z => (hz.same z.1).sq) ?_ ?_
    · rintro i v H3 hx0 ⟨sm, ps, hD3, hpr⟩
      obtain ⟨x, hx, rfl⟩ := D1.get_map hx0
      have il : i < ss.length := (List.getElem?_eq_some_iff.mp hx).1
      have xm := (mss x).mp (List.mem_of_getElem? hx)
      refine ⟨rfl, ?_⟩
      dsimp only [tYes]
      rw [if_pos rfl]
      refine ⟨_, rfl, _, rfl, _, rfl, N, _, rfl, .inl ⟨kT nm, .inr x, .inl (hN2.same sm), rfl, (valV_goal xm).symm⟩, by show 2 ≤ sizeLine; decide, fun T1 hT1 => ?_⟩
      have g := Same.new (o := .tup [.str x, .str (goalT nm x)]) hT1
      have nT : T1 ≠ D := fun e => by rw [e, hD3] at hT1; cases hT1
      have lps : ps.length ≤ 60 := by rw [paired_len hpr, kT, listed, List.length_map, List.length_map, List.length_take]; omega
      refine ⟨_, g _ _ hD3, by rw [List.length_map, sizeLine_eq]; omega, fun c u e => ?_, ps ++ [T1], by rw [upd_same, List.map_append]; rfl, ?_⟩
      · rw [upd_ne (ne_of_none e hD)]; exact g _ _ (sm _ _ e)
      · have e : listed nm (ss.take i ++ [x]) = listed nm (ss.take i) ++ [(x, goalT nm x)] := by rw [listed, listed, List.map_append]; rfl
        rw [cut_upd (by simp), take_succ_get hx, e, kT_app]
        exact pair_app (paired_imp (fun p kv e => cut_same g _ _ e) hpr) (by rw [cut_out (by simpa using nT)]; exact upd_same)
    rintro H3 ⟨s3, ps, hD3, hpr⟩
    rw [List.length_map, List.take_length] at hpr
    have nmS : NamesOk bk (listed nm ss) := nmok.listed nds (by rw [lss, nmok.len]) (fun s hs => (mss s).mpr (nmok.cov s hs)) fun s hs => (mss s).mp hs
    refine ⟨D, ps, kT (listed nm ss), rfl, SqL.of hD3, paired_imp (fun p kv e => SqT.of (cut_le _ _ e)) hpr, fun Hd hHd => ?_⟩
    rw [merge_id2 (by rw [kT_keys]; exact inr_nd' nmS.nd)]
    have g4 := Same.new (o := .dK (kT (listed nm ss))) hHd
    have hH4 : TurnsAt (L2.upd H3 Hd (.dK (kT (listed nm ss)))) Hd (listed nm ss) := upd_same
    have nHd : H2 Hd = none := s3.free hHd
    generalize L2.upd H3 Hd (.dK (kT (listed nm ss))) = H4 at g4 hH4
    have s24 := Same.trans s3 g4
    have hN4 := hN2.same s24
    have nNH : N ≠ Hd := fun e => by rw [TurnsAt, e, nHd] at hN2; cases hN2
    refine ⟨N, _, hN4, trivial, fun od => ?_⟩
    refine ⟨_, rfl, N, od, rfl, .inl ⟨kT nm, upd_same, fun D5 hD5 => ?_⟩⟩
    have nD5 : N ≠ D5 := fun e => by rw [← e, upd_same] at hD5; cases hD5
    refine lc_it (walk_keys (d := N) (o := od) (kvs := kT nm)) (fun i H' => Same (L2.upd H4 N (.frz od (.dK (kT nm)))) H' ∧ ∃ ps : List Addr, H' D5 = some (.lst (ps.map V.ref)) ∧ Paired (fun a (kv : Key × V) => (cut [D5] H') a = some (.tup [kV kv.1, kv.2])) ps (kT (backN (nm.take i)))) ⟨Same.new hD5, [], upd_same, .nil⟩ (fun i H' _ z => z.1 _ _ upd_same) ?_ ?_
    · rintro i x H5 H6 hi ⟨sm, ps, hD6, hpr⟩ ⟨rfl, kk, v0, hkv9, rfl⟩
      rw [kT, List.getElem?_map] at hkv9
      obtain ⟨u1, hu1, e9⟩ := Option.map_eq_some_iff.mp hkv9
      cases e9
      have il : i < nm.length := (List.getElem?_eq_some_iff.mp hu1).1
      have v1 : valV (kT nm) (.inr u1.1) = some (.str u1.2) := by rw [valV_goal (List.mem_map_of_mem (List.mem_of_getElem? hu1)), goalT_at nmok.nd (List.mem_of_getElem? hu1)]
      refine ⟨rfl, ?_⟩
      dsimp only [tYes]
      rw [if_pos rfl]
      refine ⟨_, rfl, _, rfl, N, _, rfl, .inl ⟨kT nm, .inr u1.1, .inr ⟨od, sm _ _ upd_same⟩, rfl, v1.symm⟩, _, rfl, by show 2 ≤ sizeLine; decide, fun T1 hT1 => ?_⟩
      have g := Same.new (o := .tup [.str u1.2, .str u1.1]) hT1
      have nT : T1 ≠ D5 := fun e => by rw [e, hD6] at hT1; cases hT1
      have lps : ps.length ≤ 60 := by rw [paired_len hpr, kT, backN, List.length_map, List.length_map, List.length_take]; omega
      refine ⟨_, g _ _ hD6, by rw [List.length_map, sizeLine_eq]; omega, fun c u e => ?_, ps ++ [T1], by rw [upd_same, List.map_append]; rfl, ?_⟩
      · rw [upd_ne (ne_of_none e hD5)]; exact g _ _ (sm _ _ e)
      · have e : backN (nm.take i ++ [u1]) = backN (nm.take i) ++ [(u1.2, u1.1)] := by rw [backN, backN, List.map_append]; rfl
        rw [cut_upd (by simp), take_succ_get hu1, e, kT_app]
        exact pair_app (paired_imp (fun p kv e => cut_same g _ _ e) hpr) (by rw [cut_out (by simpa using nT)]; exact upd_same)
    rintro H5 ⟨s5, ps5, hD6, hpr5⟩
    rw [show (kT nm).length = nm.length by rw [kT, List.length_map], List.take_length] at hpr5
    have su5 := Same.unlock hN4 s5
    have nmB := nmok.back ok
    have hp5' : Paired (fun p (kv : Key × V) => SqT K (L2.upd H5 N (.dK (kT nm))) p [kV kv.1, kv.2]) ps5 (kT (backN nm)) := paired_imp (fun p kv e => SqT.of (unl_at (s5 _ _ upd_same) (cut_le _ _ e))) hpr5
    refine ⟨s5 _ _ upd_same, D5, ps5, kT (backN nm), rfl, SqL.of (by rw [upd_ne nD5.symm]; exact hD6), hp5', fun Bk hBk => ⟨_, _, rfl, ?_⟩⟩
    rw [merge_id2 (by rw [kT_keys]; exact inr_nd' nmB.nd)]
    have g6 := Same.new (o := .dK (kT (backN nm))) hBk
    have nBH : Bk ≠ Hd := fun e => by rw [e, su5 _ _ hH4] at hBk; cases hBk
    have hB6 : TurnsAt (L2.upd (L2.upd H5 N (.dK (kT nm))) Bk (.dK (kT (backN nm)))) Bk (backN nm) := upd_same
    have s46 := Same.trans su5 g6
    generalize L2.upd (L2.upd H5 N (.dK (kT nm))) Bk (.dK (kT (backN nm))) = H6 at g6 hB6 s46
    have s26 := Same.trans s24 s46
    have hH6 := hH4.same s46
    clear hpr hpr5 hp5' hD3 hD6 s5 su5 g6
    have wl := nmS.wds ok
    have nmSst : st ∈ ss := (mss st).mpr (nmok.cov st ok.st)
    refine ⟨_, rfl, Hd, kT (listed nm ss), rfl, hH6, fun H7 pb ts7 s7 n7 nt7 np7 hb7 hp7 => ?_⟩
    have s27 := Same.trans s26 s7
    refine ⟨_, rfl, _, rfl, q, Hd, bk, st, listed nm ss, rfl, hq2.same s27, ok, hH6.same s7, nmS, fun H8 M s8 nM hM hMN => ?_⟩
    have s28 := Same.trans s27 s8
    refine ⟨_, rfl, _, rfl, W, N, bk, st, nm, rfl, hW2.same s28, ok, hN2.same s28, nmok, fun H9 D9 s9 nD9 hD9 => ⟨_, _, rfl, ?_⟩⟩
    have eR : renB (listed nm ss) bk = renB nm bk := renB_congr (fun s hs => listed_goal nds ((mss s).mpr (nmok.cov s hs))) (fun r hr t ht => (ok.rs r hr).2.2 t ht)
    have eS : goalT (listed nm ss) st = goalT nm st := listed_goal nds nmSst
    rw [eR, eS] at hM hMN
    have okR := ok.ren nmok
    have hM9 := hM.same s9
    have hW9 := hD9.at
    have s79 := Same.trans s8 s9
    have hH7 := hH6.same s7
    have hH9 := hH7.same s79
    refine ⟨_, rfl, Hd, kT (listed nm ss), rfl, hH9, fun H10 p10 ts10 s10 n10 nt10 np10 h10 hp10 => ?_⟩
    have s710 := Same.trans s79 s10
    refine ⟨_, rfl, _, _, dp_pairs h10 (kT_paired hp10), dp_pairs (s710 _ _ hb7) (kT_paired (paired_imp (fun _ _ e => s710 _ _ e) hp7)), sh_pairs wl, sh_pairs wl, ?_⟩
    rw [eq_pairs wl]
    refine ⟨_, rfl, iteF ?_⟩
    refine ⟨_, rfl, M, renB nm bk, goalT nm st, rfl, hM9.same s10, okR, fun H11 R11 s11 nR11 hR11 => ?_⟩
    refine ⟨_, rfl, D9, renB nm bk, goalT nm st, rfl, (hW9.same (Same.trans s10 s11)).r, okR.bok, fun H12 R12 s12 nR12 hR12 => ?_⟩
    refine ⟨_, _, rfl, eqx_world (hR11.same s12) hR12 okR.obok (ordB_ne okR.ne), fun H13 s13 => ⟨_, rfl, iteF ?_⟩⟩
    have s913 := Same.trans (Same.trans (Same.trans s10 s11) s12) s13
    have s613 := Same.trans (Same.trans s7 s79) s913
    have hH13 := hH6.same s613
    refine ⟨_, rfl, .inr (.inr (.inl ⟨rfl, .inl ⟨_, hH13⟩⟩)), Hd, _, rfl, rfl, hH13, ?_⟩
    have s214 : Same H2 (L2.upd H13 Hd (.dK [])) := same_written (Same.trans s26 s613) nHd
    have hM14 : DeskAt C (L2.upd H13 Hd (.dK [])) M (renB nm bk) (goalT nm st) := hMN.written nM (Same.trans s9 s913) hH7
    have hW14 : WorldAt (L2.upd H13 Hd (.dK [])) D9 (renB nm bk) (goalT nm st) := hD9.written nD9 s913 (hH7.same s8)
    have hB14 : TurnsAt (L2.upd H13 Hd (.dK [])) Bk (backN nm) := by rw [TurnsAt, upd_ne nBH]; exact s613 _ _ hB6
    generalize L2.upd H13 Hd (.dK []) = H14 at s214 hM14 hW14 hB14
    clear hR11 hR12 hM hMN hM9 hW9 hD9 hp7 hp10 h10 hb7 hH13 hH9 hH7 hH6 s28 s27 s7 s8 s9 s79 s710 s913 s613
    refine ⟨_, rfl, M, renB nm bk, goalT nm st, rfl, hM14, okR, fun H15 R15 s15 nR15 hR15 => ?_⟩
    refine ⟨_, rfl, D9, renB nm bk, goalT nm st, rfl, (hW14.same s15).r, okR.bok, fun H16 R16 s16 nR16 hR16 => ?_⟩
    refine ⟨_, _, rfl, eqx_world (hR15.same s16) hR16 okR.obok (ordB_ne okR.ne), fun H17 s17 => ⟨_, rfl, iteF ?_⟩⟩
    have s1417 := Same.trans (Same.trans s15 s16) s17
    refine ⟨_, rfl, _, rfl, M, Bk, renB nm bk, goalT nm st, backN nm, rfl, hM14.same s1417, okR, hB14.same s1417, nmB, fun H18 R18 s18 nR18 hR18 _ => ?_⟩
    have s1418 := Same.trans s1417 s18
    have s218 := Same.trans s214 s1418
    refine ⟨_, rfl, rEqB_of ⟨_, bk, _, st, hR18, hq2.same s218, congrArg ordB (ren_back ok nmok), okR.ren nmB, (decide_eq_true (backN_goal nmok.un (nmok.cov st ok.st))).symm⟩ ⟨_, rfl, iteF ?_⟩⟩
    have hM18 := hM14.same s1418
    have hW18 := hW14.same s1418
    clear hR15 hR16 hR18 hM14 hW14 hB14
    have hL18 : SL H18 L ws := hL2.same s218
    refine ⟨_, rfl, _, rfl, L, ws.map V.str, rfl, hL18.sq, fun S5 nS5 => ?_⟩
    rw [cutV_map, cutL_to _ (by decide)]
    have s19 := Same.new (o := .lst ((ws.take (2 : Int).toNat).map V.str)) nS5
    have hS19 : SL (L2.upd H18 S5 (.lst ((ws.take (2 : Int).toNat).map V.str))) S5 (ws.take (2 : Int).toNat) := upd_same
    generalize L2.upd H18 S5 (.lst ((ws.take (2 : Int).toNat).map V.str)) = H19 at s19 hS19
    refine ⟨S5, _, 3, rfl, hS19, by rw [List.length_take]; omega, by decide, by decide, fun H20 Rt tss s20 nRt ⟨as, eRt, pas⟩ tok lt => ?_⟩
    refine ⟨Rt, rfl, ⟨_, SqL.of eRt⟩, ?_⟩
    have las := paired_len pas
    have s1820 := Same.trans s19 s20
    have s220 := Same.trans s218 s1820
    have hW20 := hW2.same s220
    have hD20 := hW18.same s1820
    have hN20 := hN2.same s220
    refine for_list (K := K) (a := Rt) (xs := as.map V.ref) (fun i σ H' => ∃ (v11 v12 v13 : Option V), σ = [some (.ref p), some (.ref q), some (.ref W), some (.ref L), some (.ref N), some (.ref Hd), some (.ref Bk), none, some (.ref pb), some (.ref M), some (.ref D9), v11, v12, v13, none, none] ∧ Same H20 H') ⟨none, none, none, rfl, Same.refl _⟩ (fun i σ H' _ ⟨_, _, _, _, z⟩ => SqL.of (z _ _ eRt)) ?_ ?_
    · rintro i x σ H21 hx ⟨v11, v12, v13, rfl, sm⟩
      obtain ⟨c, hc, rfl⟩ := get_map hx
      have hi : i < as.length := (List.getElem?_eq_some_iff.mp hc).1
      have ht := List.getElem?_eq_getElem (show i < tss.length by omega)
      have hcs := (paired_at pas hc ht).same sm
      refine ⟨_, rfl, _, rfl, W, c, bk, st, _, rfl, hW20.same sm, ok, hcs, ?_⟩
      refine ⟨_, rfl, _, rfl, D9, c, renB nm bk, goalT nm st, _, rfl, hD20.same sm, okR, hcs, ⟨_, _, rfl, ?_⟩⟩
      rw [walk_ren ok nmok ok.st]
      have wm : ∀ g, walkB bk st tss[i] = some g → g ∈ bk.map (·.1) := fun g e => walk_mem ok ok.st e
      cases e : walkB bk st tss[i] with
      | none => exact ⟨_, rfl, _, rfl, true, congrArg V.bl (decide_eq_true rfl), iteT ⟨rfl, _, rfl, ite2 (fun c => absurd c (by simp; rfl)) fun _ => ⟨_, _, _, rfl, sm⟩⟩⟩
      | some g =>
        have gm := nmok.cov g (wm g e)
        exact ⟨_, rfl, _, rfl, false, congrArg V.bl (decide_eq_false fun z => by cases z), iteF ⟨_, rfl, _, rfl, N, _, rfl, .inl ⟨kT nm, .inr g, .inl (hN20.same sm), rfl, (valV_goal gm).symm⟩, rfl, _, rfl, ite2 (fun c => absurd c (by simp; rfl)) fun _ => ⟨_, _, _, rfl, sm⟩⟩⟩
    rintro σ H21 ⟨v11, v12, v13, rfl, sm⟩
    have s221 := Same.trans s220 sm
    have hM21 := hM18.same (Same.trans s1820 sm)
    obtain ⟨bb, hWb, kvs7, hkb, hRw⟩ := id (hW20.same sm)
    have nWb : W ≠ bb := fun e => by rw [e, hkb] at hWb; cases hWb
    refine ⟨bb, _, hkb, trivial, fun od2 => ?_⟩
    have hWL : (L2.upd H21 bb (.frz od2 (.dK kvs7))) W = some (.lst [.ref bb, .str st]) := by rw [upd_ne nWb]; exact hWb
    refine ⟨_, rfl, W, _, _, _, rfl, rfl, SqL.of hWL, atI_nat (j := 0) rfl, bb, od2, rfl, .inl ⟨kvs7, upd_same, fun D7 hD7 => ?_⟩⟩
    have nD7 : bb ≠ D7 := fun e => by rw [← e, upd_same] at hD7; cases hD7
    have lbk := ok.len
    have owk := ownN_ok ok
    refine lc_it (walk_keys (d := bb) (o := od2) (kvs := kvs7)) (fun i H' => Same (L2.upd H21 bb (.frz od2 (.dK kvs7))) H' ∧ ∃ ps : List Addr, H' D7 = some (.lst (ps.map V.ref)) ∧ Paired (fun a (kv : Key × V) => (cut [D7] H') a = some (.tup [kV kv.1, kv.2])) ps (kT (ownN (bk.take i)))) ⟨Same.new hD7, [], upd_same, .nil⟩ (fun i H' _ z => z.1 _ _ upd_same) ?_ ?_
    · rintro i x H5 H6 hi ⟨sm5, ps, hD6, hpr⟩ ⟨rfl, kk, v0, hkv, rfl⟩
      obtain ⟨r, hr', rfl, _⟩ := hRw.at hkv
      refine ⟨rfl, ?_⟩
      dsimp only [tYes]
      rw [if_pos rfl]
      refine ⟨_, rfl, _, rfl, by show 2 ≤ sizeLine; decide, fun T1 hT1 => ?_⟩
      have g := Same.new (o := .tup [.str r.1, .str r.1]) hT1
      have nT : T1 ≠ D7 := fun e => by rw [e, hD6] at hT1; cases hT1
      have lps : ps.length ≤ 60 := by rw [paired_len hpr, kT, ownN, List.length_map, List.length_map, List.length_take]; omega
      refine ⟨_, g _ _ hD6, by rw [List.length_map, sizeLine_eq]; omega, fun c u e => ?_, ps ++ [T1], by rw [upd_same, List.map_append]; rfl, ?_⟩
      · rw [upd_ne (ne_of_none e hD7)]; exact g _ _ (sm5 _ _ e)
      · have e : ownN (bk.take i ++ [r]) = ownN (bk.take i) ++ [(r.1, r.1)] := by rw [ownN, ownN, List.map_append]; rfl
        rw [cut_upd (by simp), take_succ_get hr', e, kT_app]
        exact pair_app (paired_imp (fun p kv e => cut_same g _ _ e) hpr) (by rw [cut_out (by simpa using nT)]; exact upd_same)
    rintro H22 ⟨sm5, ps, hD6, hpr⟩
    rw [show kvs7.length = bk.length from hRw.len, List.take_length] at hpr
    have su := Same.unlock hkb sm5
    have hp' : Paired (fun p (kv : Key × V) => SqT K (L2.upd H22 bb (.dK kvs7)) p [kV kv.1, kv.2]) ps (kT (ownN bk)) := paired_imp (fun p kv e => SqT.of (unl_at (sm5 _ _ upd_same) (cut_le _ _ e))) hpr
    refine ⟨sm5 _ _ upd_same, D7, ps, kT (ownN bk), rfl, SqL.of (by rw [upd_ne nD7.symm]; exact hD6), hp', fun Ow hOw => ?_⟩
    rw [merge_id2 (by rw [kT_keys]; exact inr_nd' owk.nd)]
    have g23 := Same.new (o := .dK (kT (ownN bk))) hOw
    have hO23 : TurnsAt (L2.upd (L2.upd H22 bb (.dK kvs7)) Ow (.dK (kT (ownN bk)))) Ow (ownN bk) := upd_same
    have nOw2 : H2 Ow = none := (Same.trans s221 su).free hOw
    have s2123 := Same.trans su g23
    generalize L2.upd (L2.upd H22 bb (.dK kvs7)) Ow (.dK (kT (ownN bk))) = H23 at s2123 hO23 g23
    have s223 := Same.trans s221 s2123
    have hM23 := hM21.same s2123
    clear hpr hp' hD6 sm5 su g23 hRw hkb hWL hWb
    have okS := nmok.turn
    have okT := ok.turn
    refine ⟨_, rfl, M, renB nm bk, goalT nm st, rfl, hM23, okR, fun H24 R1 s24 nR1 hR1 hN1 => ?_⟩
    have s224 := Same.trans s223 s24
    refine ⟨_, rfl, q, bk, st, rfl, hq2.same s224, ok, fun H25 T5 s25 nT5 hT5 _ => ?_⟩
    have s225 := Same.trans s224 s25
    refine ⟨_, rfl, T5, N, turnB bk, st, nm, rfl, hT5, okT, hN2.same s225, okS, fun H26 R2 s2526 nR2 hR2 hN26 => ?_⟩
    have s226 := Same.trans s225 s2526
    have s2326 := Same.trans (Same.trans s24 s25) s2526
    have hO26 := hO23.same s2326
    refine ⟨_, rfl, _, rfl, q, Ow, bk, st, ownN bk, rfl, hq2.same s226, ok, hO26, owk, fun H27 R3 s27 nR3 hR3 hN3 => ?_⟩
    have s227 := Same.trans s226 s27
    refine ⟨_, rfl, _, rfl, q, N, bk, st, nm, rfl, hq2.same s227, ok, hN2.same s227, nmok, fun H28 T8 s28 nT8 hT8 _ => ?_⟩
    have s228 := Same.trans s227 s28
    refine ⟨T8, renB nm bk, goalT nm st, rfl, hT8, okR, fun H29 R4 zs s29 nR4 cmz hR4 okz hN4 => ?_⟩
    have s229 := Same.trans s228 s29
    have hO28 := (hO26.same s27).same s28
    refine ⟨_, rfl, q, bk, st, rfl, hq2.same s229, ok, fun H30 T9 ys9 s30 nT9 cmy hT9 oky _ => ?_⟩
    have s230 := Same.trans s229 s30
    refine ⟨_, rfl, q, bk, st, rfl, hq2.same s230, ok, fun H31 Cl ys10 s31 nCl hCl cm10 => ?_⟩
    obtain rfl : ys10 = ys9 := cm10.one cmy fun x => Iff.rfl
    have s231 := Same.trans s230 s31
    have hN31 := hN2.same s231
    have ly9 := cmy.le ok
    have my9 : ∀ x ∈ ys10, x ∈ nm.map (·.1) := fun x hx => nmok.cov x (((cmy.mem x).mp hx).mem ok)
    have nmY : NamesOk (subB bk ys10) (listed nm ys10) := nmok.listed cmy.nd (by rw [subB, List.length_map]) (fun s hs => by rw [subB_names] at hs; exact hs) my9
    refine ⟨Cl, rfl, ⟨_, hCl.sq⟩, fun D11 hD11 => ?_⟩
    refine lc_list (K := K) (a := Cl) (xs := ys10.map V.str) (fun i H' => Same H31 H' ∧ ∃ ps : List Addr, H' D11 = some (.lst (ps.map V.ref)) ∧ Paired (fun a (kv : Key × V) => (cut [D11] H') a = some (.tup [kV kv.1, kv.2])) ps (kT (listed nm (ys10.take i)))) ⟨Same.new hD11, [], upd_same, .nil⟩ (fun i H' _ z => (hCl.same z.1).sq) ?_ ?_
    · rintro i v H3 hx0 ⟨sm5, ps, hD3, hpr⟩
      obtain ⟨x, hx, rfl⟩ := D1.get_map hx0
      have xm := my9 x (List.mem_of_getElem? hx)
      refine ⟨rfl, ?_⟩
      dsimp only [tYes]
      rw [if_pos rfl]
      refine ⟨_, rfl, _, rfl, _, rfl, N, _, rfl, .inl ⟨kT nm, .inr x, .inl (hN31.same sm5), rfl, (valV_goal xm).symm⟩, by show 2 ≤ sizeLine; decide, fun T1 hT1 => ?_⟩
      have g := Same.new (o := .tup [.str x, .str (goalT nm x)]) hT1
      have nT : T1 ≠ D11 := fun e => by rw [e, hD3] at hT1; cases hT1
      have lps : ps.length ≤ 60 := by rw [paired_len hpr, kT, listed, List.length_map, List.length_map, List.length_take]; omega
      refine ⟨_, g _ _ hD3, by rw [List.length_map, sizeLine_eq]; omega, fun c u e => ?_, ps ++ [T1], by rw [upd_same, List.map_append]; rfl, ?_⟩
      · rw [upd_ne (ne_of_none e hD11)]; exact g _ _ (sm5 _ _ e)
      · have e : listed nm (ys10.take i ++ [x]) = listed nm (ys10.take i) ++ [(x, goalT nm x)] := by rw [listed, listed, List.map_append]; rfl
        rw [cut_upd (by simp), take_succ_get hx, e, kT_app]
        exact pair_app (paired_imp (fun p kv e => cut_same g _ _ e) hpr) (by rw [cut_out (by simpa using nT)]; exact upd_same)
    rintro H32 ⟨s32, ps, hD3, hpr⟩
    rw [List.length_map, List.take_length] at hpr
    refine ⟨D11, ps, kT (listed nm ys10), rfl, SqL.of hD3, paired_imp (fun p kv e => SqT.of (cut_le _ _ e)) hpr, fun Nd hNd => ?_⟩
    rw [merge_id2 (by rw [kT_keys]; exact inr_nd' nmY.nd)]
    have g33 := Same.new (o := .dK (kT (listed nm ys10))) hNd
    have hNd3 : TurnsAt (L2.upd H32 Nd (.dK (kT (listed nm ys10)))) Nd (listed nm ys10) := upd_same
    generalize L2.upd H32 Nd (.dK (kT (listed nm ys10))) = H33 at g33 hNd3
    have s3033 := Same.trans s31 (Same.trans s32 g33)
    have s2833 := Same.trans (Same.trans s29 s30) s3033
    have hO33 := hO28.same s2833
    refine ⟨T9, Nd, subB bk ys10, st, listed nm ys10, rfl, hT9.same s3033, oky, hNd3, nmY, fun H34 R5 s34 nR5 hR5 hN5 => ?_⟩
    refine ⟨by show 5 ≤ sizeLine; decide, fun Ls hLs => ?_⟩
    have g35 := Same.new (o := .lst [.ref R1, .ref R2, .ref R3, .ref R4, .ref R5]) hLs
    have hLs5 : (L2.upd H34 Ls (.lst [.ref R1, .ref R2, .ref R3, .ref R4, .ref R5])) Ls = some (.lst [.ref R1, .ref R2, .ref R3, .ref R4, .ref R5]) := upd_same
    have s3335 := Same.trans s34 g35
    have nLO : Ls ≠ Ow := fun e => by rw [e, s34 _ _ hO33] at hLs; cases hLs
    have s3435 := g35
    generalize L2.upd H34 Ls (.lst [.ref R1, .ref R2, .ref R3, .ref R4, .ref R5]) = H35 at g35 hLs5 s3335 s3435
    have s235 : Same H2 H35 := Same.trans (Same.trans s228 s2833) s3335
    have hW35 : WorldAt H35 W bk st := hW2.same s235
    obtain ⟨b35, e35, _⟩ := id hW35
    have hO35 := hO33.same s3335
    have lO : (kT (ownN bk)).length ≤ 60 := by rw [kT, ownN, List.length_map, List.length_map]; exact ok.len
    refine ⟨_, rfl, _, rfl, W, _, _, _, rfl, rfl, SqL.of e35, atI_nat (j := 1) rfl, Ow, _, rfl, DPut.k (kvs := kT (ownN bk)) (k := Sum.inr st) hO35 (by rw [sizeLine_eq]; omega), ?_⟩
    have s2435 : Same H24 H35 := Same.trans (Same.trans (Same.trans s25 s2526) (Same.trans s27 s28)) (Same.trans s2833 s3335)
    have s2635 : Same H26 H35 := Same.trans (Same.trans s27 s28) (Same.trans s2833 s3335)
    have s2735 : Same H27 H35 := Same.trans s28 (Same.trans s2833 s3335)
    have s2935 : Same H29 H35 := Same.trans (Same.trans s30 s3033) s3335
    have s2f : Same H2 (L2.upd H35 Ow (.dK (putK (kT (ownN bk)) (Sum.inr st) (.str "changed")))) := same_written s235 nOw2
    have f1 : DeskAt C (L2.upd H35 Ow (.dK (putK (kT (ownN bk)) (Sum.inr st) (.str "changed")))) R1 _ _ := hN1.written nR1 s2435 hO23
    have f2 : DeskAt C (L2.upd H35 Ow (.dK (putK (kT (ownN bk)) (Sum.inr st) (.str "changed")))) R2 _ _ := hN26.written nR2 s2635 (hO23.same (Same.trans s24 s25))
    have f3 : DeskAt C (L2.upd H35 Ow (.dK (putK (kT (ownN bk)) (Sum.inr st) (.str "changed")))) R3 _ _ := hN3.written nR3 s2735 hO26
    have f4 : DeskAt C (L2.upd H35 Ow (.dK (putK (kT (ownN bk)) (Sum.inr st) (.str "changed")))) R4 _ _ := hN4.written nR4 s2935 hO28
    have f5 : DeskAt C (L2.upd H35 Ow (.dK (putK (kT (ownN bk)) (Sum.inr st) (.str "changed")))) R5 _ _ := hN5.written nR5 s3435 hO33
    have fL : (L2.upd H35 Ow (.dK (putK (kT (ownN bk)) (Sum.inr st) (.str "changed")))) Ls = some (.lst [.ref R1, .ref R2, .ref R3, .ref R4, .ref R5]) := by rw [upd_ne nLO]; exact hLs5
    generalize L2.upd H35 Ow (.dK (putK (kT (ownN bk)) (Sum.inr st) (.str "changed"))) = Hf at s2f f1 f2 f3 f4 f5 fL
    have fq := hq2.same s2f
    have e3 : renB (ownN bk) bk = bk := ren_id (fun s hs => ownN_goal ok.nd hs) fun r hr t ht => (ok.rs r hr).2.2 t ht
    have e3s : goalT (ownN bk) st = st := ownN_goal ok.nd ok.st
    rw [e3, e3s] at f3
    have e5s : goalT (listed nm ys10) st = goalT nm st := listed_goal cmy.nd ((cmy.mem st).mpr .here)
    rw [e5s] at f5
    refine ⟨_, rfl, Ls, _, _, _, rfl, rfl, SqL.of fL, atI_nat (j := 0) rfl, _, rfl, Ls, _, _, _, rfl, rfl, SqL.of fL, atI_nat (j := 1) rfl, rEqB_of ⟨_, _, _, _, f1, f2, congrArg ordB (turn_ren nm bk), okR.turn, (decide_eq_true rfl).symm⟩ ⟨true, rfl, iteT ?_⟩⟩
    refine ⟨_, rfl, Ls, _, _, _, rfl, rfl, SqL.of fL, atI_nat (j := 2) rfl, _, rfl, rEqB_of ⟨_, _, _, _, f3, fq, rfl, ok, (decide_eq_true rfl).symm⟩ ⟨true, rfl, iteT ?_⟩⟩
    refine ⟨_, rfl, Ls, _, _, _, rfl, rfl, SqL.of fL, atI_nat (j := 3) rfl, _, rfl, Ls, _, _, _, rfl, rfl, SqL.of fL, atI_nat (j := 4) rfl, rEqB_of ⟨_, _, _, _, f4, f5, trim_ren ok nmok cmy cmz, okz, (decide_eq_true rfl).symm⟩ ?_⟩
    exact k Hf _ (b02.trans (But.of s2f)) (hp2.same s2f) (by omega)
end
end D1
end L2
/-! written desks -/
namespace L2
namespace D1
open PySem PySem.Spec PyProof.Rows D2
abbrev sWritten : Stmt := top 65
def wdB (x : Str) : Bool := decide (1 ≤ x.length) && decide (x.length ≤ 8) && (tl x).all fun c => decide (97 ≤ c) && decide (c ≤ 122)
theorem wd_by {x : Str} (h : wdB x = true) : Wd x := by
  unfold wdB at h
  simp only [Bool.and_eq_true, decide_eq_true_eq, List.all_eq_true] at h
  exact ⟨h.1.1, h.1.2, fun c hc => h.2 c hc⟩
def dokB (bk : Bk) (st : Str) : Bool := !bk.isEmpty && decide ((bk.map (·.1)).Nodup) && decide (bk.length ≤ 60) && decide (st ∈ bk.map (·.1)) &&
  bk.all fun r => wdB r.1 && decide (r.2.2.length ≤ 60) && decide ((r.2.2.map (·.1)).Nodup) && (r.2.2.all fun t => wdB t.1 && wdB t.2 && decide (t.2 ∈ bk.map (·.1))) &&
    ((decide (r.2.1 = "done") && r.2.2.isEmpty) || ((decide (r.2.1 = "says") || decide (r.2.1 = "hears")) && !r.2.2.isEmpty))
theorem dok_by {bk : Bk} {st : Str} (h : dokB bk st = true) : DOk bk st := by
  unfold dokB at h
  simp only [Bool.and_eq_true, Bool.or_eq_true, decide_eq_true_eq, List.all_eq_true, Bool.not_eq_true'] at h
  obtain ⟨⟨⟨⟨h1, h2⟩, h3⟩, h4⟩, h5⟩ := h
  refine ⟨⟨(fun e => by rw [e] at h1; cases h1), h2, h3, fun r hr => ?_, fun r hr => (h5 r hr).1.1.1.2⟩, fun r hr => (h5 r hr).1.1.2, h4⟩
  obtain ⟨⟨⟨⟨a, b⟩, c⟩, d⟩, e⟩ := h5 r hr
  refine ⟨wd_by a, ?_, fun t ht => (d t ht).2⟩
  rcases e with ⟨e1, e2⟩ | ⟨e1, e2⟩
  · exact .inl ⟨e1, List.isEmpty_iff.mp e2⟩
  · exact .inr ⟨e1, (fun z => by rw [z] at e2; cases e2), by omega, fun t ht => ⟨wd_by (d t ht).1.1, wd_by (d t ht).1.2⟩⟩
/-- a written row -/
def tCRow (k : Str) (ts : List (Str × Str)) : TE := fun σ H Q => ∀ (H' : Hp) (T E : Addr), Same H H' → H T = none → H E = none → H' T = some (.tup [.str k, .ref E]) → TurnsAt H' E ts → Q (.ref T) H'
def trT (ts : List (Str × Str)) : List (TE × TE) := ts.map fun t => (tC (.str t.1), tC (.str t.2))
theorem trT_run (σ : L2.St) (H : Hp) : ∀ (ts : List (Str × Str)) (Q : List (V × V) → Hp → Prop), Q (ts.map fun t => (V.str t.1, V.str t.2)) H → tPairs (trT ts) σ H Q
  | [], _, q => q
  | t :: r, Q, q => trT_run σ H r (fun ps H3 => Q ((V.str t.1, V.str t.2) :: ps) H3) q
theorem crow {X : Cx} {k : Str} {ts : List (Str × Str)} {ks : List (Option Expr)} {vs : List Expr} {dp pos' : Pos} {x1 j0 : Nat} {ps : Pos} (he : PE X (.Dict ks vs dp) (tDisp (trT ts))) (nd : (ts.map (·.1)).Nodup) (l : ts.length ≤ 15) : PE X (.Tuple [.Constant (.str k) j0 ps, .Dict ks vs dp] x1 pos') (tCRow k ts) := by
  refine pe_imp (pe_tup (pa_cons pe_str (pa_cons he pa_nil))) ?_
  intro σ H Q kk E hE
  refine trT_run σ _ ts _ ⟨upd_same, kT ts, by rw [kT, List.map_map]; rfl, by rw [kT, List.length_map]; exact l, by show 2 ≤ sizeLine; decide, fun T hT => ?_⟩
  rw [updd2, merge_id2 (by rw [kT_keys]; exact inr_nd' nd)] at hT ⊢
  have s1 := Same.new (o := .dK (kT ts)) hE
  have hT0 := s1.free hT
  refine kk _ T E (Same.trans s1 (Same.new hT)) hT0 hE upd_same ?_
  have h : TurnsAt (L2.upd H E (.dK (kT ts))) E ts := upd_same
  exact h.same (Same.new hT)
theorem crow0 {X : Cx} {k : Str} {pos pos' : Pos} {x1 j0 : Nat} {ps : Pos} : PE X (.Tuple [.Constant (.str k) j0 ps, .Dict [] [] pos] x1 pos') (tCRow k []) := by
  refine pe_imp (pe_tup (pa_cons pe_str (pa_cons pe_dnewK pa_nil))) ?_
  intro σ H Q kk E hE
  refine ⟨by show 2 ≤ sizeLine; decide, fun T hT => ?_⟩
  have s1 := Same.new (o := .dK []) hE
  have h : TurnsAt (L2.upd H E (.dK [])) E [] := upd_same
  exact kk _ T E (Same.trans s1 (Same.new hT)) (s1.free hT) hE upd_same (h.same (Same.new hT))
def trB (bk : Bk) : List (TE × TE) := bk.map fun r => (tC (.str r.1), tCRow r.2.1 r.2.2)
theorem trB_run (σ : L2.St) (p : Addr) : ∀ (bk : Bk) (H : Hp) (Q : List (V × V) → Hp → Prop), (∃ u, H p = some u) → (∀ (H' : Hp) (kvs : List (Key × V)), Same H H' → Rows (cut [p] H') kvs bk → Q (kvs.map fun kv => (kV kv.1, kv.2)) H') → tPairs (trB bk) σ H Q
  | [], H, Q, _, q => q H [] (Same.refl H) .nil
  | r :: bk, H, Q, hp, q => fun H1 T E s nT nE hT hE => by
    obtain ⟨u, hu⟩ := hp
    have n1 : T ≠ p := fun e => by rw [e, hu] at nT; cases nT
    have n2 : E ≠ p := fun e => by rw [e, hu] at nE; cases nE
    refine trB_run σ p bk H1 _ ⟨u, s _ _ hu⟩ fun H2 kvs s2 hR => ?_
    refine q H2 ((.inr r.1, .ref T) :: kvs) (Same.trans s s2) (.cons ⟨rfl, T, E, rfl, ?_, ?_⟩ hR)
    · rw [cut_out (by simpa using n1)]; exact s2 _ _ hT
    · rw [TurnsAt, cut_out (by simpa using n2)]; exact s2 _ _ hE
theorem disp_book {σ : L2.St} {bk : Bk} {H : Hp} {Q : VK} (nd : (bk.map (·.1)).Nodup) (l : bk.length ≤ 15) (k : ∀ H' b, Same H H' → H b = none → BookAt H' b bk → Q (.ref b) H') : tDisp (trB bk) σ H Q := fun p hp => by
  have s1 := Same.new (o := .dK []) hp
  refine trB_run σ p bk _ _ ⟨_, upd_same⟩ fun H' kvs s2 hR => ⟨s2 _ _ upd_same, kvs, rfl, by rw [hR.len]; exact l, ?_⟩
  have e1 : kvs.map (·.1) = (bk.map (·.1)).map Sum.inr := by rw [hR.keys, List.map_map]; rfl
  rw [merge_id2 (by rw [e1]; exact inr_nd' nd)]
  refine k _ p (fun c u e => ?_) hp ⟨kvs, upd_same, ?_⟩
  · rw [upd_ne (ne_of_none e hp)]; exact s2 _ _ (s1 _ _ e)
  · refine hR.same fun c u e => ?_
    obtain ⟨nc, e⟩ := cut_some e
    rw [upd_ne (by simpa using nc)]; exact e
def lineB : Bk := [("a", "says", [("go", "b")]), ("b", "hears", [("go", "c")]), ("c", "says", [("go", "d"), ("on", "a")]), ("d", "hears", [("on", "e")]), ("e", "says", [("go", "f")]), ("f", "done", [])]
def ringB : Bk := [("a", "says", [("go", "b"), ("a", "a")]), ("b", "hears", [("b", "a")]), ("c", "hears", [("go", "a"), ("c", "c")]), ("d", "done", [])]
def oneB : Bk := [("done", "done", [])]
def wsW : List Str := ["go", "on", "a", "b", "c"]
/-- a written world with its words -/
def WrAt (H : Hp) (a : Addr) : Prop := ∃ (b L : Addr) (bk : Bk) (st : Str), H a = some (.lst [.ref b, .str st, .ref L]) ∧ BookAt H b bk ∧ DOk bk st ∧ SL H L wsW
theorem WrAt.same {H H' : Hp} {a : Addr} (h : WrAt H a) (s : Same H H') : WrAt H' a := let ⟨b, L, bk, st, e, g, ok, hL⟩ := h; ⟨b, L, bk, st, s _ _ e, g.same s, ok, hL.same s⟩
def spWritten : Sp := fun vs H Q _ => vs = [] ∧ ∀ (H' : Hp) (R : Addr) (as : List Addr), Same H H' → H R = none → H' R = some (.lst (as.map V.ref)) → as.length = 7 → (∀ a ∈ as, WrAt H' a) → Q (.ref R) H'
section
variable {P : Program} {w : World} {K : PySem.W.Frag} {mg : Str → Option Value} {base : Heap} {C : Addr}
theorem scWr : FnScope ["_law_line", "_law_ring", "_law_words_here"] [] (defScope sWritten) := ⟨rfl, rfl, rfl, by decide +kernel, rfl, by decide +kernel, by decide +kernel⟩
theorem ok_written {f : Addr} {fd : FuncData} (F : Fun K "_law_written" "_law_written" sWritten f fd) : FnOk P w K mg base CX0 1 f fd [] spWritten := by
  refine F.ok scWr (fun vs H Q E h => ?_) (fun cdv A outer s H vs Q E hr h => ?_)
  · obtain ⟨rfl, _⟩ := h; rfl
  · obtain ⟨rfl, k⟩ := h
    have d1 : ∀ {X : Cx} {pos : Pos} {a b : Str} {j1 j2 : Nat} {p1 p2 : Pos}, PE X (.Dict [some (.Constant (.str a) j1 p1)] [.Constant (.str b) j2 p2] pos) (tDisp (trT [(a, b)])) := pe_disp (pps_cons pe_str pe_str pps_nil) (by rfl) (by rfl) (fun z => by cases z) (by show 1 ≤ 15; decide)
    have d2 : ∀ {X : Cx} {pos : Pos} {a b c d : Str} {j1 j2 j3 j4 : Nat} {p1 p2 p3 p4 : Pos}, PE X (.Dict [some (.Constant (.str a) j1 p1), some (.Constant (.str c) j3 p3)] [.Constant (.str b) j2 p2, .Constant (.str d) j4 p4] pos) (tDisp (trT [(a, b), (c, d)])) := pe_disp (pps_cons pe_str pe_str (pps_cons pe_str pe_str pps_nil)) (by rfl) (by rfl) (fun z => by cases z) (by show 2 ≤ 15; decide)
    refine ⟨_, pss_cons (ps_set (i := 0) scWr.nd rfl (Or.inl rfl) (show PE _ _ (tDisp (trB lineB)) from pe_disp (pps_cons pe_str (crow d1 (by decide +kernel) (by decide)) (pps_cons pe_str (crow d1 (by decide +kernel) (by decide)) (pps_cons pe_str (crow d2 (by decide +kernel) (by decide)) (pps_cons pe_str (crow d1 (by decide +kernel) (by decide)) (pps_cons pe_str (crow d1 (by decide +kernel) (by decide)) (pps_cons pe_str crow0 pps_nil)))))) (by rfl) (by rfl) (fun z => by cases z) (by show 6 ≤ 15; decide)))
      (pss_cons (ps_set (i := 1) scWr.nd rfl (Or.inl rfl) (show PE _ _ (tDisp (trB ringB)) from pe_disp (pps_cons pe_str (crow d2 (by decide +kernel) (by decide)) (pps_cons pe_str (crow d1 (by decide +kernel) (by decide)) (pps_cons pe_str (crow d2 (by decide +kernel) (by decide)) (pps_cons pe_str crow0 pps_nil)))) (by rfl) (by rfl) (fun z => by cases z) (by show 4 ≤ 15; decide)))
      (pss_cons (ps_set (i := 2) scWr.nd rfl (Or.inl rfl) (pe_lst (pa_cons pe_str (pa_cons pe_str (pa_cons pe_str (pa_cons pe_str (pa_cons pe_str pa_nil)))))))
      (pss_one (ps_ret (pe_lst (pa_cons (pe_lst (pa_cons (pv 0) (pa_cons pe_str (pa_cons (pv 2) pa_nil)))) (pa_cons (pe_lst (pa_cons (pv 0) (pa_cons pe_str (pa_cons (pv 2) pa_nil)))) (pa_cons (pe_lst (pa_cons (pv 0) (pa_cons pe_str (pa_cons (pv 2) pa_nil))))
        (pa_cons (pe_lst (pa_cons (pv 1) (pa_cons pe_str (pa_cons (pv 2) pa_nil)))) (pa_cons (pe_lst (pa_cons (pv 1) (pa_cons pe_str (pa_cons (pv 2) pa_nil)))) (pa_cons (pe_lst (pa_cons (pv 1) (pa_cons pe_str (pa_cons (pv 2) pa_nil))))
        (pa_cons (pe_lst (pa_cons (show PE _ _ (tDisp (trB oneB)) from pe_disp (pps_cons pe_str crow0 pps_nil) (by rfl) (by rfl) (fun z => by cases z) (by show 1 ≤ 15; decide)) (pa_cons pe_str (pa_cons (pv 2) pa_nil)))) pa_nil)))))))))))), ?_⟩
    dsimp only [tSeq, tAsg]
    refine disp_book (bk := lineB) (by decide +kernel) (by decide) fun H1 b1 s1 n1 hB1 => ?_
    show tDisp (trB ringB) _ _ (fun x H1 => gName 1 x _ H1 _)
    refine disp_book (bk := ringB) (by decide +kernel) (by decide) fun H2 b2 s2 n2 hB2 => ?_
    refine ⟨by decide +kernel, fun L hL => ?_⟩
    rw [show ([V.str "go", V.str "on", V.str "a", V.str "b", V.str "c"] : List V) = wsW.map V.str from rfl]
    have s3 := Same.new (o := .lst (wsW.map V.str)) hL
    have hL3 : SL (L2.upd H2 L (.lst (wsW.map V.str))) L wsW := upd_same
    have hB13 := (hB1.same s2).same s3
    have hB23 := hB2.same s3
    have s03 := Same.trans (Same.trans s1 s2) s3
    clear hB1 hB2
    generalize L2.upd H2 L (.lst (wsW.map V.str)) = H3 at s3 hL3 hB13 hB23 s03
    have one : ∀ {H4 : Hp} {a b : Addr} {bk : Bk} {st : Str} (ok : dokB bk st = true), H4 a = none → BookAt H4 b bk → SL H4 L wsW → Same H4 (L2.upd H4 a (.lst [.ref b, .str st, .ref L])) ∧ WrAt (L2.upd H4 a (.lst [.ref b, .str st, .ref L])) a := fun {H4 a b bk st} ok n hb hl => by
      have s := Same.new (o := .lst [.ref b, .str st, .ref L]) n
      exact ⟨s, b, L, bk, st, upd_same, hb.same s, dok_by ok, hl.same s⟩
    refine ⟨_, rfl, _, rfl, by show 3 ≤ sizeLine; decide, fun a1 m1 => ?_⟩
    obtain ⟨t1, w1⟩ := one (bk := lineB) (st := "a") (by decide +kernel) m1 hB13 hL3
    generalize L2.upd H3 a1 _ = J1 at t1 w1 ⊢
    refine ⟨_, rfl, _, rfl, by show 3 ≤ sizeLine; decide, fun a2 m2 => ?_⟩
    obtain ⟨t2, w2⟩ := one (bk := lineB) (st := "d") (by decide +kernel) m2 (hB13.same t1) (hL3.same t1)
    have u2 := t2
    have t2 := Same.trans t1 t2
    generalize L2.upd J1 a2 _ = J2 at t2 w2 u2 ⊢
    refine ⟨_, rfl, _, rfl, by show 3 ≤ sizeLine; decide, fun a3 m3 => ?_⟩
    obtain ⟨t3, w3⟩ := one (bk := lineB) (st := "f") (by decide +kernel) m3 (hB13.same t2) (hL3.same t2)
    have u3 := t3
    have t3 := Same.trans t2 t3
    generalize L2.upd J2 a3 _ = J3 at t3 w3 u3 ⊢
    refine ⟨_, rfl, _, rfl, by show 3 ≤ sizeLine; decide, fun a4 m4 => ?_⟩
    obtain ⟨t4, w4⟩ := one (bk := ringB) (st := "a") (by decide +kernel) m4 (hB23.same t3) (hL3.same t3)
    have u4 := t4
    have t4 := Same.trans t3 t4
    generalize L2.upd J3 a4 _ = J4 at t4 w4 u4 ⊢
    refine ⟨_, rfl, _, rfl, by show 3 ≤ sizeLine; decide, fun a5 m5 => ?_⟩
    obtain ⟨t5, w5⟩ := one (bk := ringB) (st := "c") (by decide +kernel) m5 (hB23.same t4) (hL3.same t4)
    have u5 := t5
    have t5 := Same.trans t4 t5
    generalize L2.upd J4 a5 _ = J5 at t5 w5 u5 ⊢
    refine ⟨_, rfl, _, rfl, by show 3 ≤ sizeLine; decide, fun a6 m6 => ?_⟩
    obtain ⟨t6, w6⟩ := one (bk := ringB) (st := "d") (by decide +kernel) m6 (hB23.same t5) (hL3.same t5)
    have u6 := t6
    have t6 := Same.trans t5 t6
    generalize L2.upd J5 a6 _ = J6 at t6 w6 u6 ⊢
    dsimp only [tLst, tCons]
    refine disp_book (bk := oneB) (by decide +kernel) (by decide) fun J7 b7 s7 n7 hB7 => ?_
    refine ⟨_, rfl, by show 3 ≤ sizeLine; decide, fun a7 m7 => ?_⟩
    have t67 := Same.trans t6 s7
    obtain ⟨t7, w7⟩ := one (bk := oneB) (st := "done") (by decide +kernel) m7 hB7 (hL3.same t67)
    have t8 := Same.trans t67 t7
    generalize L2.upd J7 a7 _ = J8 at t7 w7 t8 ⊢
    refine ⟨by show 7 ≤ sizeLine; decide, fun R hR => ?_⟩
    have q := Same.new (o := .lst ([a1, a2, a3, a4, a5, a6, a7].map V.ref)) hR
    have z6 := Same.trans (Same.trans s7 t7) q
    have z5 := Same.trans u6 z6
    have z4 := Same.trans u5 z5
    have z3 := Same.trans u4 z4
    have z2 := Same.trans u3 z3
    have z1 := Same.trans u2 z2
    refine k _ R [a1, a2, a3, a4, a5, a6, a7] (Same.trans (Same.trans s03 t8) q) ((Same.trans s03 t8).free hR) upd_same rfl fun a ha => ?_
    simp only [List.mem_cons, List.not_mem_nil, or_false] at ha
    rcases ha with e | e | e | e | e | e | e <;> rw [e]
    · exact w1.same z1
    · exact w2.same z2
    · exact w3.same z3
    · exact w4.same z4
    · exact w5.same z5
    · exact w6.same z6
    · exact w7.same q
end
end D1
end L2
/-! the law -/
namespace L2
namespace D1
open PySem PySem.Spec PyProof.Rows D2
abbrev sLaw : Stmt := top 66
def spLaw (K : PySem.W.Frag) : Sp := fun vs H Q _ => ∃ (a : Addr) (ns : List Int), vs = [.ref a] ∧ SqL K H a (ns.map V.int) ∧ ns.length ≤ 63 ∧ ∀ H', Q (.bl true) H'
def aB : Bk := [("a", "done", [])]
def bB : Bk := [("b", "done", [])]
theorem mk_same {C : Addr} {H : Hp} {q dx : Addr} (hq : H q = none) (hdx : H dx = none) : Same H (L2.upd (L2.upd H dx (.own q)) q (.ins C dx [])) := fun c u e => by
  rw [upd_ne (ne_of_none e hq), upd_ne (ne_of_none e hdx)]; exact e
theorem wsW_wd : ∀ x ∈ wsW, Wd x := by
  have h : wsW.all wdB = true := by decide +kernel
  exact fun x hx => wd_by (List.all_eq_true.mp h x hx)
theorem nm_ba : NamesOk bB [("b", "a")] := by
  refine ⟨by decide +kernel, rfl, by decide +kernel, fun t ht => ?_, by decide +kernel⟩
  rw [List.mem_singleton.mp ht]
  exact wd_by (by decide +kernel)
theorem ren_ba : renB [("b", "a")] bB = aB := by decide +kernel
section
variable {P : Program} {w : World} {K : PySem.W.Frag} {mg : Str → Option Value} {base : Heap} {C : Addr}
abbrev CPurses (P : Program) (w : World) (K : PySem.W.Frag) (mg : Str → Option Value) (base : Heap) := Cal P w K mg base "_law_purses" 2 ["_law_script", "_law_few"] (spPurses K)
abbrev COneOf (P : Program) (w : World) (K : PySem.W.Frag) (mg : Str → Option Value) (base : Heap) := Cal P w K mg base "_law_one_of" 3 ["_law_purse_here", "_law_some"] spOneOf
abbrev CWritten (P : Program) (w : World) (K : PySem.W.Frag) (mg : Str → Option Value) (base : Heap) : Prop := ∃ f fd, mg "_law_written" = some (.ref f) ∧ PySem.W.keepIn K (.ref f) = true ∧ FnOk P w K mg base CX0 1 f fd [] spWritten ∧ Binds K fd [] []
abbrev CRight (P : Program) (w : World) (K : PySem.W.Frag) (mg : Str → Option Value) (base : Heap) := Cal P w K mg base "_law_right" 11 ["_law_purse_here", "_law_world_here", "_law_words_here"] spRight
abbrev CRenamed2 (P : Program) (w : World) (K : PySem.W.Frag) (mg : Str → Option Value) (base : Heap) (C : Addr) := Cal P w K mg base "renamed" 6 ["desk", "names"] (spRenamed C)
abbrev lwN : List Str := ["_law_script", "_law_purse_here", "_law_world_here", "_law_words_here", "_law_book", "_law_start", "_law_some"]
theorem scLw : FnScope lwN ["_law_script"] (defScope sLaw) := ⟨rfl, rfl, rfl, by decide +kernel, rfl, by decide +kernel, by decide +kernel⟩
theorem ok_law {f : Addr} {fd : FuncData} (F : Fun K "law" "law" sLaw f fd) (D : DTxt K mg C) (MI : CMInit P w K mg base C) (EQ : EqD P w K mg base C) (CP : CPurses P w K mg base) (CO : CRow P w K mg base) (C1 : COneOf P w K mg base) (CW : CWritten P w K mg base) (CR : CRight P w K mg base) (CN : CRenamed2 P w K mg base C) : FnOk P w K mg base CX0 12 f fd ["_law_script"] (spLaw K) := by
  obtain ⟨fI, fdI, mI, FI, bI⟩ := MI
  obtain ⟨fW, fdW, gW, kW, FW, bW⟩ := CW
  refine F.ok scLw (fun vs H Q E h => ?_) (fun cdv A outer s H vs Q E hr h => ?_)
  · obtain ⟨a, ns, rfl, _⟩ := h; rfl
  · obtain ⟨a, ns, rfl, hS, l63, k⟩ := h
    have dB : ∀ {X : Cx} {pos p1 p3 p4 p5 : Pos} {a : Str} {j1 j3 x1 : Nat}, PE X (.Dict [some (.Constant (.str a) j1 p1)] [.Tuple [.Constant (.str "done") j3 p3, .Dict [] [] p4] x1 p5] pos) (tDisp (trB [(a, "done", [])])) := pe_disp (pps_cons pe_str crow0 pps_nil) (by rfl) (by rfl) (fun z => by cases z) (by show 1 ≤ 15; decide)
    refine ⟨_, pss_cons (ps_for PassesOwn.never rfl (pi_list (pe_cal CP (hr.mono (by decide)) rfl (pa_cons (pv 0) (pa_cons pe_int pa_nil)))) (pg_name (i := 1) scLw.nd rfl (Or.inl rfl))
        (pss_cons (ps_asg (pe_cal CO (hr.mono (by decide)) rfl (pa_cons (pv 1) (pa_cons pe_int pa_nil))) (pg_lst rfl (pgs_cons (pg_name (i := 2) scLw.nd rfl (Or.inl rfl)) (pgs_cons (pg_name (i := 3) scLw.nd rfl (Or.inl rfl)) pgs_nil))))
        (pss_cons (ps_asg (pe_cal C1 (hr.mono (by decide)) rfl (pa_cons (pv 1) (pa_cons (pe_call0 FW (hr.mono (by decide)) rfl gW kW bW .nil pass0) pa_nil))) (pg_lst rfl (pgs_cons (pg_name (i := 4) scLw.nd rfl (Or.inl rfl)) (pgs_cons (pg_name (i := 5) scLw.nd rfl (Or.inl rfl)) (pgs_cons (pg_name (i := 6) scLw.nd rfl (Or.inl rfl)) pgs_nil)))))
        (pss_one (ps_if (PW.pt (pw_or (pt_not (pt_val (pe_cal CR (hr.mono (by decide)) rfl (pa_cons (pv 1) (pa_cons (pv 2) (pa_cons (pv 3) pa_nil)))))) (pw_or1 (pt_not (pt_val (pe_cal CR (hr.mono (by decide)) rfl (pa_cons (pv 1) (pa_cons (pe_lst (pa_cons (pv 4) (pa_cons (pv 5) pa_nil))) (pa_cons (pv 6) pa_nil)))))))))  (pss_one ps_never) pss_nil)))))
      (pss_one (ps_ret (pe_cmpR (eqD EQ (hr.mono (by decide))) (pe_make mI FI (hr.mono (by decide)) rfl D.mgC bI .nil pass0 (pa_cons dB (pa_cons pe_str pa_nil)))
        (pe_cal CN (hr.mono (by decide)) rfl (pa_cons (pe_make mI FI (hr.mono (by decide)) rfl D.mgC bI .nil pass0 (pa_cons dB (pa_cons pe_str pa_nil))) (pa_cons (show PE _ _ (tDisp (trT [("b", "a")])) from pe_disp (pps_cons pe_str pe_str pps_nil) (by rfl) (by rfl) (fun z => by cases z) (by show 1 ≤ 15; decide)) pa_nil))) (by rfl)))), ?_⟩
    refine ⟨_, rfl, a, ns, 3, rfl, hS, l63, by decide, by decide, fun H1 L ps s1 hL0 hL al nd nL lp => ?_⟩
    refine ⟨L, rfl, ⟨_, SqL.of hL⟩, ?_⟩
    refine for_list (K := K) (a := L) (xs := ps.map V.ref) (fun i σ H' => ∃ v1 v2 v3 v4 v5 v6 : Option V, σ = [some (.ref a), v1, v2, v3, v4, v5, v6] ∧ H' L = some (.lst (ps.map V.ref)) ∧ ∀ j p, i ≤ j → ps[j]? = some p → Purse H' p 0) ⟨none, none, none, none, none, none, rfl, hL, fun j p _ e => (al p (List.mem_of_getElem? e)).2⟩ (fun i σ H' _ ⟨_, _, _, _, _, _, _, z, _⟩ => SqL.of z) ?_ ?_
    · rintro i x σ H2 hx ⟨v1, v2, v3, v4, v5, v6, rfl, hL2, hp⟩
      obtain ⟨p, e, rfl⟩ := D1.get_map hx
      have hpi := hp i p (Nat.le_refl _) e
      have nLp : L ≠ p := fun h => nL (h ▸ List.mem_of_getElem? e)
      refine ⟨_, rfl, p, 6, 0, rfl, hpi, by decide, by decide, by decide, fun H3 R bk st ws t3 b3 ⟨W, Lw, hR, hW, hLw⟩ wf wok hp3 tt3 => ?_⟩
      have ok := wf.dok wok
      have hRc := cut_some hR
      have hLc := cut_some hLw
      have nLw : Lw ≠ p := by simpa using hLc.1
      refine ⟨R, _, rfl, SqL.of hRc.2, rfl, _, _, rfl, _, _, rfl, rfl, ?_⟩
      refine ⟨_, rfl, rfl, fun H4 R4 as s4 n4 hR4 l7 hwr => ?_⟩
      have hp4 := hp3.same s4
      obtain ⟨g4, bb4, z4, ep4, _⟩ := id hp4
      have nR4 : R4 ≠ p := hp3.ne n4
      refine ⟨p, R4, as.map V.ref, t3, rfl, hp4, hR4, nR4, by rw [List.length_map]; omega, by rw [List.length_map, l7]; decide, by omega, fun j v t5 o hv tt5 hp5 => ?_⟩
      obtain ⟨a1, ha1, rfl⟩ := D1.get_map hv
      obtain ⟨b2, Lz, bk2, st2, e2, hb2, ok2, hLz⟩ := hwr a1 (List.mem_of_getElem? ha1)
      have b45 := But.upd p H4 o
      generalize L2.upd H4 p o = H5 at b45 hp5
      have na1 : a1 ≠ p := fun z => by rw [z, ep4] at e2; cases e2
      have nLz : Lz ≠ p := fun z => by rw [SL, z, ep4] at hLz; cases hLz
      refine ⟨a1, _, rfl, SqL.of (b45 _ _ na1 e2), rfl, _, _, rfl, _, _, rfl, _, _, rfl, rfl, ?_⟩
      have b35 := (But.of s4).trans b45
      have hb5 := hb2.but b45 ep4
      have hLz5 : SL H5 Lz wsW := b45 _ _ nLz hLz
      refine ⟨_, rfl, _, rfl, _, rfl, p, W, Lw, bk, st, ws, t5, rfl, hp5, hW.same b35.cut, ok, b35 _ _ nLw hLc.2, nLw, wok.nd, wok.hi, wok.wd, by omega, fun H6 t6 b6 hp6 tt6 => ⟨_, rfl, iteF ?_⟩⟩
      obtain ⟨g5, bb5, z5, ep5, _⟩ := id hp5
      have hb6 := hb5.but b6 ep5
      have hLz6 : SL H6 Lz wsW := b6 _ _ nLz hLz5
      refine ⟨_, rfl, _, rfl, _, rfl, by show 2 ≤ sizeLine; decide, fun W7 hW7 => ?_⟩
      have s7 := Same.new (o := .lst [.ref b2, .str st2]) hW7
      have hp7 := hp6.same s7
      have nW7 : W7 ≠ p := hp6.ne hW7
      obtain ⟨g7, bb7, z7, ep7, _⟩ := id hp7
      have hb7 := hb6.same s7
      have bc : But p (L2.upd H6 W7 (.lst [.ref b2, .str st2])) (cut [p] (L2.upd H6 W7 (.lst [.ref b2, .str st2]))) := fun c u nc ec => by rw [cut_out (by simpa using nc)]; exact ec
      refine ⟨_, rfl, p, W7, Lz, bk2, st2, wsW, t6, rfl, hp7, ⟨b2, by rw [cut_out (by simpa using nW7)]; exact upd_same, hb7.but bc ep7⟩, ok2, hLz6.same s7, nLz, by decide +kernel, by decide, wsW_wd, by omega, fun H8 t8 b8 hp8 tt8 => ⟨_, rfl, iteF ?_⟩⟩
      have b28 : But p H2 H8 := ((b3.trans b35).trans b6).trans ((But.of s7).trans b8)
      refine ⟨_, _, _, _, _, _, rfl, b28 _ _ nLp hL2, fun j' p' hj e' => ?_⟩
      have nn : p' ≠ p := fun h => by
        rw [h] at e'
        have hil : i < ps.length := (List.getElem?_eq_some_iff.mp e).1
        have := (List.getElem?_inj hil nd).mp (e.trans e'.symm)
        omega
      obtain ⟨g, bb, z, hl, r⟩ := hp j' p' (by omega) e'
      exact ⟨g, bb, z, b28 _ _ nn hl, r⟩
    · rintro σ H2 ⟨v1, v2, v3, v4, v5, v6, rfl, hL2, hp⟩
      have okA : DOk aB "a" := dok_by (by decide +kernel)
      have okB : DOk bB "b" := dok_by (by decide +kernel)
      dsimp only [tRet, tOp, tMake, tCons]
      refine disp_book (bk := aB) (by decide +kernel) (by decide) fun H3 b3 s3 n3 hB3 => ?_
      intro qa dx h1 h2 _
      have m4 := mk_same (C := C) h1 h2
      refine ⟨qa, dx, b3, aB, "a", rfl, upd_same, hB3.same m4, okA, fun H4 b4 hqa _ => ⟨rfl, ?_⟩⟩
      dsimp only [tCall, tMake, tCons]
      refine disp_book (bk := bB) (by decide +kernel) (by decide) fun H5 b5 s5 n5 hB5 => ?_
      intro qb dy h3 h4 _
      have m6 := mk_same (C := C) h3 h4
      refine ⟨qb, dy, b5, bB, "b", rfl, upd_same, hB5.same m6, okB, fun H6 b6 hqb _ => ⟨rfl, ?_⟩⟩
      have s6 : Same H5 H6 := fun c u e => b6 _ _ (ne_of_none e h3) (m6 _ _ e)
      intro N hN
      refine trT_run _ _ [("b", "a")] _ ⟨upd_same, kT [("b", "a")], rfl, by show 1 ≤ 15; decide, ?_⟩
      rw [updd2, merge_id2 (by decide +kernel)]
      have s7 := Same.new (o := .dK (kT [("b", "a")])) hN
      have hN7 : TurnsAt (L2.upd H6 N (.dK (kT [("b", "a")]))) N [("b", "a")] := upd_same
      refine ⟨qb, N, bB, "b", [("b", "a")], rfl, hqb.same s7, okB, hN7, nm_ba, fun H8 R s8 nR hR _ => ?_⟩
      rw [ren_ba] at hR
      refine rEqB_of ⟨aB, aB, "a", _, hqa.same (Same.trans (Same.trans (Same.trans s5 s6) s7) s8), hR, rfl, okA, (decide_eq_true (show ("a" : Str) = goalT [("b", "a")] "b" by decide +kernel)).symm⟩ (k H8)
end
end D1
end L2
/-! the rows of the text, the law's promise -/
namespace L2
namespace D1
open PySem PySem.Spec PyProof.Rows D2
section
variable {K : PySem.W.Frag} {h : Heap} {mg : Str → Option Value}
/-- a def of the text -/
def RowF (K : PySem.W.Frag) (mg : Str → Option Value) (x : Str) (st : Stmt) : Prop := ∃ f fd, mg x = some (.ref f) ∧ Fun K x x st f fd
theorem rowF (X : K.In h) (G : h.Ns mainGlobals mg) {x : Str} {st : Stmt} {f : Addr} {oc kV doc pm cdv ct : Value} {od an : Option Addr} {osl : Array (Option Value)} (a : PySem.W.nsIn K mainGlobals x = some (some (.ref f)))
    (l : K.lookup f = some ⟨oc, od, .func (PySem.W.fnOf x x (defArgs st) (defBody st) (defScope st) .none kV doc pm an cdv ct), osl⟩) (c : PySem.W.codeIn K cdv x = true) (k : PySem.W.keepIn K (.ref f) = true) : RowF K mg x st :=
  ⟨f, _, PySem.W.mg_of X G a, fun_mk l c k⟩
/-- a method of the class at C -/
def RowM (K : PySem.W.Frag) (C : Addr) (m q : Str) (st : Stmt) : Prop := ∃ f fd, PySem.W.findIn K (.ref C) m = some (some (.ref f)) ∧ PySem.W.isFn K (.ref f) = true ∧ Fun K m q st f fd
theorem rowM (_ : K.In h) {C : Addr} {m q : Str} {st : Stmt} {f : Addr} {oc kV doc pm cdv ct : Value} {od an : Option Addr} {osl : Array (Option Value)} (a : PySem.W.findIn K (.ref C) m = some (some (.ref f))) (i : PySem.W.isFn K (.ref f) = true)
    (l : K.lookup f = some ⟨oc, od, .func (PySem.W.fnOf m q (defArgs st) (defBody st) (defScope st) .none kV doc pm an cdv ct), osl⟩) (c : PySem.W.codeIn K cdv q = true) (k : PySem.W.keepIn K (.ref f) = true) : RowM K C m q st :=
  ⟨f, _, a, i, fun_mk l c k⟩
/-- the class Desk -/
structure DeskRow (K : PySem.W.Frag) (mg : Str → Option Value) (C : Addr) : Prop where
  txt : DTxt K mg C
  ins : C8.InsC K C
  mkD : PySem.W.makesIn K C = true
  kp : PySem.W.keepIn K (.ref C) = true
  m0 : RowM K C "__init__" "Desk.__init__" sDInit
  m1 : RowM K C "__eq__" "Desk.__eq__" sDEq
  m2 : RowM K C "book" "Desk.book" sDBook
  m3 : RowM K C "start" "Desk.start" sDStart
theorem deskRow (X : K.In h) (G : h.Ns mainGlobals mg) {C : Addr} (aC : PySem.W.nsIn K mainGlobals "Desk" = some (some (.ref C)))
    (pg : PySem.W.plainGet K C Str.empty = true) (hd : PySem.W.hasDictIn K C = true) (po : PySem.W.plainOver K C = true) (sa : PySem.W.findIn K (.ref C) "__setattr__" = some (some (.builtin "object.__setattr__")))
    (nB : PySem.W.findIn K (.ref C) "_book" = some none) (nS : PySem.W.findIn K (.ref C) "_start" = some none)
    (ca : PySem.W.findIn K (.ref C) "__class__" = some (some (.builtin "object.__class__"))) (gs : PySem.W.specialIn K (.builtin "object.__class__") "__get__" = some (some (.builtin "getset_descriptor.__get__"))) (ss : PySem.W.takesIn K (.builtin "object.__class__") = some true)
    (mo : PySem.W.mroIn K C (.type "object") = some true) (mk : PySem.W.makesIn K C = true) (kp : PySem.W.keepIn K (.ref C) = true)
    (m0 : RowM K C "__init__" "Desk.__init__" sDInit) (m1 : RowM K C "__eq__" "Desk.__eq__" sDEq) (m2 : RowM K C "book" "Desk.book" sDBook) (m3 : RowM K C "start" "Desk.start" sDStart) : ∃ C, DeskRow K mg C :=
  ⟨C, ⟨⟨pg, hd, po, sa⟩, nB, nS, PySem.W.mg_of X G aC⟩, ⟨⟨pg, hd, po, sa⟩, ca, gs, ss, mo, by unfold PySem.W.kitOne; rw [if_pos (beq_self_eq_true _)]⟩, mk, kp, m0, m1, m2, m3⟩
theorem bind1 {x : Str} {st : Stmt} {f : Addr} {fd : FuncData} {a : Str} (F : Fun K x x st f fd) (e : ∀ (kV doc pm : Value) (an : Option Addr) (cdv ct u : Value), bindArgs (PySem.W.fnOf x x (defArgs st) (defBody st) (defScope st) .none kV doc pm an cdv ct) ⟨[u], []⟩ = pure [(a, u)]) (s : Shared) (u : Value) : BindsTo s fd ⟨[u], []⟩ [(a, u)] := by
  obtain ⟨oc, od, kV, doc, pm, an, cdv, ct, osl, rfl, lk, hcd⟩ := F.ex
  exact .of_eq (e kV doc pm an cdv ct u)
theorem paired_rev {α β : Type} {R : α → β → Prop} {xs : List α} {ys : List β} (h : Paired R xs ys) : Paired R xs.reverse ys.reverse := by
  induction h with
  | nil => exact .nil
  | cons a _ ih => rw [List.reverse_cons, List.reverse_cons]; exact paired_cat ih (.cons a .nil)
/-- a call by names: one parameter -/
theorem kb1 {x : Str} {st : Stmt} {f : Addr} {fd : FuncData} {a : Str} (F : Fun K x x st f fd) (e : ∀ (kV doc pm : Value) (an : Option Addr) (cdv ct u : Value), bindArgs (PySem.W.fnOf x x (defArgs st) (defBody st) (defScope st) .none kV doc pm an cdv ct) ⟨[u], []⟩ = pure [(a, u)])
    (e2 : ∀ (kV doc pm : Value) (an : Option Addr) (cdv ct u : Value), bindArgs (PySem.W.fnOf x x (defArgs st) (defBody st) (defScope st) .none kV doc pm an cdv ct) ⟨[], [(a, u)]⟩ = pure [(a, u)]) : KBinds K fd [a] [a] (fun us ws => us ++ ws) fun vs zs => vs ++ id zs := by
  obtain ⟨oc, od, kV, doc, pm, an, cdv, ct, osl, rfl, lk, hcd⟩ := F.ex
  refine ⟨fun s us ws _ hl => ?_, fun r1 r2 => paired_cat r1 r2⟩
  have hl : (us ++ ws).length = 1 := hl
  match us, ws, hl with
  | [], [u], _ => exact .of_eq (e2 kV doc pm an cdv ct u)
  | [u], [], _ => exact .of_eq (e kV doc pm an cdv ct u)
  | [], [], h => cases h
  | [], _ :: _ :: _, h => simp at h
  | [_], _ :: _, h => simp at h
  | _ :: _ :: _, _, h => simp at h
/-- two parameters, the names the other way about -/
theorem kb2 {x : Str} {st : Stmt} {f : Addr} {fd : FuncData} {a b : Str} (F : Fun K x x st f fd) (e : ∀ (kV doc pm : Value) (an : Option Addr) (cdv ct u v : Value), bindArgs (PySem.W.fnOf x x (defArgs st) (defBody st) (defScope st) .none kV doc pm an cdv ct) ⟨[u, v], []⟩ = pure [(a, u), (b, v)])
    (e1 : ∀ (kV doc pm : Value) (an : Option Addr) (cdv ct u v : Value), bindArgs (PySem.W.fnOf x x (defArgs st) (defBody st) (defScope st) .none kV doc pm an cdv ct) ⟨[u], [(b, v)]⟩ = pure [(a, u), (b, v)])
    (e2 : ∀ (kV doc pm : Value) (an : Option Addr) (cdv ct u v : Value), bindArgs (PySem.W.fnOf x x (defArgs st) (defBody st) (defScope st) .none kV doc pm an cdv ct) ⟨[], [(b, v), (a, u)]⟩ = pure [(a, u), (b, v)]) : KBinds K fd [a, b] [b, a] (fun us ws => us ++ ws.reverse) fun vs zs => vs ++ zs.reverse := by
  obtain ⟨oc, od, kV, doc, pm, an, cdv, ct, osl, rfl, lk, hcd⟩ := F.ex
  refine ⟨fun s us ws _ hl => ?_, fun r1 r2 => paired_cat r1 (paired_rev r2)⟩
  have hl : (us ++ ws.reverse).length = 2 := hl
  match us, ws, hl with
  | [], [v, u], _ => exact .of_eq (e2 kV doc pm an cdv ct u v)
  | [u], [v], _ => exact .of_eq (e1 kV doc pm an cdv ct u v)
  | [u, v], [], _ => exact .of_eq (e kV doc pm an cdv ct u v)
  | [], [], h => simp at h
  | [], [_], h => simp at h
  | [], _ :: _ :: _ :: _, h => simp at h
  | [_], [], h => simp at h
  | [_], _ :: _ :: _, h => simp at h
  | [_, _], _ :: _, h => simp at h
  | _ :: _ :: _ :: _, _, h => simp at h
theorem eq_obj : typeLookup (.type "object") (Str.ofString "__eq__") = pure (some (.builtin "object.__eq__")) := by rw [typeLookup_type, builtinLookup_eq_fast]; kernel_rfl
/-- the keys are texts -/
def KStr : List DictEntry → Prop
  | [] => True
  | e :: r => (∃ x t, e.key = .str x t) ∧ KStr r
theorem KStr.all : ∀ {l : List DictEntry}, KStr l → ∀ e ∈ l, ∃ x t, e.key = .str x t
  | _ :: _, ⟨h, _⟩, _, .head _ => h
  | _ :: _, ⟨_, r⟩, _, .tail _ m => r.all _ m
/-- the class has an own == and no own != -/
theorem neF_mk {C f N : Addr} {nm q0 : Str} {bs : List Value} {hdct : Bool} {sn : List Str} {sub : List Value} {ab : Bool} {col : Option Bool} {dd : Option Addr} {k0 k1 k2 k3 k5 : Option Value} {newId : String} {oN oc : Value} {dN od : Option Addr} {es : Array DictEntry} {n : Nat} {sN osl : Array (Option Value)} {dt : Data}
    (l : K.lookup C = some (excClassObj nm q0 C N bs [.type "object"] hdct sn sub ab col dd k0 k1 k2 k3 k5 newId)) (lN : K.lookup N = some ⟨oN, dN, .dict es n, sN⟩) (hk : KStr es.toList)
    (e1 : PySem.W.nsIn K N "__eq__" = some (some (.ref f))) (e2 : PySem.W.nsIn K N "__ne__" = some none) (lI : K.lookup f = some ⟨oc, od, dt, osl⟩) (tI : oc = .type "function") : NeF K C f := by
  refine ⟨fun h x o X hx hc => ?_⟩
  have hN : h.Ns N (fun n => nsFind es n) := ⟨_, es, n, X _ _ lN, rfl, fun e he => hk.all e (Array.mem_toList_iff.mpr he), fun _ => rfl⟩
  refine ⟨o, _, nm, q0, N, bs, hdct, sn, sub, ab, col, dd, k0, k1, k2, k3, k5, newId, _, some (.builtin "object.__eq__"), hx, hc, X _ _ l, hN, ?_, X _ _ lI, tI, PySem.F.mro_object, eq_obj, PySem.W.ns_none_of X hN e2⟩
  unfold PySem.W.nsIn at e1
  rw [lN] at e1
  dsimp only at e1
  split at e1
  · rename_i en he
    show nsFind es _ = _
    unfold nsFind findBy
    rw [← Array.find?_toList, he]
    exact Option.some.inj e1
  · split at e1 <;> cases e1
theorem neRow (X : K.In h) (G : h.Ns mainGlobals mg) {C f N : Addr} {nm q0 : Str} {bs : List Value} {hdct : Bool} {sn : List Str} {sub : List Value} {ab : Bool} {col : Option Bool} {dd : Option Addr} {k0 k1 k2 k3 k5 : Option Value} {newId : String} {oN oc : Value} {dN od : Option Addr} {es : Array DictEntry} {n : Nat} {sN osl : Array (Option Value)} {dt : Data}
    (aC : PySem.W.nsIn K mainGlobals "Desk" = some (some (.ref C))) (a1 : PySem.W.findIn K (.ref C) "__eq__" = some (some (.ref f)))
    (l : K.lookup C = some (excClassObj nm q0 C N bs [.type "object"] hdct sn sub ab col dd k0 k1 k2 k3 k5 newId)) (lN : K.lookup N = some ⟨oN, dN, .dict es n, sN⟩) (hk : KStr es.toList)
    (e1 : PySem.W.nsIn K N "__eq__" = some (some (.ref f))) (e2 : PySem.W.nsIn K N "__ne__" = some none) (lI : K.lookup f = some ⟨oc, od, dt, osl⟩) (tI : oc = .type "function") : ∀ C2 f2, mg "Desk" = some (.ref C2) → PySem.W.findIn K (.ref C2) "__eq__" = some (some (.ref f2)) → NeF K C2 f2 := by
  intro C2 f2 h1 h2
  have h3 := PySem.W.mg_of X G aC
  rw [h1] at h3
  cases h3
  rw [a1] at h2
  cases h2
  exact neF_mk l lN hk e1 e2 lI tI
theorem tuRow {w : World} (X : K.In h) (G : h.Ns mainGlobals mg) {d : Addr} {es : Array DictEntry} {n : Nat} {t1 t2 t3 : Tok} (aT : PySem.W.nsIn K mainGlobals "TURNED" = some (some (.ref d))) (l : K.lookup d = some ⟨.type "dict", none, .dict es n, #[]⟩)
    (lit : PySem.W.KeysLit w.params es.toList) (low : (d == sysModules) = false) (u1 : PySem.W.nsIn K d "says" = some (some (.str "hears" t1))) (u2 : PySem.W.nsIn K d "hears" = some (some (.str "says" t2))) (u3 : PySem.W.nsIn K d "done" = some (some (.str "done" t3))) : TuT K w mg :=
  ⟨d, es, n, t1, t2, t3, PySem.W.mg_of X G aT, ⟨l, lit, low⟩, u1, u2, u3⟩

theorem law_of {P : Program} {w : World} {fa : Addr} (hfa : mg "law" = some (.ref fa)) (T : Free3 mg) (ms : mg "set" = none) (dr : ∃ C, DeskRow K mg C) (nf : ∀ C f, mg "Desk" = some (.ref C) → PySem.W.findIn K (.ref C) "__eq__" = some (some (.ref f)) → NeF K C f) (U : TuT K w mg)
    (r0 : RowF K mg "is_name" sIsName)
    (r1 : RowF K mg "is_row" sIsRow)
    (r2 : RowF K mg "is_state_of" sIsState)
    (r3 : RowF K mg "is_book" sIsBook)
    (r4 : RowF K mg "ordered_turns" sOrdT)
    (r5 : RowF K mg "ordered_book" sOrdB)
    (r6 : RowF K mg "need_desk" sNeed)
    (r7 : RowF K mg "graph_of" sGraph)
    (r8 : RowF K mg "book_with" sBookWith)
    (r9 : RowF K mg "states_of" sStates)
    (r10 : RowF K mg "kind_of" sKind)
    (r11 : RowF K mg "turns_of" sTurnsOf)
    (r12 : RowF K mg "words_of" sWordsOf)
    (r13 : RowF K mg "nodes_from" sNodes)
    (r14 : RowF K mg "come_to" sComeTo)
    (r15 : RowF K mg "begun" sBegun)
    (r16 : RowF K mg "trimmed" sTrimmed)
    (r17 : RowF K mg "turned" sTurned)
    (r18 : RowF K mg "renamed_row" sRenRow)
    (r19 : RowF K mg "are_new_names" sNewNames)
    (r20 : RowF K mg "renamed" sRenamed)
    (r21 : RowF K mg "_law_purse" sPurse)
    (r22 : RowF K mg "_law_mixed" sMixed)
    (r23 : RowF K mg "_law_draw" sDraw)
    (r24 : RowF K mg "_law_purses" sPurses)
    (r25 : RowF K mg "_law_one_of" sOneOf)
    (r26 : RowF K mg "_law_shuffled" sShuf)
    (r27 : RowF K mg "_law_exact" sExact)
    (r28 : RowF K mg "_law_word" sWord)
    (r29 : RowF K mg "_law_words" sWords)
    (r30 : RowF K mg "_law_pool" sPool)
    (r31 : RowF K mg "_law_turns" sTurns)
    (r32 : RowF K mg "_law_world" sWorld)
    (r33 : RowF K mg "_law_shape" sShape)
    (r34 : RowF K mg "_law_row_of" sRowOf)
    (r35 : RowF K mg "_law_desk" sLDesk)
    (r36 : RowF K mg "_law_talks" sTalks)
    (r37 : RowF K mg "_law_behind" sBehind)
    (r38 : RowF K mg "_law_row_ordered" sRowOrd)
    (r39 : RowF K mg "_law_ordered" sOrdered)
    (r40 : RowF K mg "_law_made" sMade)
    (r41 : RowF K mg "_law_due" sDue)
    (r42 : RowF K mg "_law_other_kinds" sOther)
    (r43 : RowF K mg "_law_named" sNamed)
    (r44 : RowF K mg "_law_reached" sReached)
    (r45 : RowF K mg "_law_names" sNames)
    (r46 : RowF K mg "_law_trimmed_right" sTrimR)
    (r47 : RowF K mg "_law_begun_right" sBegR)
    (r48 : RowF K mg "_law_renamed_right" sRenR)
    (r49 : RowF K mg "_law_right" sRight)
    (r50 : RowF K mg "_law_written" sWritten)
    (r51 : RowF K mg "law" sLaw)
    : ∃ fd : FuncData, (∀ (s : Shared) (u : Value), BindsTo s fd ⟨[u], []⟩ [("_law_script", u)]) ∧ ∀ base : Heap, K.In base → base.Ns mainGlobals mg → FnOk P w K mg base CX0 12 fa fd ["_law_script"] (spLaw K) := by
  obtain ⟨C, R⟩ := dr
  obtain ⟨f0, d0, g0, F0⟩ := r0
  obtain ⟨f1, d1, g1, F1⟩ := r1
  obtain ⟨f2, d2, g2, F2⟩ := r2
  obtain ⟨f3, d3, g3, F3⟩ := r3
  obtain ⟨f4, d4, g4, F4⟩ := r4
  obtain ⟨f5, d5, g5, F5⟩ := r5
  obtain ⟨f6, d6, g6, F6⟩ := r6
  obtain ⟨f7, d7, g7, F7⟩ := r7
  obtain ⟨f8, d8, g8, F8⟩ := r8
  obtain ⟨f9, d9, g9, F9⟩ := r9
  obtain ⟨f10, d10, g10, F10⟩ := r10
  obtain ⟨f11, d11, g11, F11⟩ := r11
  obtain ⟨f12, d12, g12, F12⟩ := r12
  obtain ⟨f13, d13, g13, F13⟩ := r13
  obtain ⟨f14, d14, g14, F14⟩ := r14
  obtain ⟨f15, d15, g15, F15⟩ := r15
  obtain ⟨f16, d16, g16, F16⟩ := r16
  obtain ⟨f17, d17, g17, F17⟩ := r17
  obtain ⟨f18, d18, g18, F18⟩ := r18
  obtain ⟨f19, d19, g19, F19⟩ := r19
  obtain ⟨f20, d20, g20, F20⟩ := r20
  obtain ⟨f21, d21, g21, F21⟩ := r21
  obtain ⟨f22, d22, g22, F22⟩ := r22
  obtain ⟨f23, d23, g23, F23⟩ := r23
  obtain ⟨f24, d24, g24, F24⟩ := r24
  obtain ⟨f25, d25, g25, F25⟩ := r25
  obtain ⟨f26, d26, g26, F26⟩ := r26
  obtain ⟨f27, d27, g27, F27⟩ := r27
  obtain ⟨f28, d28, g28, F28⟩ := r28
  obtain ⟨f29, d29, g29, F29⟩ := r29
  obtain ⟨f30, d30, g30, F30⟩ := r30
  obtain ⟨f31, d31, g31, F31⟩ := r31
  obtain ⟨f32, d32, g32, F32⟩ := r32
  obtain ⟨f33, d33, g33, F33⟩ := r33
  obtain ⟨f34, d34, g34, F34⟩ := r34
  obtain ⟨f35, d35, g35, F35⟩ := r35
  obtain ⟨f36, d36, g36, F36⟩ := r36
  obtain ⟨f37, d37, g37, F37⟩ := r37
  obtain ⟨f38, d38, g38, F38⟩ := r38
  obtain ⟨f39, d39, g39, F39⟩ := r39
  obtain ⟨f40, d40, g40, F40⟩ := r40
  obtain ⟨f41, d41, g41, F41⟩ := r41
  obtain ⟨f42, d42, g42, F42⟩ := r42
  obtain ⟨f43, d43, g43, F43⟩ := r43
  obtain ⟨f44, d44, g44, F44⟩ := r44
  obtain ⟨f45, d45, g45, F45⟩ := r45
  obtain ⟨f46, d46, g46, F46⟩ := r46
  obtain ⟨f47, d47, g47, F47⟩ := r47
  obtain ⟨f48, d48, g48, F48⟩ := r48
  obtain ⟨f49, d49, g49, F49⟩ := r49
  obtain ⟨f50, d50, g50, F50⟩ := r50
  obtain ⟨f51, d51, g51, F51⟩ := r51
  rw [hfa] at g51
  cases g51
  obtain ⟨fM0, dM0, aM0, iM0, FM0⟩ := R.m0
  obtain ⟨fM1, dM1, aM1, iM1, FM1⟩ := R.m1
  obtain ⟨fM2, dM2, aM2, iM2, FM2⟩ := R.m2
  obtain ⟨fM3, dM3, aM3, iM3, FM3⟩ := R.m3
  have b0 := F0.binds (ps := ["value"]) fun _ _ _ _ _ _ us hl => match us, hl with | [_], _ => rfl
  have b1 := F1.binds (ps := ["value"]) fun _ _ _ _ _ _ us hl => match us, hl with | [_], _ => rfl
  have b2 := F2.binds (ps := ["book", "value"]) fun _ _ _ _ _ _ us hl => match us, hl with | [_, _], _ => rfl
  have b3 := F3.binds (ps := ["value"]) fun _ _ _ _ _ _ us hl => match us, hl with | [_], _ => rfl
  have b4 := F4.binds (ps := ["turns"]) fun _ _ _ _ _ _ us hl => match us, hl with | [_], _ => rfl
  have b5 := F5.binds (ps := ["book"]) fun _ _ _ _ _ _ us hl => match us, hl with | [_], _ => rfl
  have b6 := F6.binds (ps := ["desk"]) fun _ _ _ _ _ _ us hl => match us, hl with | [_], _ => rfl
  have b7 := F7.binds (ps := ["desk"]) fun _ _ _ _ _ _ us hl => match us, hl with | [_], _ => rfl
  have b8 := F8.binds (ps := ["desk", "state"]) fun _ _ _ _ _ _ us hl => match us, hl with | [_, _], _ => rfl
  have b9 := F9.binds (ps := ["desk"]) fun _ _ _ _ _ _ us hl => match us, hl with | [_], _ => rfl
  have b10 := F10.binds (ps := ["desk", "state"]) fun _ _ _ _ _ _ us hl => match us, hl with | [_, _], _ => rfl
  have b11 := F11.binds (ps := ["desk", "state"]) fun _ _ _ _ _ _ us hl => match us, hl with | [_, _], _ => rfl
  have b12 := F12.binds (ps := ["desk"]) fun _ _ _ _ _ _ us hl => match us, hl with | [_], _ => rfl
  have b13 := F13.binds (ps := ["graph", "start"]) fun _ _ _ _ _ _ us hl => match us, hl with | [_, _], _ => rfl
  have b14 := F14.binds (ps := ["desk"]) fun _ _ _ _ _ _ us hl => match us, hl with | [_], _ => rfl
  have b15 := F15.binds (ps := ["desk", "state"]) fun _ _ _ _ _ _ us hl => match us, hl with | [_, _], _ => rfl
  have b16 := F16.binds (ps := ["desk"]) fun _ _ _ _ _ _ us hl => match us, hl with | [_], _ => rfl
  have b17 := F17.binds (ps := ["desk"]) fun _ _ _ _ _ _ us hl => match us, hl with | [_], _ => rfl
  have b18 := F18.binds (ps := ["row", "names"]) fun _ _ _ _ _ _ us hl => match us, hl with | [_, _], _ => rfl
  have b19 := F19.binds (ps := ["book", "names"]) fun _ _ _ _ _ _ us hl => match us, hl with | [_, _], _ => rfl
  have b20 := F20.binds (ps := ["desk", "names"]) fun _ _ _ _ _ _ us hl => match us, hl with | [_, _], _ => rfl
  have b21 := F21.binds (ps := ["_law_script", "_law_at"]) fun _ _ _ _ _ _ us hl => match us, hl with | [_, _], _ => rfl
  have b22 := F22.binds (ps := ["_law_seed", "_law_turn", "_law_at"]) fun _ _ _ _ _ _ us hl => match us, hl with | [_, _, _], _ => rfl
  have b23 := F23.binds (ps := ["_law_purse_here", "_law_many"]) fun _ _ _ _ _ _ us hl => match us, hl with | [_, _], _ => rfl
  have b24 := F24.binds (ps := ["_law_script", "_law_few"]) fun _ _ _ _ _ _ us hl => match us, hl with | [_, _], _ => rfl
  have b25 := F25.binds (ps := ["_law_purse_here", "_law_some"]) fun _ _ _ _ _ _ us hl => match us, hl with | [_, _], _ => rfl
  have b26 := F26.binds (ps := ["_law_purse_here", "_law_some"]) fun _ _ _ _ _ _ us hl => match us, hl with | [_, _], _ => rfl
  have b27 := F27.binds (ps := ["_law_mine", "_law_theirs"]) fun _ _ _ _ _ _ us hl => match us, hl with | [_, _], _ => rfl
  have b28 := F28.binds (ps := ["_law_purse_here"]) fun _ _ _ _ _ _ us hl => match us, hl with | [_], _ => rfl
  have b29 := F29.binds (ps := ["_law_purse_here", "_law_many"]) fun _ _ _ _ _ _ us hl => match us, hl with | [_, _], _ => rfl
  have b30 := F30.binds (ps := ["_law_purse_here"]) fun _ _ _ _ _ _ us hl => match us, hl with | [_], _ => rfl
  have b31 := F31.binds (ps := ["_law_purse_here", "_law_states", "_law_words_here", "_law_at", "_law_top"]) fun _ _ _ _ _ _ us hl => match us, hl with | [_, _, _, _, _], _ => rfl
  have b32 := F32.binds (ps := ["_law_purse_here", "_law_many", "_law_words_here", "_law_top"]) fun _ _ _ _ _ _ us hl => match us, hl with | [_, _, _, _], _ => rfl
  have b33 := F33.binds (ps := ["_law_purse_here", "_law_words_here"]) fun _ _ _ _ _ _ us hl => match us, hl with | [_, _], _ => rfl
  have b34 := F34.binds (ps := ["_law_purse_here", "_law_top"]) fun _ _ _ _ _ _ us hl => match us, hl with | [_, _], _ => rfl
  have b35 := F35.binds (ps := ["_law_world_here"]) fun _ _ _ _ _ _ us hl => match us, hl with | [_], _ => rfl
  have b36 := F36.binds (ps := ["_law_words_here", "_law_size"]) fun _ _ _ _ _ _ us hl => match us, hl with | [_, _], _ => rfl
  have b37 := F37.binds (ps := ["_law_world_here", "_law_talk"]) fun _ _ _ _ _ _ us hl => match us, hl with | [_, _], _ => rfl
  have b38 := F38.binds (ps := ["_law_row"]) fun _ _ _ _ _ _ us hl => match us, hl with | [_], _ => rfl
  have b39 := F39.binds (ps := ["_law_book"]) fun _ _ _ _ _ _ us hl => match us, hl with | [_], _ => rfl
  have b40 := F40.binds (ps := ["_law_desk_here"]) fun _ _ _ _ _ _ us hl => match us, hl with | [_], _ => rfl
  have b41 := F41.binds (ps := ["_law_world_here"]) fun _ _ _ _ _ _ us hl => match us, hl with | [_], _ => rfl
  have b42 := F42.binds (ps := ["_law_world_here"]) fun _ _ _ _ _ _ us hl => match us, hl with | [_], _ => rfl
  have b43 := F43.binds (ps := ["_law_world_here", "_law_names_here"]) fun _ _ _ _ _ _ us hl => match us, hl with | [_, _], _ => rfl
  have b44 := F44.binds (ps := ["_law_book", "_law_start"]) fun _ _ _ _ _ _ us hl => match us, hl with | [_, _], _ => rfl
  have b45 := F45.binds (ps := ["_law_purse_here", "_law_world_here", "_law_words_here"]) fun _ _ _ _ _ _ us hl => match us, hl with | [_, _, _], _ => rfl
  have b46 := F46.binds (ps := ["_law_desk_here", "_law_world_here"]) fun _ _ _ _ _ _ us hl => match us, hl with | [_, _], _ => rfl
  have b47 := F47.binds (ps := ["_law_desk_here", "_law_world_here"]) fun _ _ _ _ _ _ us hl => match us, hl with | [_, _], _ => rfl
  have b48 := F48.binds (ps := ["_law_purse_here", "_law_desk_here", "_law_world_here", "_law_words_here"]) fun _ _ _ _ _ _ us hl => match us, hl with | [_, _, _, _], _ => rfl
  have b49 := F49.binds (ps := ["_law_purse_here", "_law_world_here", "_law_words_here"]) fun _ _ _ _ _ _ us hl => match us, hl with | [_, _, _], _ => rfl
  have b50 := F50.binds (ps := []) fun _ _ _ _ _ _ us hl => match us, hl with | [], _ => rfl
  have bM0 := FM0.binds (ps := ["self", "book", "start"]) fun _ _ _ _ _ _ us hl => match us, hl with | [_, _, _], _ => rfl
  have bM1 := FM1.binds (ps := ["self", "other"]) fun _ _ _ _ _ _ us hl => match us, hl with | [_, _], _ => rfl
  have bM2 := FM2.binds (ps := ["self"]) fun _ _ _ _ _ _ us hl => match us, hl with | [_], _ => rfl
  have bM3 := FM3.binds (ps := ["self"]) fun _ _ _ _ _ _ us hl => match us, hl with | [_], _ => rfl
  refine ⟨d51, bind1 F51 fun _ _ _ _ _ _ _ => rfl, fun base _ _ => ?_⟩
  have T2 := T.toFree2
  have T1 := T2.toFree
  have D := R.txt
  have GD : FnOk P w K mg base CX0 2 f23 d23 ["_law_purse_here", "_law_many"] spDraw := ok_draw F23 T1 F22 b22 g22
  have cDraw : CDraw P w K mg base := ⟨⟨f23, d23, g23, F23.kp, GD, b23⟩⟩
  have cPurses : CPurses P w K mg base := ⟨⟨f24, d24, g24, F24.kp, ok_purses F24 T1 F21 b21 g21, b24⟩⟩
  have cOne : COne P w K mg base := ⟨⟨f25, d25, g25, F25.kp, ok_oneof F25 T1 F23.kp GD b23 g23, b25⟩⟩
  have cWord : CWord P w K mg base := ⟨⟨f28, d28, g28, F28.kp, ok_word F28 T1 F23.kp GD b23 g23, b28⟩⟩
  have cShuf : CShuf P w K mg base := ⟨⟨f26, d26, g26, F26.kp, ok_shuf F26 T1 F23.kp GD b23 g23, b26⟩⟩
  have cWords : CWords P w K mg base := ⟨⟨f29, d29, g29, F29.kp, ok_words F29 T2 cDraw cWord, b29⟩⟩
  have cPool : CPool P w K mg base := ⟨⟨f30, d30, g30, F30.kp, ok_pool F30 T2 cDraw cWords cShuf, b30⟩⟩
  have cTurns : CTurns P w K mg base := ⟨⟨f31, d31, g31, F31.kp, ok_turns F31 T2 cDraw cOne cShuf, b31⟩⟩
  have cWorld : CWorld P w K mg base := ⟨⟨f32, d32, g32, F32.kp, ok_world F32 T2 cDraw cWords cShuf cTurns, b32⟩⟩
  have cShape : CShape P w K mg base := ⟨⟨f33, d33, g33, F33.kp, ok_shape F33 T2 cDraw cWords, b33⟩⟩
  have cRow : CRow P w K mg base := ⟨⟨f34, d34, g34, F34.kp, ok_row F34 T2 cDraw cPool cWorld cShape, b34⟩⟩
  have cIsName : CIsName P w K mg base := ⟨⟨f0, d0, g0, F0.kp, ok_isname F0 T, b0⟩⟩
  have cIsState : CIsState P w K mg base := ⟨⟨f2, d2, g2, F2.kp, ok_isstate F2 T, b2⟩⟩
  have cIsRow : CIsRow P w K mg base := ⟨⟨f1, d1, g1, F1.kp, ok_isrow F1 T cIsName, b1⟩⟩
  have cOrdT : COrdT P w K mg base := ⟨⟨f4, d4, g4, F4.kp, ok_ordT F4 T, b4⟩⟩
  have cOrdB : COrdB P w K mg base := ⟨⟨f5, d5, g5, F5.kp, ok_ordB F5 T cOrdT, b5⟩⟩
  have cIsBook : CIsBook P w K mg base := ⟨⟨f3, d3, g3, F3.kp, ok_isbook F3 T cIsName cIsRow, b3⟩⟩
  have MI : CMInit P w K mg base C := ⟨fM0, dM0, ⟨R.mkD, aM0, iM0, R.kp⟩, ok_dinit FM0 D cIsBook cIsState cOrdB, bM0⟩
  have EQ : EqD P w K mg base C := ⟨⟨fM1, dM1, _, ok_deqB FM1 T D R.ins, bM1, aM1, iM1, nf C fM1 D.mgC aM1⟩⟩
  have MB : CMBook P w K mg base C := ⟨⟨fM2, dM2, ⟨aM2, iM2, FM2.kp⟩, ok_dbook FM2 D cOrdB, bM2⟩⟩
  have MS : CMStart P w K mg base C := ⟨⟨fM3, dM3, ⟨aM3, iM3, FM3.kp⟩, ok_dstart FM3 D, bM3⟩⟩
  have cNeed : CNeed P w K mg base C := ⟨⟨f6, d6, g6, F6.kp, ok_need F6 T D R.ins, b6⟩⟩
  have cGraph : CGraph P w K mg base C := ⟨⟨f7, d7, g7, F7.kp, ok_graph F7 D MB, b7⟩⟩
  have cBookW : CBookWith P w K mg base C := ⟨⟨f8, d8, g8, F8.kp, ok_bookwith F8 D MB cNeed cIsState, b8⟩⟩
  have cStates : CStates P w K mg base C := ⟨⟨f9, d9, g9, F9.kp, ok_states F9 T D MB cNeed, b9⟩⟩
  have cKind : CKindOf P w K mg base C := ⟨⟨f10, d10, g10, F10.kp, ok_kind F10 cBookW, b10⟩⟩
  have cTurnsOf : CTurnsOf P w K mg base C := ⟨⟨f11, d11, g11, F11.kp, ok_turnsof F11 cBookW, b11⟩⟩
  have cWordsOf : CWordsOf P w K mg base C := ⟨⟨f12, d12, g12, F12.kp, ok_wordsof F12 T cNeed cGraph, b12⟩⟩
  have cNodes : CNodes P w K mg base := ⟨⟨f13, d13, g13, F13.kp, ok_nodes F13, b13⟩⟩
  have GcCome := (ok_cometo F14 T D MS cNeed cGraph cNodes : FnOk P w K mg base CX0 _ f14 d14 ["desk"] _)
  have cCome : CComeTo P w K mg base C := ⟨⟨f14, d14, g14, F14.kp, GcCome, b14⟩⟩
  have kCome : KComeTo P w K mg base C := ⟨⟨f14, d14, _, g14, F14.kp, GcCome, kb1 F14 (fun _ _ _ _ _ _ _ => rfl) (fun _ _ _ _ _ _ _ => rfl)⟩⟩
  have GcBegun := (ok_begun F15 D MI cBookW : FnOk P w K mg base CX0 _ f15 d15 ["desk", "state"] _)
  have cBegun : CBegun P w K mg base C := ⟨⟨f15, d15, g15, F15.kp, GcBegun, b15⟩⟩
  have kBegun : KBegun P w K mg base C := ⟨⟨f15, d15, _, g15, F15.kp, GcBegun, kb2 F15 (fun _ _ _ _ _ _ _ _ => rfl) (fun _ _ _ _ _ _ _ _ => rfl) (fun _ _ _ _ _ _ _ _ => rfl)⟩⟩
  have GcTrim := (ok_trimmed F16 D MB MS MI cCome : FnOk P w K mg base CX0 _ f16 d16 ["desk"] _)
  have cTrim : CTrimmed P w K mg base C := ⟨⟨f16, d16, g16, F16.kp, GcTrim, b16⟩⟩
  have kTrim : KTrimmed P w K mg base C := ⟨⟨f16, d16, _, g16, F16.kp, GcTrim, kb1 F16 (fun _ _ _ _ _ _ _ => rfl) (fun _ _ _ _ _ _ _ => rfl)⟩⟩
  have GcTurned := (ok_turned F17 D U cNeed MB MS MI : FnOk P w K mg base CX0 _ f17 d17 ["desk"] _)
  have cTurned : CTurned P w K mg base C := ⟨⟨f17, d17, g17, F17.kp, GcTurned, b17⟩⟩
  have kTurned : KTurned P w K mg base C := ⟨⟨f17, d17, _, g17, F17.kp, GcTurned, kb1 F17 (fun _ _ _ _ _ _ _ => rfl) (fun _ _ _ _ _ _ _ => rfl)⟩⟩
  have cRenRow : CRenRow P w K mg base := ⟨⟨f18, d18, g18, F18.kp, ok_renrow F18, b18⟩⟩
  have cNewN : CNewNames P w K mg base := ⟨⟨f19, d19, g19, F19.kp, ok_newnames F19 T ms cIsName, b19⟩⟩
  have GcRen := (ok_renamed F20 D cNeed cNewN cRenRow MB MS MI : FnOk P w K mg base CX0 _ f20 d20 ["desk", "names"] _)
  have cRen : CRenamed P w K mg base C := ⟨⟨f20, d20, g20, F20.kp, GcRen, b20⟩⟩
  have kRen : KRenamed P w K mg base C := ⟨⟨f20, d20, _, g20, F20.kp, GcRen, kb2 F20 (fun _ _ _ _ _ _ _ _ => rfl) (fun _ _ _ _ _ _ _ _ => rfl) (fun _ _ _ _ _ _ _ _ => rfl)⟩⟩
  have cE : CExact P w K mg base 5 := ⟨⟨f27, d27, g27, F27.kp, ok_exact F27 T g27 b27 5, b27⟩⟩
  have cLDesk : CLDesk P w K mg base C := ⟨⟨f35, d35, g35, F35.kp, ok_ldesk F35 T D MI, b35⟩⟩
  have cBehind : CBehind P w K mg base := ⟨⟨f37, d37, g37, F37.kp, ok_behind F37, b37⟩⟩
  have cTalks : CTalks P w K mg base := ⟨⟨f36, d36, g36, F36.kp, ok_talks F36 T, b36⟩⟩
  have cRowOrd : CRowOrd P w K mg base := ⟨⟨f38, d38, g38, F38.kp, ok_roword F38 T, b38⟩⟩
  have cOrdered : COrdered P w K mg base := ⟨⟨f39, d39, g39, F39.kp, ok_ordered F39 T cRowOrd, b39⟩⟩
  have cMade : CMade P w K mg base C := ⟨⟨f40, d40, g40, F40.kp, ok_made F40 D MB MS, b40⟩⟩
  have cDue : CDue P w K mg base := ⟨⟨f41, d41, g41, F41.kp, ok_due F41 cOrdered, b41⟩⟩
  have cOther : COther P w K mg base := ⟨⟨f42, d42, g42, F42.kp, ok_other F42 T, b42⟩⟩
  have cNamed : CNamed P w K mg base := ⟨⟨f43, d43, g43, F43.kp, ok_named F43 T, b43⟩⟩
  have cReached : CReached P w K mg base := ⟨⟨f44, d44, g44, F44.kp, ok_reached F44 T, b44⟩⟩
  have cNames : CNames P w K mg base := ⟨⟨f45, d45, g45, F45.kp, ok_names F45 T cDraw cShuf, b45⟩⟩
  have cTrimR : CTrimR P w K mg base C := ⟨⟨f46, d46, g46, F46.kp, ok_trimr F46 T cE EQ cReached cMade cDue cTrim kTrim cCome kCome cStates, b46⟩⟩
  have cBegR : CBegR P w K mg base C := ⟨⟨f47, d47, g47, F47.kp, ok_begr F47 cE EQ cReached cMade cDue cBegun kBegun cCome cTrimR, b47⟩⟩
  have cRenR : CRenR P w K mg base C := ⟨⟨f48, d48, g48, F48.kp, ok_renr F48 T cE EQ cShuf cNames cNamed cRen kRen cMade cDue cTalks cBehind cTurned cTrim cCome, b48⟩⟩
  have cRight : CRight P w K mg base := ⟨⟨f49, d49, g49, F49.kp, ok_right F49 cE EQ cMade cDue cLDesk cTurned kTurned cOther cWordsOf cCome cTurnsOf cKind cTrimR cBegR cRenR, b49⟩⟩
  have cWritten : CWritten P w K mg base := ⟨f50, d50, g50, F50.kp, ok_written F50, b50⟩
  exact ok_law F51 D MI EQ cPurses cRow cOne cWritten cRight cRen
end
/-- what the head asks -/
theorem law_walk {l : PySem.W.OpenLaw} {q : Program} {loose : List Str} {XP : (Str → Option Value) → Heap → Prop} {YP : World → Heap → Prop} {d : DefRec} {K : Params → PySem.W.Frag} (hn : l.most = some 63) (hdf : d.params.defaults = []) (hY : ∀ (w : World) (h : Heap), YP w h → (K w.params).In h)
    (F : ∀ (w : World) (mg : Str → Option Value) (fa : Addr) (h : Heap), (K w.params).In h → h.Ns mainGlobals mg → mg d.name = some (.ref fa) →
      ∃ fd : FuncData, (∀ (s : Shared) (u : Value), BindsTo s fd ⟨[u], []⟩ [("_law_script", u)]) ∧ ∀ base : Heap, (K w.params).In base → base.Ns mainGlobals mg → FnOk l.prog w (K w.params) mg base CX0 12 fa fd ["_law_script"] (spLaw (K w.params))) :
    PySem.W.WalkO q loose XP YP l.row.toRowW d [] (fun f vs => PySem.call f vs) :=
  L2.walk_of (n := 63) (k := 12) (x := "_law_script") (CX := fun _ => CX0) (sp := fun w => spLaw (K w.params)) hn (by decide) hdf ⟨rfl, by decide, by decide⟩ hY F (fun _ _ a ns hl _ hS => ⟨a, ns, rfl, hS, hl, fun _ => rfl⟩) fun _ _ _ _ _ z => z
end D1
end L2
open PySem PySem.W PyProof.Rows in
set_option maxRecDepth 100000 in
set_option maxHeartbeats 0 in
theorem PySem.Challenge.cw_endswell_k05_whole_trimmed_turned_rename_holds : PySem.Challenge.rw_endswell_k05_whole_trimmed_turned_rename.Holds :=
  head (by
  k_fill
  refine L2.D1.law_walk (l := PySem.Challenge.rw_endswell_k05_whole_trimmed_turned_rename) rfl rfl (fun w h Y => PySem.W.kIn_of Y) ?F
  intro w mg fa h KX G hmg
  have f0 : L2.D1.RowF (L2.KOf KX) mg "is_name" L2.D1.sIsName := by
    dsimp only [L2.KOf]
    refine' L2.D1.rowF KX G ?a ?l ?c ?k
    (case a => k_is)
    (case l => k_is)
    (case c => k_is)
    (case k => k_is)
  have f1 : L2.D1.RowF (L2.KOf KX) mg "is_row" L2.D1.sIsRow := by
    dsimp only [L2.KOf]
    refine' L2.D1.rowF KX G ?a ?l ?c ?k
    (case a => k_is)
    (case l => k_is)
    (case c => k_is)
    (case k => k_is)
  have f2 : L2.D1.RowF (L2.KOf KX) mg "is_state_of" L2.D1.sIsState := by
    dsimp only [L2.KOf]
    refine' L2.D1.rowF KX G ?a ?l ?c ?k
    (case a => k_is)
    (case l => k_is)
    (case c => k_is)
    (case k => k_is)
  have f3 : L2.D1.RowF (L2.KOf KX) mg "is_book" L2.D1.sIsBook := by
    dsimp only [L2.KOf]
    refine' L2.D1.rowF KX G ?a ?l ?c ?k
    (case a => k_is)
    (case l => k_is)
    (case c => k_is)
    (case k => k_is)
  have f4 : L2.D1.RowF (L2.KOf KX) mg "ordered_turns" L2.D1.sOrdT := by
    dsimp only [L2.KOf]
    refine' L2.D1.rowF KX G ?a ?l ?c ?k
    (case a => k_is)
    (case l => k_is)
    (case c => k_is)
    (case k => k_is)
  have f5 : L2.D1.RowF (L2.KOf KX) mg "ordered_book" L2.D1.sOrdB := by
    dsimp only [L2.KOf]
    refine' L2.D1.rowF KX G ?a ?l ?c ?k
    (case a => k_is)
    (case l => k_is)
    (case c => k_is)
    (case k => k_is)
  have f6 : L2.D1.RowF (L2.KOf KX) mg "need_desk" L2.D1.sNeed := by
    dsimp only [L2.KOf]
    refine' L2.D1.rowF KX G ?a ?l ?c ?k
    (case a => k_is)
    (case l => k_is)
    (case c => k_is)
    (case k => k_is)
  have f7 : L2.D1.RowF (L2.KOf KX) mg "graph_of" L2.D1.sGraph := by
    dsimp only [L2.KOf]
    refine' L2.D1.rowF KX G ?a ?l ?c ?k
    (case a => k_is)
    (case l => k_is)
    (case c => k_is)
    (case k => k_is)
  have f8 : L2.D1.RowF (L2.KOf KX) mg "book_with" L2.D2.sBookWith := by
    dsimp only [L2.KOf]
    refine' L2.D1.rowF KX G ?a ?l ?c ?k
    (case a => k_is)
    (case l => k_is)
    (case c => k_is)
    (case k => k_is)
  have f9 : L2.D1.RowF (L2.KOf KX) mg "states_of" L2.D2.sStates := by
    dsimp only [L2.KOf]
    refine' L2.D1.rowF KX G ?a ?l ?c ?k
    (case a => k_is)
    (case l => k_is)
    (case c => k_is)
    (case k => k_is)
  have f10 : L2.D1.RowF (L2.KOf KX) mg "kind_of" L2.D2.sKind := by
    dsimp only [L2.KOf]
    refine' L2.D1.rowF KX G ?a ?l ?c ?k
    (case a => k_is)
    (case l => k_is)
    (case c => k_is)
    (case k => k_is)
  have f11 : L2.D1.RowF (L2.KOf KX) mg "turns_of" L2.D2.sTurnsOf := by
    dsimp only [L2.KOf]
    refine' L2.D1.rowF KX G ?a ?l ?c ?k
    (case a => k_is)
    (case l => k_is)
    (case c => k_is)
    (case k => k_is)
  have f12 : L2.D1.RowF (L2.KOf KX) mg "words_of" L2.D2.sWordsOf := by
    dsimp only [L2.KOf]
    refine' L2.D1.rowF KX G ?a ?l ?c ?k
    (case a => k_is)
    (case l => k_is)
    (case c => k_is)
    (case k => k_is)
  have f13 : L2.D1.RowF (L2.KOf KX) mg "nodes_from" L2.D2.sNodes := by
    dsimp only [L2.KOf]
    refine' L2.D1.rowF KX G ?a ?l ?c ?k
    (case a => k_is)
    (case l => k_is)
    (case c => k_is)
    (case k => k_is)
  have f14 : L2.D1.RowF (L2.KOf KX) mg "come_to" L2.D1.sComeTo := by
    dsimp only [L2.KOf]
    refine' L2.D1.rowF KX G ?a ?l ?c ?k
    (case a => k_is)
    (case l => k_is)
    (case c => k_is)
    (case k => k_is)
  have f15 : L2.D1.RowF (L2.KOf KX) mg "begun" L2.D1.sBegun := by
    dsimp only [L2.KOf]
    refine' L2.D1.rowF KX G ?a ?l ?c ?k
    (case a => k_is)
    (case l => k_is)
    (case c => k_is)
    (case k => k_is)
  have f16 : L2.D1.RowF (L2.KOf KX) mg "trimmed" L2.D1.sTrimmed := by
    dsimp only [L2.KOf]
    refine' L2.D1.rowF KX G ?a ?l ?c ?k
    (case a => k_is)
    (case l => k_is)
    (case c => k_is)
    (case k => k_is)
  have f17 : L2.D1.RowF (L2.KOf KX) mg "turned" L2.D1.sTurned := by
    dsimp only [L2.KOf]
    refine' L2.D1.rowF KX G ?a ?l ?c ?k
    (case a => k_is)
    (case l => k_is)
    (case c => k_is)
    (case k => k_is)
  have f18 : L2.D1.RowF (L2.KOf KX) mg "renamed_row" L2.D1.sRenRow := by
    dsimp only [L2.KOf]
    refine' L2.D1.rowF KX G ?a ?l ?c ?k
    (case a => k_is)
    (case l => k_is)
    (case c => k_is)
    (case k => k_is)
  have f19 : L2.D1.RowF (L2.KOf KX) mg "are_new_names" L2.D1.sNewNames := by
    dsimp only [L2.KOf]
    refine' L2.D1.rowF KX G ?a ?l ?c ?k
    (case a => k_is)
    (case l => k_is)
    (case c => k_is)
    (case k => k_is)
  have f20 : L2.D1.RowF (L2.KOf KX) mg "renamed" L2.D1.sRenamed := by
    dsimp only [L2.KOf]
    refine' L2.D1.rowF KX G ?a ?l ?c ?k
    (case a => k_is)
    (case l => k_is)
    (case c => k_is)
    (case k => k_is)
  have f21 : L2.D1.RowF (L2.KOf KX) mg "_law_purse" L2.D1.sPurse := by
    dsimp only [L2.KOf]
    refine' L2.D1.rowF KX G ?a ?l ?c ?k
    (case a => k_is)
    (case l => k_is)
    (case c => k_is)
    (case k => k_is)
  have f22 : L2.D1.RowF (L2.KOf KX) mg "_law_mixed" L2.D1.sMixed := by
    dsimp only [L2.KOf]
    refine' L2.D1.rowF KX G ?a ?l ?c ?k
    (case a => k_is)
    (case l => k_is)
    (case c => k_is)
    (case k => k_is)
  have f23 : L2.D1.RowF (L2.KOf KX) mg "_law_draw" L2.D1.sDraw := by
    dsimp only [L2.KOf]
    refine' L2.D1.rowF KX G ?a ?l ?c ?k
    (case a => k_is)
    (case l => k_is)
    (case c => k_is)
    (case k => k_is)
  have f24 : L2.D1.RowF (L2.KOf KX) mg "_law_purses" L2.D1.sPurses := by
    dsimp only [L2.KOf]
    refine' L2.D1.rowF KX G ?a ?l ?c ?k
    (case a => k_is)
    (case l => k_is)
    (case c => k_is)
    (case k => k_is)
  have f25 : L2.D1.RowF (L2.KOf KX) mg "_law_one_of" L2.D1.sOneOf := by
    dsimp only [L2.KOf]
    refine' L2.D1.rowF KX G ?a ?l ?c ?k
    (case a => k_is)
    (case l => k_is)
    (case c => k_is)
    (case k => k_is)
  have f26 : L2.D1.RowF (L2.KOf KX) mg "_law_shuffled" L2.D1.sShuf := by
    dsimp only [L2.KOf]
    refine' L2.D1.rowF KX G ?a ?l ?c ?k
    (case a => k_is)
    (case l => k_is)
    (case c => k_is)
    (case k => k_is)
  have f27 : L2.D1.RowF (L2.KOf KX) mg "_law_exact" L2.D1.sExact := by
    dsimp only [L2.KOf]
    refine' L2.D1.rowF KX G ?a ?l ?c ?k
    (case a => k_is)
    (case l => k_is)
    (case c => k_is)
    (case k => k_is)
  have f28 : L2.D1.RowF (L2.KOf KX) mg "_law_word" L2.D1.sWord := by
    dsimp only [L2.KOf]
    refine' L2.D1.rowF KX G ?a ?l ?c ?k
    (case a => k_is)
    (case l => k_is)
    (case c => k_is)
    (case k => k_is)
  have f29 : L2.D1.RowF (L2.KOf KX) mg "_law_words" L2.D1.sWords := by
    dsimp only [L2.KOf]
    refine' L2.D1.rowF KX G ?a ?l ?c ?k
    (case a => k_is)
    (case l => k_is)
    (case c => k_is)
    (case k => k_is)
  have f30 : L2.D1.RowF (L2.KOf KX) mg "_law_pool" L2.D1.sPool := by
    dsimp only [L2.KOf]
    refine' L2.D1.rowF KX G ?a ?l ?c ?k
    (case a => k_is)
    (case l => k_is)
    (case c => k_is)
    (case k => k_is)
  have f31 : L2.D1.RowF (L2.KOf KX) mg "_law_turns" L2.D1.sTurns := by
    dsimp only [L2.KOf]
    refine' L2.D1.rowF KX G ?a ?l ?c ?k
    (case a => k_is)
    (case l => k_is)
    (case c => k_is)
    (case k => k_is)
  have f32 : L2.D1.RowF (L2.KOf KX) mg "_law_world" L2.D1.sWorld := by
    dsimp only [L2.KOf]
    refine' L2.D1.rowF KX G ?a ?l ?c ?k
    (case a => k_is)
    (case l => k_is)
    (case c => k_is)
    (case k => k_is)
  have f33 : L2.D1.RowF (L2.KOf KX) mg "_law_shape" L2.D1.sShape := by
    dsimp only [L2.KOf]
    refine' L2.D1.rowF KX G ?a ?l ?c ?k
    (case a => k_is)
    (case l => k_is)
    (case c => k_is)
    (case k => k_is)
  have f34 : L2.D1.RowF (L2.KOf KX) mg "_law_row_of" L2.D1.sRowOf := by
    dsimp only [L2.KOf]
    refine' L2.D1.rowF KX G ?a ?l ?c ?k
    (case a => k_is)
    (case l => k_is)
    (case c => k_is)
    (case k => k_is)
  have f35 : L2.D1.RowF (L2.KOf KX) mg "_law_desk" L2.D1.sLDesk := by
    dsimp only [L2.KOf]
    refine' L2.D1.rowF KX G ?a ?l ?c ?k
    (case a => k_is)
    (case l => k_is)
    (case c => k_is)
    (case k => k_is)
  have f36 : L2.D1.RowF (L2.KOf KX) mg "_law_talks" L2.D1.sTalks := by
    dsimp only [L2.KOf]
    refine' L2.D1.rowF KX G ?a ?l ?c ?k
    (case a => k_is)
    (case l => k_is)
    (case c => k_is)
    (case k => k_is)
  have f37 : L2.D1.RowF (L2.KOf KX) mg "_law_behind" L2.D1.sBehind := by
    dsimp only [L2.KOf]
    refine' L2.D1.rowF KX G ?a ?l ?c ?k
    (case a => k_is)
    (case l => k_is)
    (case c => k_is)
    (case k => k_is)
  have f38 : L2.D1.RowF (L2.KOf KX) mg "_law_row_ordered" L2.D1.sRowOrd := by
    dsimp only [L2.KOf]
    refine' L2.D1.rowF KX G ?a ?l ?c ?k
    (case a => k_is)
    (case l => k_is)
    (case c => k_is)
    (case k => k_is)
  have f39 : L2.D1.RowF (L2.KOf KX) mg "_law_ordered" L2.D1.sOrdered := by
    dsimp only [L2.KOf]
    refine' L2.D1.rowF KX G ?a ?l ?c ?k
    (case a => k_is)
    (case l => k_is)
    (case c => k_is)
    (case k => k_is)
  have f40 : L2.D1.RowF (L2.KOf KX) mg "_law_made" L2.D1.sMade := by
    dsimp only [L2.KOf]
    refine' L2.D1.rowF KX G ?a ?l ?c ?k
    (case a => k_is)
    (case l => k_is)
    (case c => k_is)
    (case k => k_is)
  have f41 : L2.D1.RowF (L2.KOf KX) mg "_law_due" L2.D1.sDue := by
    dsimp only [L2.KOf]
    refine' L2.D1.rowF KX G ?a ?l ?c ?k
    (case a => k_is)
    (case l => k_is)
    (case c => k_is)
    (case k => k_is)
  have f42 : L2.D1.RowF (L2.KOf KX) mg "_law_other_kinds" L2.D1.sOther := by
    dsimp only [L2.KOf]
    refine' L2.D1.rowF KX G ?a ?l ?c ?k
    (case a => k_is)
    (case l => k_is)
    (case c => k_is)
    (case k => k_is)
  have f43 : L2.D1.RowF (L2.KOf KX) mg "_law_named" L2.D1.sNamed := by
    dsimp only [L2.KOf]
    refine' L2.D1.rowF KX G ?a ?l ?c ?k
    (case a => k_is)
    (case l => k_is)
    (case c => k_is)
    (case k => k_is)
  have f44 : L2.D1.RowF (L2.KOf KX) mg "_law_reached" L2.D1.sReached := by
    dsimp only [L2.KOf]
    refine' L2.D1.rowF KX G ?a ?l ?c ?k
    (case a => k_is)
    (case l => k_is)
    (case c => k_is)
    (case k => k_is)
  have f45 : L2.D1.RowF (L2.KOf KX) mg "_law_names" L2.D1.sNames := by
    dsimp only [L2.KOf]
    refine' L2.D1.rowF KX G ?a ?l ?c ?k
    (case a => k_is)
    (case l => k_is)
    (case c => k_is)
    (case k => k_is)
  have f46 : L2.D1.RowF (L2.KOf KX) mg "_law_trimmed_right" L2.D1.sTrimR := by
    dsimp only [L2.KOf]
    refine' L2.D1.rowF KX G ?a ?l ?c ?k
    (case a => k_is)
    (case l => k_is)
    (case c => k_is)
    (case k => k_is)
  have f47 : L2.D1.RowF (L2.KOf KX) mg "_law_begun_right" L2.D1.sBegR := by
    dsimp only [L2.KOf]
    refine' L2.D1.rowF KX G ?a ?l ?c ?k
    (case a => k_is)
    (case l => k_is)
    (case c => k_is)
    (case k => k_is)
  have f48 : L2.D1.RowF (L2.KOf KX) mg "_law_renamed_right" L2.D1.sRenR := by
    dsimp only [L2.KOf]
    refine' L2.D1.rowF KX G ?a ?l ?c ?k
    (case a => k_is)
    (case l => k_is)
    (case c => k_is)
    (case k => k_is)
  have f49 : L2.D1.RowF (L2.KOf KX) mg "_law_right" L2.D1.sRight := by
    dsimp only [L2.KOf]
    refine' L2.D1.rowF KX G ?a ?l ?c ?k
    (case a => k_is)
    (case l => k_is)
    (case c => k_is)
    (case k => k_is)
  have f50 : L2.D1.RowF (L2.KOf KX) mg "_law_written" L2.D1.sWritten := by
    dsimp only [L2.KOf]
    refine' L2.D1.rowF KX G ?a ?l ?c ?k
    (case a => k_is)
    (case l => k_is)
    (case c => k_is)
    (case k => k_is)
  have f51 : L2.D1.RowF (L2.KOf KX) mg "law" L2.D1.sLaw := by
    dsimp only [L2.KOf]
    refine' L2.D1.rowF KX G ?a ?l ?c ?k
    (case a => k_is)
    (case l => k_is)
    (case c => k_is)
    (case k => k_is)
  have dr : ∃ C, L2.D1.DeskRow (L2.KOf KX) mg C := by
    dsimp only [L2.KOf]
    refine' L2.D1.deskRow KX G ?aC ?pg ?hd ?po ?sa ?nB ?nS ?ca ?gs ?ss ?mo ?mk ?kp ?m0 ?m1 ?m2 ?m3
    (case aC => k_is)
    (case pg => k_is)
    (case hd => k_is)
    (case po => k_is)
    (case sa => k_is)
    (case nB => k_is)
    (case nS => k_is)
    (case ca => k_is)
    (case gs => k_is)
    (case ss => k_is)
    (case mo => k_is)
    (case mk => k_is)
    (case kp => k_is)
    (case m0 => refine' L2.D1.rowM KX ?a ?i ?l ?c ?k; (case a => k_is); (case i => k_is); (case l => k_is); (case c => k_is); (case k => k_is))
    (case m1 => refine' L2.D1.rowM KX ?a ?i ?l ?c ?k; (case a => k_is); (case i => k_is); (case l => k_is); (case c => k_is); (case k => k_is))
    (case m2 => refine' L2.D1.rowM KX ?a ?i ?l ?c ?k; (case a => k_is); (case i => k_is); (case l => k_is); (case c => k_is); (case k => k_is))
    (case m3 => refine' L2.D1.rowM KX ?a ?i ?l ?c ?k; (case a => k_is); (case i => k_is); (case l => k_is); (case c => k_is); (case k => k_is))
  have nf : ∀ C f, mg "Desk" = some (.ref C) → PySem.W.findIn (L2.KOf KX) (.ref C) "__eq__" = some (some (.ref f)) → L2.D2.NeF (L2.KOf KX) C f := by
    dsimp only [L2.KOf]
    refine' L2.D1.neRow KX G ?aC ?a1 ?l ?lN ?hk ?e1 ?e2 ?lI ?tI
    (case aC => k_is)
    (case a1 => k_is)
    (case l => k_is)
    (case lN => k_is)
    (case e1 => k_is)
    (case e2 => k_is)
    (case lI => k_is)
    (case tI => rfl)
    (case hk => repeat (first | exact True.intro | refine And.intro (Exists.intro _ (Exists.intro _ rfl)) ?_))
  have U : L2.D1.TuT (L2.KOf KX) w mg := by
    dsimp only [L2.KOf]
    refine' L2.D1.tuRow KX G ?aT ?l ?lit ?low ?u1 ?u2 ?u3
    (case aT => k_is)
    (case l => k_is)
    (case u1 => k_is)
    (case u2 => k_is)
    (case u3 => k_is)
    (case low => rfl)
    (case lit => repeat (first | exact True.intro | refine And.intro (Exists.intro _ (Exists.intro _ (And.intro rfl rfl))) ?_))
  have T : L2.D1.Free3 mg := ⟨⟨⟨PySem.W.mg_none_of KX G (by k_is), PySem.W.mg_none_of KX G (by k_is), PySem.W.mg_none_of KX G (by k_is), PySem.W.mg_none_of KX G (by k_is), PySem.W.mg_none_of KX G (by k_is), PySem.W.mg_none_of KX G (by k_is), PySem.W.mg_none_of KX G (by k_is), PySem.W.mg_none_of KX G (by k_is), PySem.W.mg_none_of KX G (by k_is)⟩, PySem.W.mg_none_of KX G (by k_is), PySem.W.mg_none_of KX G (by k_is), PySem.W.mg_none_of KX G (by k_is), PySem.W.mg_none_of KX G (by k_is), PySem.W.mg_none_of KX G (by k_is), PySem.W.mg_none_of KX G (by k_is), PySem.W.mg_none_of KX G (by k_is)⟩, ⟨_, PySem.W.mg_of KX G (by k_is)⟩, ⟨_, PySem.W.mg_of KX G (by k_is)⟩⟩
  have ms : mg "set" = none := PySem.W.mg_none_of KX G (by k_is)
  exact L2.D1.law_of hmg T ms dr nf U f0 f1 f2 f3 f4 f5 f6 f7 f8 f9 f10 f11 f12 f13 f14 f15 f16 f17 f18 f19 f20 f21 f22 f23 f24 f25 f26 f27 f28 f29 f30 f31 f32 f33 f34 f35 f36 f37 f38 f39 f40 f41 f42 f43 f44 f45 f46 f47 f48 f49 f50 f51)
