import PyProof.Rows.All
import Wide.All
import OpenK.AllK
import Wide.FinOn
import HandS.ForMost
import HandS.Wide
import HandS.WideBits
import HandS.WideMore
import HandS.More
import HandS.DictComp
import HandS.Walk
import HandS.Conv
import HandS.Flow
import HandS.TryOnly
import HandS.IsInst
import HandS.Zip
import HandS.Codes
import HandS.OwnEq
import HandS.Style
import HandS.DictTup
import PyProof.DictMoreH
import KE.KEqNest
import HandS.Comp
import HandS.SortOrd
import KE.KSortTupAny
import KE.KDictWalk
import KE.KDictList
import KE.KDictSum
import HandS.MakeKw
import HandS.WordsDict
import HandS.CallLocal
import HandS.RevRange
import KE.KDictKeyed
import HandS.ListItems
import KE.DatumOrd
import KE.SortData
import HandS.Defaults
import HandS.ExcInit
import HandS.ExcValue
import HandS.MakeKwOnly
import HandS.WordsExc
import KE.RegKIsAll
import PyProof.EqKinds
import PyProof.InstNe
import PySem.Challenge.RW_endswell_k23_whole_rescues
set_option Elab.async false
set_option linter.all false
set_option maxRecDepth 100000
set_option exponentiation.threshold 4000
section
open PySem PySem.W PyProof.Rows
set_option maxHeartbeats 0
open_top head for PySem.Challenge.rw_endswell_k23_whole_rescues
end
set_option maxHeartbeats 8100000
namespace L2
namespace Kt
inductive Ask | always | never | all | some | nearer
deriving DecidableEq
section
variable {α : Type} (nx : α → List α) (ask : α → Ask)
/-- near, within S -/
inductive Near (S : α → Prop) : α → Prop
  | always {x : α} : S x → ask x = .always → Near S x
  | all {x : α} : S x → ask x = .all → (∀ y ∈ nx x, S y) → Near S x
  | some {x y : α} : S x → ask x = .some → y ∈ nx x → Near S y → Near S x
  | nearer {x y : α} : S x → ask x = .nearer → (∀ y ∈ nx x, S y) → y ∈ nx x → Near S y → Near S x
def Good (S : α → Prop) : Prop := ∀ x, S x → Near nx ask S x
/-- what is kept: in some set that keeps itself -/
def Kept (x : α) : Prop := ∃ S, Good nx ask S ∧ S x
variable {nx ask}
theorem Near.inS {S : α → Prop} {x : α} (h : Near nx ask S x) : S x := by
  cases h <;> assumption
theorem Near.mono {S T : α → Prop} (st : ∀ x, S x → T x) {x : α} (h : Near nx ask S x) : Near nx ask T x := by
  induction h with
  | always a b => exact .always (st _ a) b
  | all a b c => exact .all (st _ a) b fun y hy => st _ (c y hy)
  | some a b c _ ih => exact .some (st _ a) b c ih
  | nearer a b c d _ ih => exact .nearer (st _ a) b (fun y hy => st _ (c y hy)) d ih
theorem kept_good : Good nx ask (Kept nx ask) := fun x ⟨S, g, hx⟩ => (g x hx).mono fun y hy => ⟨S, g, hy⟩
theorem kept_of {S : α → Prop} (g : Good nx ask S) {x : α} (h : S x) : Kept nx ask x := ⟨S, g, h⟩
theorem Kept.near {x : α} (h : Kept nx ask x) : Near nx ask (Kept nx ask) x := kept_good x h
theorem Kept.notn {x : α} (h : Kept nx ask x) : ask x ≠ .never := fun e => by
  have := h.near
  cases this with
  | always _ b => rw [e] at b; cases b
  | all _ b _ => rw [e] at b; cases b
  | some _ b _ _ => rw [e] at b; cases b
  | nearer _ b _ _ _ => rw [e] at b; cases b
theorem Kept.succ {x : α} (h : Kept nx ask x) (a : ask x = .all ∨ ask x = .nearer) : ∀ y ∈ nx x, Kept nx ask y := by
  have := h.near
  cases this with
  | always _ b => rw [b] at a; rcases a with a | a <;> cases a
  | all _ b c => exact c
  | some _ b _ _ => rw [b] at a; rcases a with a | a <;> cases a
  | nearer _ b c _ _ => exact c
/-- a set in which what some node needs is there, each one resting on another one, to the nearest ones -/
inductive Sup (R : List (α × Option α)) : α → Prop
  | base {x : α} : (x, none) ∈ R → (ask x = .always ∨ ask x = .all) → Sup R x
  | on {x y : α} : (x, Option.some y) ∈ R → (ask x = .some ∨ ask x = .nearer) → y ∈ nx x → Sup R y → Sup R x
variable (nx ask) in
/-- those that rest, those that go next -/
structure Rest (ns : List α) (R : List (α × Option α)) (going : List α) : Prop where
  nd : (R.map (·.1)).Nodup
  inn : ∀ r ∈ R, r.1 ∈ ns
  sup : ∀ x ∈ R.map (·.1), Sup (nx := nx) (ask := ask) R x
  gn : ∀ x ∈ going, x ∈ ns ∧ x ∉ R.map (·.1)
  gd : going.Nodup
  cl : ∀ x ∈ R.map (·.1), (ask x = .all ∨ ask x = .nearer) → ∀ y ∈ nx x, y ∈ R.map (·.1) ∨ y ∈ going
  kp : ∀ x ∈ ns, Kept nx ask x → x ∈ R.map (·.1)
theorem Sup.mem {R : List (α × Option α)} {x : α} (h : Sup (nx := nx) (ask := ask) R x) : x ∈ R.map (·.1) := by
  cases h with
  | base a _ => exact List.mem_map_of_mem a
  | on a _ _ _ => exact List.mem_map_of_mem a
/-- when nothing goes any more, just what is kept rests -/
theorem Rest.done {ns : List α} {R : List (α × Option α)} (h : Rest nx ask ns R []) : ∀ x ∈ ns, x ∈ R.map (·.1) ↔ Kept nx ask x := by
  have good : Good nx ask (fun x => x ∈ R.map (·.1)) := fun x hx => by
    have := h.sup x hx
    induction this with
    | @base x a b =>
      rcases b with b | b
      · exact .always hx b
      · exact .all hx b fun y hy => (h.cl x hx (.inl b) y hy).resolve_right (by simp)
    | @on x y a b c d ih =>
      rcases b with b | b
      · exact .some hx b c (ih d.mem)
      · exact .nearer hx b (fun y hy => (h.cl x hx (.inr b) y hy).resolve_right (by simp)) c (ih d.mem)
  exact fun x hx => ⟨fun m => kept_of good m, h.kp x hx⟩
/-- what keeps rests: from the nearest ones through those that wait -/
theorem near_rest {ns : List α} {R : List (α × Option α)} (inn : ∀ x, Kept nx ask x → x ∈ ns) (base : ∀ x ∈ ns, Kept nx ask x → (ask x = .always ∨ ask x = .all) → x ∈ R.map (·.1))
    (step : ∀ x ∈ ns, Kept nx ask x → (ask x = .some ∨ ask x = .nearer) → (∃ y ∈ nx x, y ∈ R.map (·.1)) → x ∈ R.map (·.1)) : ∀ x, Kept nx ask x → x ∈ R.map (·.1) := by
  have key : ∀ x, Near nx ask (Kept nx ask) x → x ∈ R.map (·.1) := fun x h => by
    induction h with
    | always a b => exact base _ (inn _ a) a (.inl b)
    | all a b _ => exact base _ (inn _ a) a (.inr b)
    | some a b c _ ih => exact step _ (inn _ a) a (.inl b) ⟨_, c, ih⟩
    | nearer a b _ c _ ih => exact step _ (inn _ a) a (.inr b) ⟨_, c, ih⟩
  exact fun x h => key x h.near
end
section
variable {α : Type} {nx : α → List α} {ask : α → Ask}
/-- what comes to rest out of a layer: new ones among those that wait, each on one behind it -/
structure LetR (nx : α → List α) (rs new : List (α × Option α)) (ws L0 : List α) : Prop where
  nd : ((rs ++ new).map (·.1)).Nodup
  nw : ∀ e ∈ new, e.1 ∈ ws
  tg : ∀ e ∈ new, ∃ y, e.2 = some y ∧ y ∈ nx e.1
  ind : ∀ P : α → Prop, (∀ y ∈ L0, P y) → (∀ x y, (x, some y) ∈ new → P y → P x) → ∀ e ∈ new, P e.1
/-- .. on the way: the layer at hand -/
structure LetI (nx : α → List α) (rs new : List (α × Option α)) (ws L0 cur : List α) : Prop extends LetR nx rs new ws L0 where
  pr : ∀ y, (y ∈ L0 ∨ y ∈ new.map (·.1)) → y ∉ cur → ∀ w ∈ ws, y ∈ nx w → w ∈ (rs ++ new).map (·.1)
  cu : ∀ y ∈ cur, y ∈ L0 ∨ y ∈ new.map (·.1)
/-- .. within a layer: what is gone through of it, of those before the node at hand, what comes -/
structure LetJ (nx : α → List α) (rs new : List (α × Option α)) (ws L0 cur done es cs : List α) : Prop extends LetR nx rs new ws L0 where
  pr : ∀ y, (y ∈ L0 ∨ y ∈ new.map (·.1)) → y ∉ cs → (y ∈ cur → y ∈ done) → ∀ w ∈ ws, y ∈ nx w → w ∈ (rs ++ new).map (·.1)
  cu : ∀ y ∈ cur, y ∈ L0 ∨ y ∈ new.map (·.1)
  cc : ∀ y ∈ cs, y ∈ new.map (·.1)
  es : ∀ w ∈ es, w ∈ ws → w ∈ (rs ++ new).map (·.1)
  cd : cs.length ≤ new.length
theorem LetI.begin {rs : List (α × Option α)} {ws L0 : List α} (nd : (rs.map (·.1)).Nodup) : LetI nx rs [] ws L0 L0 :=
  ⟨⟨by simpa using nd, fun e h => (by cases h), fun e h => (by cases h), fun P _ _ e h => (by cases h)⟩, fun y h n => (by rcases h with h | h; exact absurd h n; cases h), fun y h => .inl h⟩
theorem LetI.enter {rs new : List (α × Option α)} {ws L0 cur : List α} (h : LetI nx rs new ws L0 cur) : LetJ nx rs new ws L0 cur [] [] [] :=
  ⟨h.toLetR, fun y hy _ hc => h.pr y hy fun m => (by cases hc m), h.cu, fun y h => (by cases h), fun w h => (by cases h), Nat.zero_le _⟩
theorem LetJ.skip {rs new : List (α × Option α)} {ws L0 cur done es cs : List α} (h : LetJ nx rs new ws L0 cur done es cs) {e : α} (n : e ∈ ws → e ∈ (rs ++ new).map (·.1)) : LetJ nx rs new ws L0 cur done (es ++ [e]) cs :=
  ⟨h.toLetR, h.pr, h.cu, h.cc, fun w hw => (List.mem_append.mp hw).elim (h.es w) fun q => (by rw [List.mem_singleton.mp q]; exact n), h.cd⟩
theorem LetJ.find {rs new : List (α × Option α)} {ws L0 cur done es cs : List α} (h : LetJ nx rs new ws L0 cur done es cs) {e y : α} (ew : e ∈ ws) (n : e ∉ (rs ++ new).map (·.1)) (hy : y ∈ nx e) (yc : y ∈ cur) : LetJ nx rs (new ++ [(e, some y)]) ws L0 cur done (es ++ [e]) (cs ++ [e]) := by
  have mm : ∀ {z : α}, z ∈ (rs ++ new).map (·.1) → z ∈ (rs ++ (new ++ [(e, some y)])).map (·.1) := fun {z} m => by
    rw [← List.append_assoc, List.map_append]; exact List.mem_append_left _ m
  have nn : ∀ {z : α}, z ∈ (new ++ [(e, some y)]).map (·.1) ↔ z ∈ new.map (·.1) ∨ z = e := fun {z} => by
    rw [List.map_append, List.mem_append]; simp
  refine ⟨⟨?_, fun u hu => ?_, fun u hu => ?_, fun P p0 p1 u hu => ?_⟩, fun z hz nz hc w ww hw => ?_, fun z hz => (h.cu z hz).imp id fun q => nn.mpr (.inl q), fun z hz => ?_, fun w hw ww => ?_, ?_⟩
  · rw [← List.append_assoc, List.map_append]
    exact List.nodup_append.mpr ⟨h.nd, by simp, fun a ha b hb e2 => by
      have : b = e := by simpa using hb
      rw [e2, this] at ha; exact n ha⟩
  · rcases List.mem_append.mp hu with q | q
    · exact h.nw u q
    · rw [List.mem_singleton.mp q]; exact ew
  · rcases List.mem_append.mp hu with q | q
    · exact h.tg u q
    · rw [List.mem_singleton.mp q]; exact ⟨y, rfl, hy⟩
  · have old : ∀ u ∈ new, P u.1 := h.ind P p0 fun a b m => p1 a b (List.mem_append_left _ m)
    rcases List.mem_append.mp hu with q | q
    · exact old u q
    · rw [List.mem_singleton.mp q]
      refine p1 e y (List.mem_append_right _ (List.mem_singleton.mpr rfl)) ?_
      rcases h.cu y yc with q | q
      · exact p0 y q
      · obtain ⟨v, hv, rfl⟩ := List.mem_map.mp q
        exact old v hv
  · refine mm (h.pr z ?_ (fun m => nz (List.mem_append_left _ m)) hc w ww hw)
    rcases hz with q | q
    · exact .inl q
    · rcases nn.mp q with q | q
      · exact .inr q
      · exact absurd (List.mem_append_right _ (List.mem_singleton.mpr q)) nz
  · rcases List.mem_append.mp hz with q | q
    · exact nn.mpr (.inl (h.cc z q))
    · exact nn.mpr (.inr (List.mem_singleton.mp q))
  · rcases List.mem_append.mp hw with q | q
    · exact mm (h.es w q ww)
    · rw [List.mem_singleton.mp q, List.map_append]
      exact List.mem_append_right _ (nn.mpr (.inr rfl))
  · rw [List.length_append, List.length_append]
    have := h.cd
    simpa using this
theorem LetJ.turn {rs new : List (α × Option α)} {ws L0 cur done es cs : List α} {y : α} (h : LetJ nx rs new ws L0 cur done es cs) (al : ∀ w ∈ ws, y ∈ nx w → w ∈ es) : LetJ nx rs new ws L0 cur (done ++ [y]) [] cs := by
  refine ⟨h.toLetR, fun z hz nz hc w ww hw => ?_, h.cu, h.cc, fun w q => (by cases q), h.cd⟩
  by_cases c : z = y
  · subst c; exact h.es w (al w ww hw) ww
  · exact h.pr z hz nz (fun m => ((List.mem_append.mp (hc m)).resolve_right fun q => c (List.mem_singleton.mp q))) w ww hw
theorem LetJ.leave {rs new : List (α × Option α)} {ws L0 cur cs : List α} (h : LetJ nx rs new ws L0 cur cur [] cs) : LetI nx rs new ws L0 cs :=
  ⟨h.toLetR, fun y hy n => h.pr y hy n fun m => m, fun y hy => .inr (h.cc y hy)⟩
theorem LetI.done {rs new : List (α × Option α)} {ws L0 : List α} (h : LetI nx rs new ws L0 []) : ∀ y, (y ∈ L0 ∨ y ∈ new.map (·.1)) → ∀ w ∈ ws, y ∈ nx w → w ∈ (rs ++ new).map (·.1) := fun y hy => h.pr y hy (by simp)
end
end Kt
end L2
namespace L2
namespace X7
open PySem PySem.Spec PyProof.Rows
end X7
end L2
namespace L2
namespace D1
open PySem PySem.Spec PyProof.Rows
def top (i : Nat) : Stmt := PySem.Challenge.pw_endswell_k23_whole_rescues.main.body.getD i (.Pass ⟨0, 0, 0, 0⟩)
abbrev sPurse : Stmt := top 50
abbrev sMixed : Stmt := top 51
abbrev sDraw : Stmt := top 52
abbrev sPurses : Stmt := top 53
abbrev sOneOf : Stmt := top 54
abbrev sWord : Stmt := top 57
/-- the built-ins' names are free -/
structure Free (mg : Str → Option Value) : Prop where
  sum : mg "sum" = none
  int : mg "int" = none
  max : mg "max" = none
  min : mg "min" = none
  len : mg "len" = none
  range : mg "range" = none
  repr : mg "repr" = none
  isi : mg "isinstance" = none
  all : mg "all" = none
/-- a purse: what is left of a great number, a seed, turns taken, its place -/
def Purse (H : Hp) (p : Addr) (t : Int) : Prop := ∃ g b z : Int, H p = some (.lst [.int g, .int b, .int t, .int z]) ∧ 0 ≤ g ∧ g < 10 ^ 480 ∧ 0 ≤ b ∧ b < 2147483629 ∧ 0 ≤ z ∧ z < 64 ∧ 0 ≤ t
theorem Purse.same {H H' : Hp} {p : Addr} {t : Int} (h : Purse H p t) (s : Same H H') : Purse H' p t := by
  obtain ⟨g, b, z, e, r⟩ := h; exact ⟨g, b, z, s _ _ e, r⟩
def spPurse (K : PySem.W.Frag) : Sp := fun vs H Q _ => ∃ (a : Addr) (ns : List Int) (z : Int), vs = [.ref a, .int z] ∧ SqL K H a (ns.map V.int) ∧ 0 ≤ z ∧ z < 64 ∧ ∀ H' p, Same H H' → H p = none → Purse H' p 0 → Q (.ref p) H'
def spMixed : Sp := fun vs H Q _ => ∃ (s t z : Int), vs = [.int s, .int t, .int z] ∧ 0 ≤ t ∧ t < 2 ^ 40 ∧ ∀ r : Int, 0 ≤ r → r < 2 ^ 31 → Q (.int r) H
def spDraw : Sp := fun vs H Q _ => ∃ (p : Addr) (m t : Int), vs = [.ref p, .int m] ∧ Purse H p t ∧ 1 ≤ m ∧ m < 2 ^ 27 ∧ t < 2 ^ 30 ∧ ∀ (r t' : Int) (o : HO), 0 ≤ r → r < m → t' ≤ t + 1 → Purse (upd H p o) p t' → Q (.int r) (upd H p o)
theorem op_powW {X : Cx} : OpR X (binaryOp .Pow) (rI (fun i j => 0 ≤ j ∧ (Builtin.Int.intBits i : Int) * j ≤ 2 ^ 27) fun i j => .int (i ^ j.toNat)) := opI fun _ _ _ _ _ _ _ hc q => pow_int hc.1 hc.2 q
theorem cut_ints (ns : List Int) (lo hi : Option Int) : ∃ ms : List Int, cutV (ns.map V.int) lo hi = ms.map V.int :=
  ⟨(ns.drop (HT.sIx ns.length 0 lo)).take (HT.sIx ns.length ns.length hi - HT.sIx ns.length 0 lo), by simp [cutV, List.map_drop, List.map_take]⟩
section
variable {P : Program} {w : World} {K : PySem.W.Frag} {mg : Str → Option Value} {base : Heap}
theorem scP : FnScope ["_law_script", "_law_at", "_law_seed"] ["_law_script", "_law_at"] (defScope sPurse) := ⟨rfl, rfl, rfl, by decide +kernel, rfl, by decide +kernel, by decide +kernel⟩
theorem ok_purse {f : Addr} {fd : FuncData} (F : Fun K "_law_purse" "_law_purse" sPurse f fd) (T : Free mg) : FnOk P w K mg base CX0 1 f fd ["_law_script", "_law_at"] (spPurse K) := by
  refine F.ok scP (fun vs H Q E h => ?_) (fun cdv A outer s H vs Q E hr h => ?_)
  · obtain ⟨a, ns, z, rfl, _⟩ := h; rfl
  · obtain ⟨a, ns, z, rfl, hS, z0, z1, k⟩ := h
    refine ⟨_, pss_cons (ps_set (i := 2) scP.nd rfl (Or.inl rfl) (pe_callB (cr_sum rfl) (by rfl) T.sum (by decide +kernel) (pa_cons (pe_slice sl_list (pv 0) (po_some (pv 1)) (po_some (pe_op op_add (pv 1) pe_int))) pa_nil)))
      (pss_one (ps_ret (pe_lst (pa_cons (pe_op op_mod (pe_callTy call_int1 (by rfl) T.int (by decide +kernel) (pa_cons (pe_callB (call_max2 rfl) (by rfl) T.max (by decide +kernel) (pa_cons (pe_op op_sub (pv 2) (pe_op op_pow pe_int pe_int)) (pa_cons pe_int pa_nil))) pa_nil)) (pe_op op_powW (pe_op op_pow pe_int pe_int) pe_int))
        (pa_cons (pe_op op_mod (pe_callTy call_int1 (by rfl) T.int (by decide +kernel) (pa_cons (pv 2) pa_nil)) pe_int) (pa_cons pe_int (pa_cons (pv 1) pa_nil))))))), ?_⟩
    obtain ⟨ms, em⟩ := cut_ints ns (some z) (some (z + 1))
    refine ⟨_, rfl, _, rfl, _, rfl, _, rfl, _, _, rfl, rfl, _, rfl, a, _, rfl, hS, fun q hq => ?_⟩
    refine ⟨q, ms, rfl, SqL.of (by rw [upd_same, em]), ?_⟩
    refine ⟨_, rfl, _, _, rfl, rfl, ⟨by decide, by decide, by decide⟩, _, _, rfl, rfl, _, _, rfl, .inl ⟨_, rfl, ?_⟩⟩
    refine ⟨_, _, rfl, rfl, ⟨by decide, by decide, by decide⟩, _, _, rfl, rfl, ⟨by decide, by decide +kernel⟩, _, _, rfl, rfl, (by show (0 : Int) < (10 ^ Int.toNat 60) ^ Int.toNat 8; decide +kernel), ?_⟩
    refine ⟨_, rfl, .inl ⟨_, rfl, _, _, rfl, rfl, (by show (0 : Int) < 2147483629; decide), _, rfl, by show 4 ≤ sizeLine; decide, fun p hp => ?_⟩⟩
    have hpq : p ≠ q := fun e => by rw [e, upd_same] at hp; cases hp
    have hp0 : H p = none := by rw [upd_ne hpq] at hp; exact hp
    refine k _ p (fun b o e => ?_) hp0 ⟨_, _, _, upd_same, ?_⟩
    · rw [upd_ne (ne_of_none e hp0), upd_ne (ne_of_none e hq)]; exact e
    · exact ⟨Int.emod_nonneg _ (by decide +kernel), Int.emod_lt_of_pos _ (by decide +kernel), Int.emod_nonneg _ (by decide), Int.emod_lt_of_pos _ (by decide), z0, z1, Int.le_refl _⟩
theorem scM : FnScope ["_law_seed", "_law_turn", "_law_at", "_law_mixed_here"] ["_law_seed", "_law_turn", "_law_at"] (defScope sMixed) := ⟨rfl, rfl, rfl, by decide +kernel, rfl, by decide +kernel, by decide +kernel⟩
theorem ok_mixed {f : Addr} {fd : FuncData} (F : Fun K "_law_mixed" "_law_mixed" sMixed f fd) (T : Free mg) : FnOk P w K mg base CX0 1 f fd ["_law_seed", "_law_turn", "_law_at"] spMixed := by
  refine F.ok scM (fun vs H Q E h => ?_) (fun cdv A outer s H vs Q E hr h => ?_)
  · obtain ⟨a, t, z, rfl, _⟩ := h; rfl
  · obtain ⟨a, t, z, rfl, t0, t1, k⟩ := h
    refine ⟨_, pss_cons (ps_set (i := 3) scM.nd rfl (Or.inl rfl) (pe_op op_add (pe_op op_mul (pv 0) pe_int) (pe_op op_mul (pe_op op_mul pe_int (pv 1)) (pv 1))))
      (pss_cons (ps_set (i := 3) scM.nd rfl (Or.inl rfl) (pe_op op_mod (pe_callTy call_int1 (by rfl) T.int (by decide +kernel) (pa_cons (pe_op op_add (pe_op op_add (pv 3) (pe_op op_mul pe_int (pv 2))) (pv 1)) pa_nil)) pe_int))
      (pss_cons (ps_set (i := 3) scM.nd rfl (Or.inl rfl) (pe_op op_mod (pe_callTy call_int1 (by rfl) T.int (by decide +kernel) (pa_cons (pe_op op_add (pe_op op_mul (pv 3) (pv 3)) pe_int) pa_nil)) pe_int))
      (pss_one (ps_ret (pe_op op_mod (pe_callTy call_int1 (by rfl) T.int (by decide +kernel) (pa_cons (pe_op op_mul (pv 3) pe_int) pa_nil)) pe_int))))), ?_⟩
    refine ⟨_, rfl, _, _, rfl, rfl, .inr ⟨by decide, by decide⟩, _, rfl, _, _, rfl, rfl, .inl ⟨by decide, by decide⟩, _, rfl, _, _, rfl, rfl, .inr ⟨by omega, by omega⟩, _, _, rfl, rfl, ?_⟩
    refine ⟨_, rfl, _, rfl, _, _, rfl, rfl, .inl ⟨by decide, by decide⟩, _, _, rfl, rfl, _, rfl, _, _, rfl, rfl, .inl ⟨_, rfl, _, _, rfl, rfl, (by show (0 : Int) < 2147483647; decide), ?_⟩⟩
    generalize hm : (a * 69069 + 104729 * t * t + 7919 * z + t) % 2147483647 = m
    have m0 : 0 ≤ m := by rw [← hm]; exact Int.emod_nonneg _ (by decide)
    have m1 : m < 2147483647 := by rw [← hm]; exact Int.emod_lt_of_pos _ (by decide)
    refine ⟨_, rfl, _, rfl, _, _, rfl, rfl, .inl ⟨by omega, by omega⟩, _, _, rfl, rfl, .inl ⟨_, rfl, _, _, rfl, rfl, (by show (0 : Int) < 2147483629; decide), ?_⟩⟩
    refine ⟨_, rfl, _, _, rfl, rfl, .inr ⟨by decide, by decide⟩, .inl ⟨_, rfl, _, _, rfl, rfl, (by show (0 : Int) < 2147483587; decide), ?_⟩⟩
    exact k _ (Int.emod_nonneg _ (by decide)) (Int.lt_trans (Int.emod_lt_of_pos _ (by decide)) (by decide))
theorem scD : FnScope ["_law_purse_here", "_law_many", "_law_drawn", "_law_found", "_law_piece"] ["_law_purse_here", "_law_many"] (defScope sDraw) := ⟨rfl, rfl, rfl, by decide +kernel, rfl, by decide +kernel, by decide +kernel⟩
theorem bits27 {m : Int} (h1 : 1 ≤ m) (h2 : m < 2 ^ 27) : ((Builtin.Int.intBits m : Nat) : Int) / 28 = 0 := by
  have h : Builtin.Int.intBits m ≤ 27 := PyProof.Rows.intBits_le (by omega)
  omega
theorem ok_draw {f fM : Addr} {fd fdM : FuncData} (F : Fun K "_law_draw" "_law_draw" sDraw f fd) (T : Free mg) (FM : Fun K "_law_mixed" "_law_mixed" sMixed fM fdM) (bM : Binds K fdM ["_law_seed", "_law_turn", "_law_at"] []) (gM : mg "_law_mixed" = some (.ref fM)) :
    FnOk P w K mg base CX0 2 f fd ["_law_purse_here", "_law_many"] spDraw := by
  have GM : FnOk P w K mg base CX0 1 fM fdM ["_law_seed", "_law_turn", "_law_at"] spMixed := ok_mixed FM T
  refine F.ok scD (fun vs H Q E h => ?_) (fun cdv A outer s H vs Q E hr h => ?_)
  · obtain ⟨p, m, t, rfl, _⟩ := h; rfl
  · obtain ⟨p, m, t, rfl, hp, m1, m2, t1, k⟩ := h
    refine ⟨_, pss_cons (ps_if (pt_cmpR op_gt (pe_ix ix_list (pv 0) pe_int (fun _ _ => rfl)) pe_int (nomark _))
        (pss_cons (ps_set (i := 2) scD.nd rfl (Or.inl rfl) (pe_op op_mod (pe_callTy call_int1 (by rfl) T.int (by decide +kernel) (pa_cons (pe_ix ix_list (pv 0) pe_int (fun _ _ => rfl)) pa_nil)) (pv 1)))
          (pss_cons (ps_asg (pe_op op_fdivW (pe_ix ix_list (pv 0) pe_int (fun _ _ => rfl)) (pv 1)) (pg_sub (pv 0) pe_int set_list)) (pss_one (ps_ret (pv 2))))) pss_nil)
      (pss_cons (ps_set (i := 3) scD.nd rfl (Or.inl rfl) pe_int)
      (pss_cons (ps_for PassesOwn.never rfl (pi_range1 rfl T.range (pa_cons (pe_op op_add pe_int (pe_op op_fdiv (pe_bits (pv 1)) pe_int)) pa_nil)) (pg_name (i := 4) scD.nd rfl (Or.inl rfl))
        (pss_cons (ps_asg (pe_op op_add (pe_ix ix_list (pv 0) pe_int (fun _ _ => rfl)) pe_int) (pg_sub (pv 0) pe_int set_list))
          (pss_one (ps_set (i := 3) scD.nd rfl (Or.inl rfl) (pe_op op_add (pe_op op_mul (pv 3) pe_int) (pe_call GM (hr.mono (by decide)) rfl gM FM.kp bM .nil pass0 (pa_cons (pe_ix ix_list (pv 0) pe_int (fun _ _ => rfl)) (pa_cons (pe_ix ix_list (pv 0) pe_int (fun _ _ => rfl)) (pa_cons (pe_ix ix_list (pv 0) pe_int (fun _ _ => rfl)) pa_nil)))))))))
      (pss_one (ps_ret (pe_op op_mod (pe_callTy call_int1 (by rfl) T.int (by decide +kernel) (pa_cons (pv 3) pa_nil)) (pv 1)))))), ?_⟩
    obtain ⟨g, b, z, hl, g0, g1, b0, b1, z0, z1, t0⟩ := hp
    refine ⟨_, rfl, p, _, 0, _, rfl, rfl, SqL.of hl, rfl, _, _, rfl, rfl, _, rfl, ?_⟩
    refine ite2 (fun c => ?_) (fun _ => ?_)
    · refine ⟨_, rfl, p, _, 0, _, rfl, rfl, SqL.of hl, rfl, .inl ⟨_, rfl, _, rfl, _, _, rfl, rfl, (by show (0 : Int) < m; omega), ?_⟩⟩
      refine ⟨_, rfl, p, _, 0, _, rfl, rfl, SqL.of hl, rfl, _, rfl, _, _, rfl, rfl, wide_div (b := 27) (by omega) (by omega) (by decide) (by decide), ?_⟩
      · refine ⟨_, rfl, p, _, 0, 0, rfl, rfl, hl, rfl, _, rfl, ?_⟩
        exact k _ t _ (Int.emod_nonneg _ (by omega)) (Int.emod_lt_of_pos _ (by omega)) (by omega) ⟨_, _, _, upd_same, Int.ediv_nonneg g0 (by omega), Int.lt_of_le_of_lt (Int.ediv_le_self _ g0) g1, b0, b1, z0, z1, t0⟩
    · have e1 := bits27 m1 m2
      refine ⟨_, rfl, m, rfl, _, _, rfl, rfl, ⟨by decide, by decide⟩, _, _, rfl, rfl, _, rfl, by rw [e1]; decide, by rw [e1]; decide, ?_⟩
      rw [e1]
      refine for_range (n := 1) (fun i σ H' => ∃ (fnd : Int) (v : Option V), σ = [some (.ref p), some (.int m), none, some (.int fnd), v] ∧ (i = 0 → H' = H) ∧ (0 < i → H' = upd H p (.lst [.int g, .int b, .int (t + 1), .int z]))) ⟨0, none, rfl, fun _ => rfl, fun c => absurd c (by decide)⟩ ?_ ?_
      · rintro i σ H' hi ⟨fnd, v, rfl, e0, _⟩
        obtain rfl : i = 0 := by omega
        obtain rfl := e0 rfl
        refine ⟨_, rfl, p, _, 2, _, rfl, rfl, SqL.of hl, rfl, _, _, rfl, rfl, _, rfl, p, _, 2, 2, rfl, rfl, hl, rfl, ?_⟩
        refine ⟨_, rfl, _, _, rfl, rfl, .inr ⟨by decide, by decide⟩, _, rfl, p, _, 1, _, rfl, rfl, SqL.of upd_same, rfl, _, rfl, p, _, 2, _, rfl, rfl, SqL.of upd_same, rfl, _, rfl, p, _, 3, _, rfl, rfl, SqL.of upd_same, rfl, ?_⟩
        refine ⟨_, _, _, rfl, by omega, by omega, fun r r0 r1 => ⟨_, _, rfl, rfl, _, _, rfl, fun c => absurd c (by decide), fun _ => rfl⟩⟩
      · rintro σ H' ⟨fnd, v, rfl, _, e2⟩
        obtain rfl := e2 (by decide)
        refine ⟨_, rfl, .inl ⟨_, rfl, _, rfl, _, _, rfl, rfl, (by show (0 : Int) < m; omega), ?_⟩⟩
        exact k _ (t + 1) _ (Int.emod_nonneg _ (by omega)) (Int.emod_lt_of_pos _ (by omega)) (Int.le_refl _) ⟨_, _, _, upd_same, g0, g1, b0, b1, z0, z1, by omega⟩
end
end D1
end L2
namespace L2
namespace D1
open PySem PySem.Spec PyProof.Rows
theorem Purse.upd {H : Hp} {p q : Addr} {t : Int} {o : HO} (h : Purse H p t) (n : p ≠ q) : Purse (upd H q o) p t := by
  obtain ⟨g, b, z, e, r⟩ := h; exact ⟨g, b, z, by rw [upd_ne n]; exact e, r⟩
theorem Purse.some {H : Hp} {p : Addr} {t : Int} (h : Purse H p t) : ∃ o, H p = some o := by
  obtain ⟨g, b, z, e, _⟩ := h; exact ⟨_, e⟩
/-- all that was tracked is as it was, but at p -/
def But (p : Addr) (H H' : Hp) : Prop := ∀ b o, b ≠ p → H b = some o → H' b = some o
theorem But.refl (p : Addr) (H : Hp) : But p H H := fun _ _ _ h => h
theorem But.upd (p : Addr) (H : Hp) (o : HO) : But p H (upd H p o) := fun b u n h => by rw [upd_ne n]; exact h
theorem But.trans {p : Addr} {H H1 H2 : Hp} (a : But p H H1) (b : But p H1 H2) : But p H H2 := fun c o n h => b c o n (a c o n h)
theorem But.of {p : Addr} {H H' : Hp} (s : Same H H') : But p H H' := fun b o _ h => s b o h
theorem Same.new {H : Hp} {a : Addr} {o : HO} (n : H a = none) : Same H (L2.upd H a o) := fun b u e => by rw [upd_ne (ne_of_none e n)]; exact e
def spPurses (K : PySem.W.Frag) : Sp := fun vs H Q _ => ∃ (a : Addr) (ns : List Int) (few : Int), vs = [.ref a, .int few] ∧ SqL K H a (ns.map V.int) ∧ ns.length ≤ 63 ∧ 1 ≤ few ∧ few ≤ 60 ∧
  ∀ (H' : Hp) (L : Addr) (ps : List Addr), Same H H' → H L = none → H' L = some (.lst (ps.map V.ref)) → (∀ p ∈ ps, H p = none ∧ Purse H' p 0) → ps.Nodup → L ∉ ps → ps.length ≤ 63 → Q (.ref L) H'
def spOneOf : Sp := fun vs H Q _ => ∃ (p L : Addr) (xs : List V) (t : Int), vs = [.ref p, .ref L] ∧ Purse H p t ∧ H L = some (.lst xs) ∧ L ≠ p ∧ 1 ≤ xs.length ∧ xs.length < 2 ^ 20 ∧ t < 2 ^ 30 ∧
  ∀ (i : Nat) (v : V) (t' : Int) (o : HO), xs[i]? = some v → t' ≤ t + 1 → Purse (L2.upd H p o) p t' → Q v (L2.upd H p o)
def spWord : Sp := fun vs H Q _ => ∃ (p : Addr) (t : Int), vs = [.ref p] ∧ Purse H p t ∧ t < 2 ^ 29 ∧
  ∀ (x : Str) (H' : Hp) (t' : Int), 1 ≤ x.length → x.length ≤ 8 → (∀ c ∈ x.cps.toList, 97 ≤ c ∧ c ≤ 122) → But p H H' → Purse H' p t' → t' ≤ t + 10 → Q (.str x) H'
section
variable {P : Program} {w : World} {K : PySem.W.Frag} {mg : Str → Option Value} {base : Heap}
theorem scPs : FnScope ["_law_script", "_law_few", "_law_at"] ["_law_script", "_law_few"] (defScope sPurses) := ⟨rfl, rfl, rfl, by decide +kernel, rfl, by decide +kernel, by decide +kernel⟩
theorem ok_purses {f fP : Addr} {fd fdP : FuncData} (F : Fun K "_law_purses" "_law_purses" sPurses f fd) (T : Free mg) (FP : Fun K "_law_purse" "_law_purse" sPurse fP fdP) (bP : Binds K fdP ["_law_script", "_law_at"] []) (gP : mg "_law_purse" = some (.ref fP)) :
    FnOk P w K mg base CX0 2 f fd ["_law_script", "_law_few"] (spPurses K) := by
  have GP : FnOk P w K mg base CX0 1 fP fdP ["_law_script", "_law_at"] (spPurse K) := ok_purse FP T
  refine F.ok scPs (fun vs H Q E h => ?_) (fun cdv A outer s H vs Q E hr h => ?_)
  · obtain ⟨a, ns, few, rfl, _⟩ := h; rfl
  · obtain ⟨a, ns, few, rfl, hS, l63, f1, f2, k⟩ := h
    refine ⟨_, pss_one (ps_ret (pe_lc (own := [("_law_at", 2)]) (g := gName 2) (tt := tYes) rfl scPs.nd
      (pi_range1 rfl T.range (pa_cons (pe_callB (call_max2 rfl) (by rfl) T.max (by decide +kernel) (pa_cons pe_int (pa_cons (pe_callB (call_min2 rfl) (by rfl) T.min (by decide +kernel) (pa_cons (pv 1) (pa_cons (pe_callB call_len_seq (by rfl) T.len PySem.boot_len (pa_cons (pv 0) pa_nil)) pa_nil))) pa_nil))) pa_nil))
      (blkOk_by (N := ["_law_script", "_law_few", "_law_at"]) (sc := defScope sPurses) (by decide +kernel)) (fun _ _ _ _ _ => pg_name (i := 2) scPs.nd rfl (Or.inl rfl)) (fun _ _ _ _ _ => pts_nil)
      (fun _ _ _ _ _ => pe_call GP (hr.mono (by decide)) rfl gP FP.kp bP .nil pass0 (pa_cons (pv 0) (pa_cons (pv 2) pa_nil))))), ?_⟩
    refine ⟨_, rfl, _, rfl, a, _, rfl, .inl hS, few, _, rfl, ?_⟩
    rw [List.length_map]
    generalize hm : (if (ns.length : Int) < few then (ns.length : Int) else few) = m
    have m0 : 0 ≤ m ∧ m ≤ 60 := by rw [← hm]; split <;> omega
    refine ⟨1, m, rfl, ?_⟩
    generalize hj : (if m > 1 then m else (1 : Int)) = j
    have j0 : 1 ≤ j ∧ j ≤ 60 := by rw [← hj]; split <;> omega
    refine ⟨j, rfl, by omega, by omega, fun D hD => ?_⟩
    refine lc_range (n := j.toNat) (fun i H' => ∃ ps : List Addr, ps.length = i ∧ Same H H' ∧ H' D = some (.lst (ps.map V.ref)) ∧ (∀ p ∈ ps, H p = none ∧ Purse H' p 0) ∧ ps.Nodup ∧ D ∉ ps)
      ⟨[], rfl, Same.new hD, upd_same, (fun p hp => by cases hp), List.nodup_nil, by simp⟩ ?_ ?_
    · rintro i H1 hi ⟨ps, lp, sm, hL, al, nd, nD⟩
      refine ⟨rfl, ?_⟩
      dsimp only [tYes]
      rw [if_pos rfl]
      refine ⟨_, rfl, _, rfl, a, ns, _, rfl, sm.seq hS, by omega, by omega, fun H2 p s2 np hp => ?_⟩
      have hD2 := s2 _ _ hL
      have npD : p ≠ D := fun e => by rw [e, hL] at np; cases np
      refine ⟨_, hD2, by rw [List.length_map, lp, sizeLine_eq]; omega, ps ++ [p], by rw [List.length_append, lp]; rfl, fun b o e => ?_, ?_, fun q hq => ?_, ?_, ?_⟩
      · rw [upd_ne (ne_of_none e hD)]; exact s2 _ _ (sm _ _ e)
      · rw [upd_same, List.map_append]; rfl
      · rcases List.mem_append.mp hq with hq | hq
        · obtain ⟨q0, qp⟩ := al q hq
          exact ⟨q0, (qp.same s2).upd fun e => nD (e ▸ hq)⟩
        · obtain rfl : q = p := by simpa using hq
          exact ⟨sm.free np, hp.upd npD⟩
      · refine List.nodup_append.mpr ⟨nd, by simp, fun x hx y hy e => ?_⟩
        obtain rfl : y = p := by simpa using hy
        obtain ⟨_, qp⟩ := al x hx
        obtain ⟨o, ho⟩ := qp.some
        rw [e, np] at ho; cases ho
      · intro z
        rcases List.mem_append.mp z with z | z
        · exact nD z
        · exact npD (by simpa using z : D = p).symm
    · rintro H1 ⟨ps, lp, sm, hL, al, nd, nD⟩
      exact k H1 D ps sm hD hL al nd nD (by omega)
theorem scO : FnScope ["_law_purse_here", "_law_some"] ["_law_purse_here", "_law_some"] (defScope sOneOf) := ⟨rfl, rfl, rfl, by decide +kernel, rfl, by decide +kernel, by decide +kernel⟩
theorem ok_oneof {f fD : Addr} {fd fdD : FuncData} (F : Fun K "_law_one_of" "_law_one_of" sOneOf f fd) (T : Free mg) (kD : PySem.W.keepIn K (.ref fD) = true) (GD : FnOk P w K mg base CX0 2 fD fdD ["_law_purse_here", "_law_many"] spDraw) (bD : Binds K fdD ["_law_purse_here", "_law_many"] []) (gD : mg "_law_draw" = some (.ref fD)) :
    FnOk P w K mg base CX0 3 f fd ["_law_purse_here", "_law_some"] spOneOf := by
  refine F.ok scO (fun vs H Q E h => ?_) (fun cdv A outer s H vs Q E hr h => ?_)
  · obtain ⟨p, L, xs, t, rfl, _⟩ := h; rfl
  · obtain ⟨p, L, xs, t, rfl, hp, hL, ne, l1, l2, t1, k⟩ := h
    refine ⟨_, pss_one (ps_ret (pe_ix ix_list (pv 1) (pe_call GD (hr.mono (by decide)) rfl gD kD bD .nil pass0 (pa_cons (pv 0) (pa_cons (pe_callB call_len_seq (by rfl) T.len PySem.boot_len (pa_cons (pv 1) pa_nil)) pa_nil))) (fun _ _ => rfl))), ?_⟩
    refine ⟨_, rfl, _, rfl, _, rfl, L, _, rfl, .inl (SqL.of hL), p, _, t, rfl, hp, by omega, by omega, t1, fun r t' o r0 r1 tt hp' => ?_⟩
    have hr2 : r.toNat < xs.length := by omega
    refine ⟨L, xs, r, xs[r.toNat], rfl, rfl, SqL.of (by rw [upd_ne ne]; exact hL), at_of (j := r.toNat) (by omega) (List.getElem?_eq_getElem hr2), ?_⟩
    exact k r.toNat _ t' o (List.getElem?_eq_getElem hr2) tt hp'
/-- single letters -/
def Let (y : Str) : Prop := ∃ c, 97 ≤ c ∧ c ≤ 122 ∧ y = ⟨#[c]⟩
theorem joinL_nil : ∀ ys : List (List Nat), (∀ y ∈ ys, ∃ c, 97 ≤ c ∧ c ≤ 122 ∧ y = [c]) → (TL.joinL [] ys).length = ys.length ∧ ∀ c ∈ TL.joinL [] ys, 97 ≤ c ∧ c ≤ 122
  | [], _ => ⟨rfl, fun c h => by cases h⟩
  | [p], h => by
    obtain ⟨c, c1, c2, rfl⟩ := h p (List.mem_singleton.mpr rfl)
    exact ⟨rfl, fun d hd => by obtain rfl : d = c := List.mem_singleton.mp hd; exact ⟨c1, c2⟩⟩
  | p :: q :: r, h => by
    obtain ⟨c, c1, c2, rfl⟩ := h p List.mem_cons_self
    obtain ⟨l, m⟩ := joinL_nil (q :: r) fun y hy => h y (List.mem_cons_of_mem _ hy)
    show ([c] ++ ([] ++ TL.joinL [] (q :: r))).length = _ ∧ ∀ d ∈ ([c] ++ ([] ++ TL.joinL [] (q :: r))), _
    refine ⟨by rw [List.length_append, List.nil_append, l]; simp; omega, fun d hd => ?_⟩
    rcases List.mem_append.mp hd with hd | hd
    · obtain rfl : d = c := List.mem_singleton.mp hd; exact ⟨c1, c2⟩
    · exact m d (by simpa using hd)
theorem word_of {ys : List Str} (h : ∀ y ∈ ys, Let y) : (Txt.join "" ys).length = ys.length ∧ ∀ c ∈ (Txt.join "" ys).cps.toList, 97 ≤ c ∧ c ≤ 122 := by
  have e : (Txt.join "" ys).cps.toList = TL.joinL [] (ys.map TL.tl) := by rw [TL.join_eq]; exact TL.tl_join "" ys
  obtain ⟨a, b⟩ := joinL_nil (ys.map TL.tl) fun y hy => by
    obtain ⟨z, hz, rfl⟩ := List.mem_map.mp hy
    obtain ⟨c, c1, c2, rfl⟩ := h z hz
    exact ⟨c, c1, c2, rfl⟩
  rw [List.length_map] at a
  refine ⟨?_, fun c hc => b c (e ▸ hc)⟩
  show (Txt.join "" ys).cps.size = _
  rw [← Array.length_toList, e, a]
theorem abc_at (r : Int) (r0 : 0 ≤ r) (r1 : r < 26) : ∃ c, atI (Str.ofString "abcdefghijklmnopqrstuvwxyz").cps.toList r = some c ∧ 97 ≤ c ∧ c ≤ 122 := by
  have h : ∀ j : Fin 26, ∃ c, (Str.ofString "abcdefghijklmnopqrstuvwxyz").cps.toList[j.val]? = some c ∧ 97 ≤ c ∧ c ≤ 122 := by
    intro j
    refine ⟨97 + j.val, ?_, by omega, by omega⟩
    revert j
    decide +kernel
  obtain ⟨c, e, q⟩ := h ⟨r.toNat, by omega⟩
  refine ⟨c, ?_, q⟩
  rw [show r = ((r.toNat : Nat) : Int) by omega]
  exact atI_nat e
theorem scW : FnScope ["_law_purse_here", "_law_size", "_law_turn"] ["_law_purse_here"] (defScope sWord) := ⟨rfl, rfl, rfl, by decide +kernel, rfl, by decide +kernel, by decide +kernel⟩
theorem ok_word {f fD : Addr} {fd fdD : FuncData} (F : Fun K "_law_word" "_law_word" sWord f fd) (T : Free mg) (kD : PySem.W.keepIn K (.ref fD) = true) (GD : FnOk P w K mg base CX0 2 fD fdD ["_law_purse_here", "_law_many"] spDraw) (bD : Binds K fdD ["_law_purse_here", "_law_many"] []) (gD : mg "_law_draw" = some (.ref fD)) :
    FnOk P w K mg base CX0 3 f fd ["_law_purse_here"] spWord := by
  refine F.ok scW (fun vs H Q E h => ?_) (fun cdv A outer s H vs Q E hr h => ?_)
  · obtain ⟨p, t, rfl, _⟩ := h; rfl
  · obtain ⟨p, t, rfl, hp, t1, k⟩ := h
    refine ⟨_, pss_cons (ps_set (i := 1) scW.nd rfl (Or.inl rfl) (pe_op op_add pe_int (pe_call GD (hr.mono (by decide)) rfl gD kD bD .nil pass0 (pa_cons (pv 0) (pa_cons (pe_ifExp (pt_cmpR op_eq (pe_call GD (hr.mono (by decide)) rfl gD kD bD .nil pass0 (pa_cons (pv 0) (pa_cons pe_int pa_nil))) pe_int (nomark _)) pe_int pe_int) pa_nil)))))
      (pss_one (ps_ret (pe_join pe_str (pe_lc (own := [("_law_turn", 2)]) (g := gName 2) (tt := tYes) rfl scW.nd (pi_range1 rfl T.range (pa_cons (pv 1) pa_nil))
        (blkOk_by (N := ["_law_purse_here", "_law_size", "_law_turn"]) (sc := defScope sWord) (by decide +kernel)) (fun _ _ _ _ _ => pg_name (i := 2) scW.nd rfl (Or.inl rfl)) (fun _ _ _ _ _ => pts_nil)
        (fun _ _ _ _ _ => pe_ix ix_str pe_str (pe_call GD (hr.mono (by decide)) rfl gD kD bD .nil pass0 (pa_cons (pv 0) (pa_cons pe_int pa_nil))) (fun _ _ => rfl)))))), ?_⟩
    refine ⟨_, rfl, _, rfl, p, 3, t, rfl, hp, by decide, by decide, by omega, fun r1 t2 o1 r10 r11 tt1 hp1 => ?_⟩
    refine ⟨rfl, _, rfl, ?_⟩
    refine ite2 (fun _ => ?_) (fun _ => ?_) <;> refine ⟨p, _, t2, rfl, hp1, by decide, by decide, by omega, fun r2 t3 o2 r20 r21 tt2 hp2 => ⟨_, _, rfl, rfl, ?_⟩⟩
    all_goals
      have rb : r2 < 8 := by omega
      clear r21
      have bt : But p H (L2.upd (L2.upd H p o1) p o2) := (But.upd p H o1).trans (But.upd p _ o2)
      generalize L2.upd (L2.upd H p o1) p o2 = H0 at hp2 bt
      refine ⟨⟨_, rfl⟩, _, rfl, _, rfl, by omega, by omega, fun D hD => ?_⟩
      have nD : p ≠ D := by obtain ⟨o, ho⟩ := hp2.some; exact ne_of_none ho hD
      refine lc_range (n := (1 + r2).toNat) (fun i H' => ∃ ys : List Str, ys.length = i ∧ (∀ y ∈ ys, Let y) ∧ H' D = some (.lst (ys.map V.str)) ∧ But p H0 H' ∧ ∃ t', Purse H' p t' ∧ t' ≤ t + 2 + i) ⟨[], rfl, (fun y hy => by cases hy), upd_same, But.of (Same.new hD), t3, hp2.upd nD, by omega⟩ ?_ ?_
      · rintro i H1 hi ⟨ys, ly, al, hL, b1, t', hp', tl'⟩
        refine ⟨rfl, ?_⟩
        dsimp only [tYes]
        rw [if_pos rfl]
        refine ⟨_, rfl, p, 26, t', rfl, hp', by decide, by decide, by omega, fun r t4 o r0 r1 tt hp4 => ?_⟩
        obtain ⟨c, ec, c1, c2⟩ := abc_at r r0 r1
        refine ⟨_, r, c, rfl, rfl, by decide +kernel, ec, _, by rw [upd_ne nD.symm]; exact hL, by rw [List.length_map, ly, sizeLine_eq]; omega, ys ++ [⟨#[c]⟩], by rw [List.length_append, ly]; rfl, fun y hy => ?_, ?_, ?_, t4, hp4.upd nD, by omega⟩
        · rcases List.mem_append.mp hy with hy | hy
          · exact al y hy
          · exact ⟨c, c1, c2, by simpa using hy⟩
        · rw [upd_same, List.map_append]; rfl
        · intro b u nb e
          have nbD : b ≠ D := ne_of_none e hD
          rw [upd_ne nbD, upd_ne nb]; exact b1 b u nb e
      · rintro H1 ⟨ys, ly, al, hL, b1, t', hp', tl'⟩
        obtain ⟨lw, cw⟩ := word_of al
        refine ⟨_, D, ys, rfl, rfl, .inl (SqL.of hL), ?_, ?_⟩
        · have one : (ys.map (·.length)).sum ≤ ys.length := by
            clear lw cw hL ly
            induction ys with
            | nil => exact Nat.le_refl _
            | cons y r ih =>
              obtain ⟨c, _, _, rfl⟩ := al y List.mem_cons_self
              have := ih fun z hz => al z (List.mem_cons_of_mem _ hz)
              simp only [List.map_cons, List.sum_cons, List.length_cons]
              show 1 + _ ≤ _
              omega
          have z0 : (Str.ofString "").length = 0 := rfl
          rw [z0]; omega
        · exact k _ H1 t' (by rw [lw]; omega) (by rw [lw]; omega) cw (bt.trans b1) hp' (by omega)
end
end D1
end L2
namespace L2
namespace D1
open PySem PySem.Spec PyProof.Rows
/-- the heap without what stands at S -/
def cut (S : List Addr) (H : Hp) : Hp := fun b => if b ∈ S then none else H b
section
variable {S : List Addr} {H H' : Hp} {p q D : Addr} {o : HO}
theorem cut_in (h : q ∈ S) : cut S H q = none := if_pos h
theorem cut_out (h : q ∉ S) : cut S H q = H q := if_neg h
theorem cut_some {u : HO} (h : cut S H q = some u) : q ∉ S ∧ H q = some u := by
  unfold cut at h
  split at h
  · cases h
  · exact ⟨by assumption, h⟩
theorem cut_le : Same (cut S H) H := fun _ _ h => (cut_some h).2
theorem cut_mono {S' : List Addr} (h : ∀ b ∈ S', b ∈ S) : Same (cut S H) (cut S' H) := fun b o e => by
  obtain ⟨n, e⟩ := cut_some e
  rw [cut_out fun z => n (h b z)]; exact e
theorem cut_upd (h : q ∈ S) : cut S (upd H q o) = cut S H := by
  funext b
  by_cases hb : b ∈ S
  · rw [cut_in hb, cut_in hb]
  · rw [cut_out hb, cut_out hb, upd_ne fun e => hb (by rw [e]; exact h)]
theorem cut_same (s : Same H H') : Same (cut S H) (cut S H') := fun b o e => by
  obtain ⟨n, e⟩ := cut_some e
  rw [cut_out n]; exact s _ _ e
theorem cut_but (s : But p H H') (h : p ∈ S) : Same (cut S H) (cut S H') := fun b o e => by
  obtain ⟨n, e⟩ := cut_some e
  rw [cut_out n]; exact s _ _ (fun z => n (z ▸ h)) e
theorem cut_new (n : H q = none) : Same (cut S H) (cut S (upd H q o)) := cut_same (Same.new n)
theorem But.cut (s : But p H H') : Same (cut [p] H) (cut [p] H') := cut_but s (by simp)
theorem But.new (n : H q = none) : But p H (L2.upd H q o) := But.of (Same.new n)
/-- a list of texts -/
def SL (H : Hp) (a : Addr) (ss : List Str) : Prop := H a = some (.lst (ss.map V.str))
theorem SL.same {a : Addr} {ss : List Str} (h : SL H a ss) (s : Same H H') : SL H' a ss := s _ _ h
theorem SL.sq {K : PySem.W.Frag} {a : Addr} {ss : List Str} (h : SL H a ss) : SqL K H a (ss.map V.str) := SqL.of h
end
theorem perm_ins {α : Type} (xs : List α) (i : Nat) (y : α) : (xs.take i ++ [y] ++ xs.drop i).Perm (xs ++ [y]) := by
  have h : (xs.take i ++ ([y] ++ xs.drop i)).Perm (xs.take i ++ (xs.drop i ++ [y])) := (List.perm_append_comm).append_left _
  rw [List.append_assoc]
  refine h.trans ?_
  rw [← List.append_assoc, List.take_append_drop]
theorem take_succ_get {α : Type} {xs : List α} {i : Nat} {x : α} (h : xs[i]? = some x) : xs.take (i + 1) = xs.take i ++ [x] := by
  rw [List.take_succ, h]; rfl
abbrev sShuf : Stmt := top 55
def spShuf : Sp := fun vs H Q _ => ∃ (p L : Addr) (xs : List V) (t : Int), vs = [.ref p, .ref L] ∧ Purse H p t ∧ H L = some (.lst xs) ∧ L ≠ p ∧ xs.length ≤ 1000 ∧ t < 2 ^ 29 ∧
  ∀ (H' : Hp) (R : Addr) (ys : List V) (t' : Int), But p H H' → H R = none → H' R = some (.lst ys) → ys.Perm xs → Purse H' p t' → t' ≤ t + xs.length → Q (.ref R) H'
section
variable {P : Program} {w : World} {K : PySem.W.Frag} {mg : Str → Option Value} {base : Heap}
theorem scSh : FnScope ["_law_purse_here", "_law_some", "_law_found", "_law_item"] ["_law_purse_here", "_law_some"] (defScope sShuf) := ⟨rfl, rfl, rfl, by decide +kernel, rfl, by decide +kernel, by decide +kernel⟩
theorem ok_shuf {f fD : Addr} {fd fdD : FuncData} (F : Fun K "_law_shuffled" "_law_shuffled" sShuf f fd) (T : Free mg) (kD : PySem.W.keepIn K (.ref fD) = true) (GD : FnOk P w K mg base CX0 2 fD fdD ["_law_purse_here", "_law_many"] spDraw) (bD : Binds K fdD ["_law_purse_here", "_law_many"] []) (gD : mg "_law_draw" = some (.ref fD)) :
    FnOk P w K mg base CX0 3 f fd ["_law_purse_here", "_law_some"] spShuf := by
  refine F.ok scSh (fun vs H Q E h => ?_) (fun cdv A outer s H vs Q E hr h => ?_)
  · obtain ⟨p, L, xs, t, rfl, _⟩ := h; rfl
  · obtain ⟨p, L, xs, t, rfl, hp, hL, ne, l1, t1, k⟩ := h
    refine ⟨_, pss_cons (ps_set (i := 2) scSh.nd rfl (Or.inl rfl) (pe_lst pa_nil))
      (pss_cons (ps_for PassesOwn.never rfl (pi_list (pv 1)) (pg_name (i := 3) scSh.nd rfl (Or.inl rfl))
        (pss_one (ps_expr (pe_bm PySem.F.plainAttrs_list PySem.F.slot_list_insert PySem.F.type_list_insert mt_insert (pv 2)
          (pa_cons (pe_call GD (hr.mono (by decide)) rfl gD kD bD .nil pass0 (pa_cons (pv 0) (pa_cons (pe_op op_add (pe_callB call_len_seq (by rfl) T.len PySem.boot_len (pa_cons (pv 2) pa_nil)) pe_int) pa_nil))) (pa_cons (pv 3) pa_nil))))))
      (pss_one (ps_ret (pv 2)))), ?_⟩
    refine ⟨by decide, fun D hD => ?_⟩
    have nD : p ≠ D := by obtain ⟨o, ho⟩ := hp.some; exact ne_of_none ho hD
    have nL : L ≠ D := ne_of_none hL hD
    refine ⟨_, rfl, L, rfl, ⟨_, SqL.of (by rw [upd_ne nL]; exact hL)⟩, for_list (xs := xs) (K := K) (fun i σ H' => ∃ (v : Option V) (ys : List V) (t' : Int), σ = [some (.ref p), some (.ref L), some (.ref D), v] ∧ But p H H' ∧ H' D = some (.lst ys) ∧ ys.Perm (xs.take i) ∧ Purse H' p t' ∧ t' ≤ t + i) ⟨none, [], t, rfl, But.new hD, upd_same, by simp, hp.upd nD, by omega⟩ ?_ ?_ ?_⟩
    · rintro i σ H' hi ⟨v, ys, t', rfl, b, _⟩
      exact SqL.of (b _ _ ne hL)
    · rintro i x σ H' hx ⟨v, ys, t', rfl, b, hD', pm, hp', tt⟩
      have hi : i < xs.length := (List.getElem?_eq_some_iff.mp hx).1
      have ly : ys.length = i := by rw [pm.length_eq, List.length_take]; omega
      refine ⟨_, rfl, .inl ⟨rfl, _, SqL.of hD'⟩, _, rfl, _, rfl, D, _, rfl, .inl (SqL.of hD'), _, _, rfl, rfl, p, _, t', rfl, hp', by omega, by omega, by omega, fun r t2 o r0 r1 tt2 hp2 => ?_⟩
      refine ⟨_, rfl, D, ys, r, x, rfl, rfl, by rw [upd_ne nD.symm]; exact hD', by rw [sizeLine_eq]; omega, r0, by omega, ?_⟩
      refine ⟨_, _, t2, rfl, ?_, upd_same, ?_, hp2.upd nD, by omega⟩
      · intro b' u nb e
        rw [upd_ne (ne_of_none e hD), upd_ne nb]; exact b b' u nb e
      · rw [take_succ_get hx]
        exact (perm_ins ys _ x).trans (pm.append_right _)
    · rintro σ H' ⟨v, ys, t', rfl, b, hD', pm, hp', tt⟩
      rw [List.take_length] at pm
      exact ⟨_, rfl, k H' D ys t' b hD hD' pm hp' tt⟩
end
end D1
end L2
namespace L2
namespace D1
open PySem PySem.Spec PyProof.Rows
/-- the def that stands under the name x keeps a promise -/
structure Cal (P : Program) (w : World) (K : PySem.W.Frag) (mg : Str → Option Value) (base : Heap) (x : Str) (k : Nat) (ps : List Str) (sp : Sp) : Prop where
  ex : ∃ f fd, mg x = some (.ref f) ∧ PySem.W.keepIn K (.ref f) = true ∧ FnOk P w K mg base CX0 k f fd ps sp ∧ Binds K fd ps []
theorem pe_cal {X : Cx} {x : Str} {k : Nat} {ps : List Str} {sp : Sp} {e : Expr} {es : List Expr} {t : TA} {p pos : Pos} (C : Cal X.prog X.w X.K X.mg X.base x k ps sp) (hr : Room k X.A) (hg : Gl X x) (ha : PA X (e :: es) t)
    (hdb : (x == ("__debug__" : Str)) = false := by decide) (he : starEach (e :: es) X.env = (false, eval e X.env) :: starEach es X.env := by rfl) (hpl : (backTo pos (starEach es X.env)).any (·.1) = false := by rfl) :
    PE X (.Call (.Name x p) (e :: es) [] pos) (tCall sp [] E0 t) := by
  obtain ⟨f, fd, h1, h2, h3, h4⟩ := C.ex
  exact pe_call h3 hr hg h1 h2 h4 .nil pass0 ha hdb he hpl
theorem Cal.of {P : Program} {w : World} {K : PySem.W.Frag} {mg : Str → Option Value} {base : Heap} {x : Str} {k : Nat} {ps : List Str} {sp : Sp} {f : Addr} {fd : FuncData} (g : mg x = some (.ref f)) (kp : PySem.W.keepIn K (.ref f) = true) (F : FnOk P w K mg base CX0 k f fd ps sp) (b : Binds K fd ps []) : Cal P w K mg base x k ps sp := ⟨⟨f, fd, g, kp, F, b⟩⟩
def signs (z : Str) : List Str := z.cps.toList.map fun c => ⟨#[c]⟩
theorem call_listStr {X : Cx} (hc : X.calm = true) : CallR X (.type "list") (fun xs H Q => ∃ z : Str, xs = [.str z] ∧ z.cps.size ≤ sizeLine ∧ ∀ l, H l = none → Q (.ref l) (upd H l (.lst ((signs z).map V.str)))) := by
  intro pins s σ H xs us Q I r h
  obtain ⟨z, rfl, hz, q⟩ := h
  obtain ⟨u, rfl, t, rfl⟩ := vals1 r
  refine PySem.call_list_str (I.ok.hd hc) z t (fun h' tk acc' c' hkeep hS hacc => ?_) hz
  refine ⟨.ref s.heap.objs.size, upd H s.heap.objs.size (.lst ((signs z).map V.str)), I.laid hkeep (Nat.le_refl _) (show ObjOk X.prog X.w _ _ _ (.lst ((signs z).map V.str)) from ⟨?_, acc'.toList, c', ?_, ?_⟩), rfl, q _ (I.hok.fresh (Nat.le_refl _))⟩
  · rw [List.length_map, signs, List.length_map, Array.length_toList]; exact hz
  · have el : acc'.toList.length = acc'.size := by simp
    refine vals_of_at (by rw [List.length_map, signs, List.length_map, Array.length_toList, el, hacc.1]) fun j x w h1 h2 => ?_
    obtain ⟨c, v, hc, rfl⟩ := hacc.2 j w (by rw [← Array.getElem?_toList]; exact h2)
    rw [signs, List.map_map, List.getElem?_map, Array.getElem?_toList, hc] at h1
    cases h1
    exact ⟨v, rfl⟩
  · rw [Array.toArray_toList]; exact hS
def tl (x : Str) : List Nat := x.cps.toList
theorem tl_len (x : Str) : (tl x).length = x.length := Array.length_toList
theorem tl_app (x y : Str) : tl (x ++ y) = tl x ++ tl y := by
  show (x.cps ++ y.cps).toList = _
  rw [Array.toList_append]; rfl
theorem tl_ext {x y : Str} (h : tl x = tl y) : x = y := by
  cases x; cases y; exact congrArg _ (Array.toList_inj.mp h)
theorem tl_cut (z : Str) (lo hi : Option Int) : tl (cutS z lo hi) = ((tl z).drop (HT.sIx z.length 0 lo)).take (HT.sIx z.length z.length hi - HT.sIx z.length 0 lo) := rfl
/-- a word -/
structure Wd (x : Str) : Prop where
  lo : 1 ≤ x.length
  hi : x.length ≤ 8
  ok : ∀ c ∈ tl x, 97 ≤ c ∧ c ≤ 122
theorem wd_let {c : Nat} (h1 : 97 ≤ c) (h2 : c ≤ 122) : Wd ⟨#[c]⟩ := ⟨by show 1 ≤ 1; decide, by show 1 ≤ 8; decide, fun d hd => by obtain rfl : d = c := List.mem_singleton.mp hd; exact ⟨h1, h2⟩⟩
theorem sIx_of {n d : Nat} {r : Int} (h : 0 ≤ r) : HT.sIx n d (some r) = min r.toNat n := by
  show (if r < 0 then _ else _) = _
  rw [if_neg (by omega)]
theorem wd_bent {b : Str} {r : Int} {c : Nat} (h : Wd b) (r0 : 0 ≤ r) (r1 : r < b.length) (h1 : 97 ≤ c) (h2 : c ≤ 122) : Wd (cutS b none (some r) ++ ⟨#[c]⟩ ++ cutS b (some (r + 1)) none) := by
  have e : tl (cutS b none (some r) ++ ⟨#[c]⟩ ++ cutS b (some (r + 1)) none) = (tl b).take r.toNat ++ [c] ++ (tl b).drop (r + 1).toNat := by
    rw [tl_app, tl_app, tl_cut, tl_cut, HT.sIx_none, HT.sIx_none, sIx_of r0, sIx_of (by omega), Nat.min_eq_left (by omega), Nat.min_eq_left (by omega), Nat.sub_zero, List.drop_zero]
    congr 1
    refine List.take_of_length_le ?_
    rw [List.length_drop, tl_len]; omega
  have l : (cutS b none (some r) ++ ⟨#[c]⟩ ++ cutS b (some (r + 1)) none).length = b.length := by
    rw [← tl_len, e, List.length_append, List.length_append, List.length_take, List.length_drop, tl_len]
    simp only [List.length_singleton]
    omega
  refine ⟨by rw [l]; exact h.lo, by rw [l]; exact h.hi, fun d hd => ?_⟩
  rw [e] at hd
  rcases List.mem_append.mp hd with hd | hd
  · rcases List.mem_append.mp hd with hd | hd
    · exact h.ok d (List.mem_of_mem_take hd)
    · obtain rfl : d = c := List.mem_singleton.mp hd; exact ⟨h1, h2⟩
  · exact h.ok d (List.mem_of_mem_drop hd)
theorem inV_str (x : Str) : ∀ ss : List Str, inV (.str x) (ss.map V.str) = decide (x ∈ ss)
  | [] => by simp [inV]
  | y :: r => by
    have ih := inV_str x r
    unfold inV at ih ⊢
    rw [List.map_cons, List.any_cons, ih]
    show (y == x || decide (x ∈ r)) = _
    by_cases h : y = x
    · subst h; simp
    · have h1 : (y == x) = false := beq_eq_false_iff_ne.mpr h
      have h2 : ¬ x = y := fun e => h e.symm
      rw [h1, Bool.false_or]
      by_cases h3 : x ∈ r <;> simp [h2, h3]
theorem flat_strs (ss : List Str) : (ss.map V.str).all flatV = true := by
  induction ss with
  | nil => rfl
  | cons a r ih => rw [List.map_cons, List.all_cons, ih]; rfl
theorem pigeon {α : Type} [DecidableEq α] : ∀ (l m : List α), l.Nodup → (∀ x ∈ l, x ∈ m) → l.length ≤ m.length
  | [], _, _, _ => Nat.zero_le _
  | x :: r, m, nd, h => by
    have nd' := List.nodup_cons.mp nd
    have hx := h x List.mem_cons_self
    have ih := pigeon r (m.erase x) nd'.2 fun y hy => (List.mem_erase_of_ne fun e => nd'.1 (by rw [← e]; exact hy)).mpr (h y (List.mem_cons_of_mem _ hy))
    rw [List.length_erase_of_mem hx] at ih
    have : 0 < m.length := List.length_pos_of_mem hx
    rw [List.length_cons]; omega
def abc : Str := Str.ofString "abcdefghijklmnopqrstuvwxyz"
theorem abc_len : (signs abc).length = 26 := by decide +kernel
theorem abc_nd : (signs abc).Nodup := by decide +kernel
theorem abc_wd : ∀ x ∈ signs abc, Wd x := by
  have h : ∀ c ∈ tl abc, 97 ≤ c ∧ c ≤ 122 := by decide +kernel
  intro x hx
  obtain ⟨c, hc, rfl⟩ := List.mem_map.mp hx
  exact wd_let (h c hc).1 (h c hc).2
theorem abc_left {ss : List Str} (h : ss.length < 26) : ∃ x r, (signs abc).filter (fun x => decide (x ∉ ss)) = x :: r ∧ x ∉ ss ∧ Wd x := by
  cases e : (signs abc).filter (fun x => decide (x ∉ ss)) with
  | nil =>
    exfalso
    have := pigeon (signs abc) ss abc_nd fun x hx => Classical.byContradiction fun n => by
      have : x ∈ (signs abc).filter (fun x => decide (x ∉ ss)) := List.mem_filter.mpr ⟨hx, by simpa using n⟩
      rw [e] at this; cases this
    rw [abc_len] at this; omega
  | cons x r =>
    have h1 : x ∈ (signs abc).filter (fun x => decide (x ∉ ss)) := by rw [e]; exact List.mem_cons_self
    obtain ⟨h2, h3⟩ := List.mem_filter.mp h1
    exact ⟨x, r, rfl, by simpa using h3, abc_wd x h2⟩
end D1
end L2
namespace L2
namespace D1
open PySem PySem.Spec PyProof.Rows
structure Free2 (mg : Str → Option Value) : Prop extends Free mg where
  list : mg "list" = none
  dict : mg "dict" = none
  tuple : mg "tuple" = none
  str : mg "str" = none
  bool : mg "bool" = none
  zip : mg "zip" = none
  sorted : mg "sorted" = none
abbrev sWords : Stmt := top 58
abbrev sPool : Stmt := top 59
def spWords : Sp := fun vs H Q _ => ∃ (p : Addr) (n t : Int), vs = [.ref p, .int n] ∧ Purse H p t ∧ 0 ≤ n ∧ n ≤ 20 ∧ t < 2 ^ 28 ∧
  ∀ (H' : Hp) (R : Addr) (ss : List Str) (t' : Int), But p H H' → H R = none → SL H' R ss → ss.length = n.toNat → ss.Nodup → (∀ x ∈ ss, Wd x) → Purse H' p t' → t' ≤ t + 300 → Q (.ref R) H'
theorem upd_none' {H : Hp} {a b : Addr} {o : HO} (e : L2.upd H a o b = none) : H b = none := by
  by_cases h : b = a
  · rw [h, upd_same] at e; cases e
  · rw [upd_ne h] at e; exact e
theorem But.fr {p b : Addr} {H H' : Hp} (h : But p H H') (e : H' b = none) (n : b ≠ p) : H b = none := by
  cases z : H b with
  | none => rfl
  | some o => rw [h b o n z] at e; cases e
theorem But.ofL {p L : Addr} {H0 H : Hp} {o : HO} (n : H0 L = Option.none) : But p H0 H → But p H0 (L2.upd H L o) := fun s b u nb e => by
  rw [upd_ne (ne_of_none e n)]; exact s b u nb e
theorem get_map {α β : Type} {f : α → β} {l : List α} {i : Nat} {y : β} (h : (l.map f)[i]? = some y) : ∃ x, l[i]? = some x ∧ y = f x := by
  rw [List.getElem?_map] at h
  obtain ⟨x, h1, h2⟩ := Option.map_eq_some_iff.mp h
  exact ⟨x, h1, h2.symm⟩
theorem nodup_app {α : Type} {l : List α} {x : α} (h : l.Nodup) (n : x ∉ l) : (l ++ [x]).Nodup :=
  List.nodup_append.mpr ⟨h, by simp, fun a ha b hb e => by obtain rfl : b = x := List.mem_singleton.mp hb; exact n (e ▸ ha)⟩
theorem wd_app {l : List Str} {x : Str} (h : ∀ y ∈ l, Wd y) (w : Wd x) : ∀ y ∈ l ++ [x], Wd y := fun y hy => by
  rcases List.mem_append.mp hy with hy | hy
  · exact h y hy
  · obtain rfl : y = x := List.mem_singleton.mp hy; exact w
theorem filt_yes {α : Type} {l : List α} {j : Nat} {z : α} {f : α → Bool} (h : l[j]? = some z) (b : f z = true) : (l.take (j + 1)).filter f = (l.take j).filter f ++ [z] := by
  rw [take_succ_get h, List.filter_append]; simp [List.filter, b]
theorem filt_no {α : Type} {l : List α} {j : Nat} {z : α} {f : α → Bool} (h : l[j]? = some z) (b : f z = false) : (l.take (j + 1)).filter f = (l.take j).filter f := by
  rw [take_succ_get h, List.filter_append]; simp [List.filter, b]
theorem cut_len (z : Str) (lo hi : Option Int) : (cutS z lo hi).length ≤ z.length := by
  rw [← tl_len, tl_cut, List.length_take, List.length_drop, tl_len]; omega
theorem bent_len1 {b : Str} {r : Int} {c : Nat} (h : Wd b) : (cutS b none (some r)).length + (⟨#[c]⟩ : Str).length ≤ sizeLine := by
  have := cut_len b none (some r); have := h.hi; rw [sizeLine_eq]; show _ + 1 ≤ _; omega
theorem bent_len2 {b : Str} {r r2 : Int} {c : Nat} (h : Wd b) : (cutS b none (some r) ++ ⟨#[c]⟩).length + (cutS b (some r2) none).length ≤ sizeLine := by
  have h1 := cut_len b none (some r); have h2 := cut_len b (some r2) none; have := h.hi
  rw [← tl_len, tl_app, List.length_append, tl_len, sizeLine_eq]
  show _ + 1 + _ ≤ _; omega
section
variable {P : Program} {w : World} {K : PySem.W.Frag} {mg : Str → Option Value} {base : Heap}
abbrev CDraw (P : Program) (w : World) (K : PySem.W.Frag) (mg : Str → Option Value) (base : Heap) := Cal P w K mg base "_law_draw" 2 ["_law_purse_here", "_law_many"] spDraw
abbrev CWord (P : Program) (w : World) (K : PySem.W.Frag) (mg : Str → Option Value) (base : Heap) := Cal P w K mg base "_law_word" 3 ["_law_purse_here"] spWord
abbrev CShuf (P : Program) (w : World) (K : PySem.W.Frag) (mg : Str → Option Value) (base : Heap) := Cal P w K mg base "_law_shuffled" 3 ["_law_purse_here", "_law_some"] spShuf
abbrev CWords (P : Program) (w : World) (K : PySem.W.Frag) (mg : Str → Option Value) (base : Heap) := Cal P w K mg base "_law_words" 4 ["_law_purse_here", "_law_many"] spWords
theorem scWs : FnScope ["_law_purse_here", "_law_many", "_law_base", "_law_near", "_law_spot", "_law_found", "_law_turn", "_law_word_here", "_law_letter"] ["_law_purse_here", "_law_many"] (defScope sWords) := ⟨rfl, rfl, rfl, by decide +kernel, rfl, by decide +kernel, by decide +kernel⟩
theorem ok_words {f : Addr} {fd : FuncData} (F : Fun K "_law_words" "_law_words" sWords f fd) (T : Free2 mg) (CD : CDraw P w K mg base) (CW : CWord P w K mg base) :
    FnOk P w K mg base CX0 4 f fd ["_law_purse_here", "_law_many"] spWords := by
  refine F.ok scWs (fun vs H Q E h => ?_) (fun cdv A outer s H vs Q E hr h => ?_)
  · obtain ⟨p, n, t, rfl, _⟩ := h; rfl
  · obtain ⟨p, n, t, rfl, hp, n0, n1, t1, k⟩ := h
    refine ⟨_, pss_cons (ps_par (i := 2) (j := 3) rfl scWs.nd rfl rfl (by decide) rfl rfl (pa_cons (pe_cal CW (hr.mono (by decide)) rfl (pa_cons (pv 0) pa_nil)) (pa_cons (pe_cmpR op_eq (pe_cal CD (hr.mono (by decide)) rfl (pa_cons (pv 0) (pa_cons pe_int pa_nil))) pe_int (nomark _)) pa_nil)) (by rfl))
      (pss_cons (ps_asg (pe_tup (pa_cons (pe_cal CD (hr.mono (by decide)) rfl (pa_cons (pv 0) (pa_cons (pe_callB call_len_str (by rfl) T.len PySem.boot_len (pa_cons (pv 2) pa_nil)) pa_nil))) (pa_cons (pe_lst pa_nil) pa_nil))) (pg_tup rfl (pgs_cons (pg_name (i := 4) scWs.nd rfl (Or.inl rfl)) (pgs_cons (pg_name (i := 5) scWs.nd rfl (Or.inr rfl)) pgs_nil))))
      (pss_cons (ps_for PassesOwn.never rfl (pi_range1 rfl T.range (pa_cons (pv 1) pa_nil)) (pg_name (i := 6) scWs.nd rfl (Or.inl rfl))
        (pss_cons (ps_set (i := 7) scWs.nd rfl (Or.inl rfl) (pe_op op_add_str (pe_op op_add_str (pe_slice sl_str (pv 2) po_none (po_some (pv 4))) (pe_ix ix_str pe_str (pe_cal CD (hr.mono (by decide)) rfl (pa_cons (pv 0) (pa_cons pe_int pa_nil))) (fun _ _ => rfl))) (pe_slice sl_str (pv 2) (po_some (pe_op op_add (pv 4) pe_int)) po_none)))
        (pss_cons (ps_if (pt_not (pt_truth (pv 3) (by intro _; rfl))) (pss_one (ps_set (i := 7) scWs.nd rfl (Or.inl rfl) (pe_cal CW (hr.mono (by decide)) rfl (pa_cons (pv 0) pa_nil)))) pss_nil)
        (pss_cons (ps_if (pt_cmpR op_in_seq (pv 7) (pv 5) rfl) (pss_one (ps_set (i := 7) scWs.nd rfl (Or.inl rfl) (pe_ix ix_list (pe_lc (own := [("_law_letter", 8)]) (g := gName 8) (tt := tTest (tOp (rIn K true) (tVar 8) (tVar 5))) rfl scWs.nd
            (pi_list (pe_callTy (call_listStr rfl) (by rfl) T.list (by decide +kernel) (pa_cons pe_str pa_nil)))
            (blkOk_by (N := ["_law_purse_here", "_law_many", "_law_base", "_law_near", "_law_spot", "_law_found", "_law_turn", "_law_word_here", "_law_letter"]) (sc := defScope sWords) (by decide +kernel)) (fun _ _ _ _ _ => pg_name (i := 8) scWs.nd rfl (Or.inl rfl))
            (fun _ _ _ _ _ => pts_one (pt_cmpR op_notIn_seq (pv 8) (pv 5) rfl)) (fun _ _ _ _ _ => pv 8)) pe_int (fun _ _ => rfl)))) pss_nil)
        (pss_one (ps_expr (pe_bm PySem.F.plainAttrs_list PySem.F.slot_list_append PySem.F.type_list_append mt_append (pv 5) (pa_cons (pv 7) pa_nil))))))))
      (pss_one (ps_ret (pv 5))))), ?_⟩
    refine ⟨_, rfl, p, t, rfl, hp, by omega, fun base' H1 t2 b1 b2 b3 bt1 hp1 tt1 => ?_⟩
    refine ⟨_, rfl, p, 3, t2, rfl, hp1, by decide, by decide, by omega, fun r t3 o r0 r1 tt2 hp2 => ?_⟩
    refine ⟨rfl, _, _, rfl, ?_⟩
    refine ⟨_, rfl, _, rfl, base', rfl, by have := sizeLine_eq; omega, p, _, t3, rfl, hp2, by omega, by omega, by omega, fun spot t4 o4 s0 s1 tt4 hp4 => ?_⟩
    refine ⟨Nat.zero_le _, fun L hL => ?_⟩
    refine ⟨by show 2 ≤ sizeLine; decide, fun T1 hT1 => ?_⟩
    have hL0 : H L = none := by
      have z := upd_none' (upd_none' hL)
      exact bt1.fr z (fun e => by obtain ⟨u, hu⟩ := hp1.some; rw [← e, z] at hu; cases hu)
    have npL : p ≠ L := by obtain ⟨u, hu⟩ := hp4.some; exact ne_of_none hu hL
    have nTL : L ≠ T1 := fun e => by rw [← e, upd_same] at hT1; cases hT1
    have npT : p ≠ T1 := by
      obtain ⟨u, hu⟩ := (hp4.upd (o := .lst []) npL).some
      exact ne_of_none hu hT1
    refine ⟨T1, _, rfl, SqT.of upd_same, rfl, _, _, rfl, _, _, rfl, rfl, ?_⟩
    have wb : Wd base' := ⟨b1, b2, b3⟩
    refine ⟨_, rfl, n, rfl, by omega, by omega, ?_⟩
    refine for_range (n := n.toNat) (fun i σ H' => ∃ (v6 v7 : Option V) (ss : List Str) (t' : Int), σ = [some (.ref p), some (.int n), some (.str base'), some (.bl (decide (V.int r = V.int 0))), some (.int spot), some (.ref L), v6, v7, none] ∧ But p H H' ∧ SL H' L ss ∧ ss.length = i ∧ ss.Nodup ∧ (∀ x ∈ ss, Wd x) ∧ Purse H' p t' ∧ t' ≤ t + 12 + 12 * i)
      ⟨none, none, [], t4, rfl, ?_, ?_, rfl, List.nodup_nil, (fun x hx => by cases hx), (hp4.upd npL).upd npT, by omega⟩ ?_ ?_
    · exact ((bt1.trans (But.upd p _ o)).trans (But.upd p _ o4)).trans ((But.new hL).trans (But.new hT1))
    · rw [SL, upd_ne nTL, upd_same]; rfl
    · rintro i σ HX hi ⟨v6, v7, ss, tX, rfl, bX, hLX, ls, nd, aw, hpX, ttX⟩
      have li : i < 20 := by omega
      refine ⟨_, rfl, _, rfl, _, rfl, base', rfl, by rw [sizeLine_eq]; omega, _, rfl, p, 26, tX, rfl, hpX, by decide, by decide, by omega, fun rc tY oY y0 y1 ttY hpY => ?_⟩
      obtain ⟨cc, ec, c1, c2⟩ := abc_at rc y0 y1
      refine ⟨_, rc, cc, rfl, rfl, by decide +kernel, ec, _, _, rfl, rfl, ?_, _, rfl, _, rfl, _, _, rfl, rfl, _, rfl, base', rfl, by rw [sizeLine_eq]; omega, _, _, rfl, rfl, ?_, ?_⟩
      · exact bent_len1 wb
      · exact bent_len2 wb
      have wwX := wd_bent wb s0 s1 c1 c2
      generalize cutS base' none (some spot) ++ ⟨#[cc]⟩ ++ cutS base' (some (spot + 1)) none = wX at wwX
      replace bX := bX.trans (But.upd p HX oY)
      replace hLX : SL (L2.upd HX p oY) L ss := by rw [SL, upd_ne npL.symm]; exact hLX
      replace hpX := hpY
      generalize L2.upd HX p oY = HX at bX hLX hpX
      clear hpY
      refine ⟨_, rfl, _, rfl, ?_⟩
      refine ite2 (fun _ => ?_) (fun _ => ?_)
      · refine ⟨_, rfl, p, tY, rfl, hpX, by omega, fun wX HX2 tX2 w1 w2 w3 btX hpX2 ttX2 => ?_⟩
        have wwX : Wd wX := ⟨w1, w2, w3⟩
        replace bX := bX.trans btX
        replace hLX : SL HX2 L ss := btX _ _ npL.symm hLX
        replace hpX := hpX2
        refine ⟨_, rfl, _, rfl, L, _, rfl, .inl hLX.sq, rfl, flat_strs ss, ?_⟩
        refine ⟨_, rfl, ?_⟩
        rw [if_neg (by decide), inV_str]
        refine ite2 (fun c => ?_) (fun c => ?_)
        · refine ⟨_, rfl, by decide +kernel, fun q hq => ⟨q, rfl, ⟨_, SqL.of upd_same⟩, fun D hD => ?_⟩⟩
          have nqL : L ≠ q := ne_of_none hLX hq
          have hDX : HX2 D = none := upd_none' hD
          have nDL : L ≠ D := ne_of_none hLX hDX
          have nDq : q ≠ D := fun e => by rw [e, upd_same] at hD; cases hD
          refine lc_list (K := K) (a := q) (xs := (signs abc).map V.str) (fun j H' => Same HX2 H' ∧ SL H' q (signs abc) ∧ SL H' D (((signs abc).take j).filter fun x => decide (x ∉ ss)))
            ⟨fun b u e => by rw [upd_ne (ne_of_none e hDX), upd_ne (ne_of_none e hq)]; exact e, by rw [SL, upd_ne nDq, upd_same]; rfl, by rw [SL, upd_same]; rfl⟩ (fun j H' _ z => z.2.1.sq) ?_ ?_
          · rintro j x H' hx ⟨sm, hq', hD'⟩
            obtain ⟨z, hz, rfl⟩ := get_map hx
            refine ⟨rfl, _, rfl, _, rfl, L, _, rfl, .inl (hLX.same sm).sq, rfl, flat_strs ss, ?_⟩
            refine ⟨_, rfl, ?_⟩
            rw [if_pos rfl, inV_str]
            have lj : j < 26 := by rw [← abc_len]; exact (List.getElem?_eq_some_iff.mp hz).1
            by_cases hzs : z ∈ ss
            · have e1 : decide (z ∈ ss) = true := decide_eq_true hzs
              rw [e1]
              refine iteF ?_
              refine ⟨sm, hq', ?_⟩
              rw [filt_no hz (by simpa using hzs)]
              exact hD'
            · have e1 : decide (z ∈ ss) = false := decide_eq_false hzs
              rw [e1]
              refine iteT ?_
              refine ⟨_, rfl, _, hD', by rw [List.length_map, sizeLine_eq]; exact Nat.lt_of_le_of_lt (List.length_filter_le _ _) (by rw [List.length_take]; omega), fun b u e => ?_, ?_, ?_⟩
              · rw [upd_ne (ne_of_none e hDX)]; exact sm _ _ e
              · rw [SL, upd_ne nDq]; exact hq'
              · rw [SL, upd_same, filt_yes hz (by simpa using hzs), List.map_append]
                rfl
          · rintro H' ⟨sm, hq', hD'⟩
            have lf : ((signs abc).map V.str).length = (signs abc).length := List.length_map _
            rw [lf, List.take_length] at hD'
            obtain ⟨x, rr, ex, nx, wx⟩ := abc_left (ss := ss) (by omega)
            refine ⟨D, _, 0, .str x, rfl, rfl, SqL.of hD', by rw [ex]; exact atI_nat (j := 0) rfl, ?_⟩
            refine ⟨_, rfl, .inl ⟨rfl, _, SqL.of (hLX.same sm)⟩, _, rfl, L, _, _, rfl, rfl, hLX.same sm, by rw [List.length_map, sizeLine_eq]; omega, ?_⟩
            exact ⟨_, _, ss ++ [x], tX2, rfl, But.ofL hL0 (bX.trans (But.of sm)), by rw [SL, upd_same, List.map_append]; rfl, by rw [List.length_append, ls]; rfl, nodup_app nd nx, wd_app aw wx, (hpX.same sm).upd npL, by omega⟩
        · refine ⟨_, rfl, .inl ⟨rfl, _, SqL.of hLX⟩, _, rfl, L, _, _, rfl, rfl, hLX, by rw [List.length_map, sizeLine_eq]; omega, ?_⟩
          exact ⟨_, _, ss ++ [wX], tX2, rfl, But.ofL hL0 bX, by rw [SL, upd_same, List.map_append]; rfl, by rw [List.length_append, ls]; rfl, nodup_app nd (of_decide_eq_false (Bool.eq_false_iff.mpr c)), wd_app aw wwX, hpX.upd npL, by omega⟩
      · refine ⟨_, rfl, _, rfl, L, _, rfl, .inl hLX.sq, rfl, flat_strs ss, ?_⟩
        refine ⟨_, rfl, ?_⟩
        rw [if_neg (by decide), inV_str]
        refine ite2 (fun c => ?_) (fun c => ?_)
        · refine ⟨_, rfl, by decide +kernel, fun q hq => ⟨q, rfl, ⟨_, SqL.of upd_same⟩, fun D hD => ?_⟩⟩
          have nqL : L ≠ q := ne_of_none hLX hq
          have hDX : HX D = none := upd_none' hD
          have nDL : L ≠ D := ne_of_none hLX hDX
          have nDq : q ≠ D := fun e => by rw [e, upd_same] at hD; cases hD
          refine lc_list (K := K) (a := q) (xs := (signs abc).map V.str) (fun j H' => Same HX H' ∧ SL H' q (signs abc) ∧ SL H' D (((signs abc).take j).filter fun x => decide (x ∉ ss)))
            ⟨fun b u e => by rw [upd_ne (ne_of_none e hDX), upd_ne (ne_of_none e hq)]; exact e, by rw [SL, upd_ne nDq, upd_same]; rfl, by rw [SL, upd_same]; rfl⟩ (fun j H' _ z => z.2.1.sq) ?_ ?_
          · rintro j x H' hx ⟨sm, hq', hD'⟩
            obtain ⟨z, hz, rfl⟩ := get_map hx
            refine ⟨rfl, _, rfl, _, rfl, L, _, rfl, .inl (hLX.same sm).sq, rfl, flat_strs ss, ?_⟩
            refine ⟨_, rfl, ?_⟩
            rw [if_pos rfl, inV_str]
            have lj : j < 26 := by rw [← abc_len]; exact (List.getElem?_eq_some_iff.mp hz).1
            by_cases hzs : z ∈ ss
            · have e1 : decide (z ∈ ss) = true := decide_eq_true hzs
              rw [e1]
              refine iteF ?_
              refine ⟨sm, hq', ?_⟩
              rw [filt_no hz (by simpa using hzs)]
              exact hD'
            · have e1 : decide (z ∈ ss) = false := decide_eq_false hzs
              rw [e1]
              refine iteT ?_
              refine ⟨_, rfl, _, hD', by rw [List.length_map, sizeLine_eq]; exact Nat.lt_of_le_of_lt (List.length_filter_le _ _) (by rw [List.length_take]; omega), fun b u e => ?_, ?_, ?_⟩
              · rw [upd_ne (ne_of_none e hDX)]; exact sm _ _ e
              · rw [SL, upd_ne nDq]; exact hq'
              · rw [SL, upd_same, filt_yes hz (by simpa using hzs), List.map_append]
                rfl
          · rintro H' ⟨sm, hq', hD'⟩
            have lf : ((signs abc).map V.str).length = (signs abc).length := List.length_map _
            rw [lf, List.take_length] at hD'
            obtain ⟨x, rr, ex, nx, wx⟩ := abc_left (ss := ss) (by omega)
            refine ⟨D, _, 0, .str x, rfl, rfl, SqL.of hD', by rw [ex]; exact atI_nat (j := 0) rfl, ?_⟩
            refine ⟨_, rfl, .inl ⟨rfl, _, SqL.of (hLX.same sm)⟩, _, rfl, L, _, _, rfl, rfl, hLX.same sm, by rw [List.length_map, sizeLine_eq]; omega, ?_⟩
            exact ⟨_, _, ss ++ [x], tY, rfl, But.ofL hL0 (bX.trans (But.of sm)), by rw [SL, upd_same, List.map_append]; rfl, by rw [List.length_append, ls]; rfl, nodup_app nd nx, wd_app aw wx, (hpX.same sm).upd npL, by omega⟩
        · refine ⟨_, rfl, .inl ⟨rfl, _, SqL.of hLX⟩, _, rfl, L, _, _, rfl, rfl, hLX, by rw [List.length_map, sizeLine_eq]; omega, ?_⟩
          exact ⟨_, _, ss ++ [wX], tY, rfl, But.ofL hL0 bX, by rw [SL, upd_same, List.map_append]; rfl, by rw [List.length_append, ls]; rfl, nodup_app nd (of_decide_eq_false (Bool.eq_false_iff.mpr c)), wd_app aw wwX, hpX.upd npL, by omega⟩
    · rintro σ H' ⟨v6, v7, ss, t', rfl, b, hS, ls, nd, aw, hp', tt⟩
      exact ⟨_, rfl, k H' L ss t' b hL0 hS ls nd aw hp' (by omega)⟩
end
end D1
end L2
namespace L2
namespace D1
open PySem PySem.Spec PyProof.Rows
def unS : V → Str
  | .str x => x
  | _ => ""
theorem Purse.ne {H : Hp} {p q : Addr} {t : Int} (h : Purse H p t) (n : H q = none) : q ≠ p := by
  obtain ⟨u, hu⟩ := h.some; exact (ne_of_none hu n).symm
theorem Purse.new {H : Hp} {p q : Addr} {t : Int} {o : HO} (h : Purse H p t) (n : H q = none) : Purse (L2.upd H q o) p t := h.upd (h.ne n).symm
theorem SL.new {H : Hp} {q a : Addr} {ss : List Str} {o : HO} (h : SL H a ss) (n : H q = none) : SL (L2.upd H q o) a ss := h.same (Same.new n)
theorem But.newt {p q : Addr} {H H1 : Hp} {o : HO} (h : But p H H1) (n : H1 q = none) : But p H (L2.upd H1 q o) := h.trans (But.new n)
theorem unS_map (ss : List Str) : (ss.map V.str).map unS = ss := by
  rw [List.map_map]
  exact List.map_id'' (fun _ => rfl) ss
/-- a permutation of texts is one of texts -/
theorem perm_str {ys : List V} {ss : List Str} (h : ys.Perm (ss.map V.str)) : ∃ zs : List Str, ys = zs.map V.str ∧ zs.Perm ss := by
  have a : ∀ y ∈ ys, y = V.str (unS y) := fun y hy => by
    obtain ⟨x, _, rfl⟩ := List.mem_map.mp (h.mem_iff.mp hy)
    rfl
  refine ⟨ys.map unS, ?_, ?_⟩
  · rw [List.map_map]
    refine (List.map_congr_left (g := id) fun y hy => (a y hy).symm).trans ?_ |>.symm
    exact List.map_id ys
  · have := h.map unS
    rwa [unS_map] at this
def cutL {α : Type} (xs : List α) (lo hi : Option Int) : List α := (xs.drop (HT.sIx xs.length 0 lo)).take (HT.sIx xs.length xs.length hi - HT.sIx xs.length 0 lo)
theorem cutV_map (ss : List Str) (lo hi : Option Int) : cutV (ss.map V.str) lo hi = (cutL ss lo hi).map V.str := by
  unfold cutV cutL
  rw [List.length_map, List.map_take, List.map_drop]
theorem cutL_to {α : Type} (xs : List α) {k : Int} (h : 0 ≤ k) : cutL xs none (some k) = xs.take k.toNat := by
  unfold cutL
  rw [HT.sIx_none, sIx_of h, Nat.sub_zero, List.drop_zero]
  rcases Nat.le_total k.toNat xs.length with q | q
  · rw [Nat.min_eq_left q]
  · rw [Nat.min_eq_right q, List.take_of_length_le (Nat.le_refl _), List.take_of_length_le q]
theorem cutL_from {α : Type} (xs : List α) {k : Int} (h : 0 ≤ k) : cutL xs (some k) none = xs.drop k.toNat := by
  unfold cutL
  rw [HT.sIx_none, sIx_of h]
  rcases Nat.le_total k.toNat xs.length with q | q
  · rw [Nat.min_eq_left q]
    exact List.take_of_length_le (by rw [List.length_drop]; omega)
  · rw [Nat.min_eq_right q, List.drop_of_length_le (Nat.le_refl _), List.drop_of_length_le q, List.take_nil]
abbrev sTurns : Stmt := top 60
def spPool : Sp := fun vs H Q _ => ∃ (p : Addr) (t : Int), vs = [.ref p] ∧ Purse H p t ∧ t < 2 ^ 27 ∧
  ∀ (H' : Hp) (R : Addr) (ss : List Str) (t' : Int), But p H H' → H R = none → SL H' R ss → ss.length = 6 → ss.Nodup → (∀ x ∈ ss, Wd x) → Purse H' p t' → t' ≤ t + 400 → Q (.ref R) H'
/-- turns as they stand in a dict -/
def kT (ts : List (Str × Str)) : List (Key × V) := ts.map fun t => (Sum.inr t.1, V.str t.2)
def putT (ts : List (Str × Str)) (k v : Str) : List (Str × Str) := if (ts.any fun t => decide (t.1 = k)) = true then ts.map (fun t => if t.1 = k then (t.1, v) else t) else ts ++ [(k, v)]
theorem any_kT (ts : List (Str × Str)) (k : Str) : ((kT ts).any fun kv => decide (kv.1 = Sum.inr k)) = ts.any fun t => decide (t.1 = k) := by
  rw [kT, List.any_map]
  refine congrArg (fun f => ts.any f) (funext fun t => ?_)
  show decide ((Sum.inr t.1 : Key) = Sum.inr k) = _
  by_cases h : t.1 = k
  · rw [h]; simp
  · have : ¬ (Sum.inr t.1 : Key) = Sum.inr k := fun e => h (Sum.inr.inj e)
    simp [h, this]
theorem putK_kT (ts : List (Str × Str)) (k v : Str) : putK (kT ts) (.inr k) (.str v) = kT (putT ts k v) := by
  unfold putK putT
  rw [any_kT]
  by_cases h : (ts.any fun t => decide (t.1 = k)) = true
  · rw [if_pos h, if_pos h, kT, kT, List.map_map, List.map_map]
    refine List.map_congr_left fun t _ => ?_
    show (if (Sum.inr t.1 : Key) = Sum.inr k then ((Sum.inr t.1 : Key), V.str v) else ((Sum.inr t.1 : Key), V.str t.2)) = _
    by_cases e : t.1 = k
    · rw [if_pos (congrArg _ e)]; simp [e]
    · rw [if_neg fun z => e (Sum.inr.inj z)]; simp [e]
  · rw [if_neg h, if_neg h, kT, kT, List.map_append]
    rfl
theorem any_mem (ts : List (Str × Str)) (k : Str) : ((ts.any fun t => decide (t.1 = k)) = true) ↔ k ∈ ts.map (·.1) := by
  rw [List.any_eq_true]
  constructor
  · rintro ⟨t, ht, e⟩
    exact List.mem_map.mpr ⟨t, ht, of_decide_eq_true e⟩
  · intro h
    obtain ⟨t, ht, e⟩ := List.mem_map.mp h
    exact ⟨t, ht, decide_eq_true e⟩
theorem putT_keys (ts : List (Str × Str)) (k v : Str) : (putT ts k v).map (·.1) = if k ∈ ts.map (·.1) then ts.map (·.1) else ts.map (·.1) ++ [k] := by
  unfold putT
  by_cases h : (ts.any fun t => decide (t.1 = k)) = true
  · rw [if_pos h, if_pos ((any_mem ts k).mp h), List.map_map]
    refine List.map_congr_left fun t _ => ?_
    show (if t.1 = k then (t.1, v) else t).1 = t.1
    by_cases e : t.1 = k
    · rw [if_pos e]
    · rw [if_neg e]
  · rw [if_neg h, if_neg fun z => h ((any_mem ts k).mpr z), List.map_append]
    rfl
theorem putT_goal {ts : List (Str × Str)} {k v : Str} : ∀ t ∈ putT ts k v, t.2 = v ∨ t ∈ ts := by
  unfold putT
  intro t ht
  by_cases h : (ts.any fun t => decide (t.1 = k)) = true
  · rw [if_pos h] at ht
    obtain ⟨u, hu, e⟩ := List.mem_map.mp ht
    by_cases c : u.1 = k
    · rw [if_pos c] at e; exact .inl (by rw [← e])
    · rw [if_neg c] at e; exact .inr (e ▸ hu)
  · rw [if_neg h] at ht
    rcases List.mem_append.mp ht with ht | ht
    · exact .inr ht
    · obtain rfl := List.mem_singleton.mp ht; exact .inl rfl
def TurnsAt (H : Hp) (a : Addr) (ts : List (Str × Str)) : Prop := H a = some (.dK (kT ts))
theorem TurnsAt.same {H H' : Hp} {a : Addr} {ts : List (Str × Str)} (h : TurnsAt H a ts) (s : Same H H') : TurnsAt H' a ts := s _ _ h
/-- turns over the words ws to the states ss -/
structure TOk (ts : List (Str × Str)) (ss ws : List Str) : Prop where
  nd : (ts.map (·.1)).Nodup
  ks : ∀ t ∈ ts, t.1 ∈ ws
  gs : ∀ t ∈ ts, t.2 ∈ ss
theorem TOk.nil {ss ws : List Str} : TOk [] ss ws := ⟨List.nodup_nil, by simp, by simp⟩
theorem TOk.len {ts : List (Str × Str)} {ss ws : List Str} (h : TOk ts ss ws) : ts.length ≤ ws.length := by
  have := pigeon (ts.map (·.1)) ws h.nd fun x hx => by obtain ⟨t, ht, rfl⟩ := List.mem_map.mp hx; exact h.ks t ht
  rwa [List.length_map] at this
theorem TOk.put {ts : List (Str × Str)} {ss ws : List Str} {k v : Str} (h : TOk ts ss ws) (hk : k ∈ ws) (hv : v ∈ ss) : TOk (putT ts k v) ss ws := by
  refine ⟨?_, fun t ht => ?_, fun t ht => ?_⟩
  · rw [putT_keys]
    by_cases c : k ∈ ts.map (·.1)
    · rw [if_pos c]; exact h.nd
    · rw [if_neg c]; exact nodup_app h.nd c
  · have : t.1 ∈ (putT ts k v).map (·.1) := List.mem_map_of_mem ht
    rw [putT_keys] at this
    have key : t.1 ∈ ts.map (·.1) → t.1 ∈ ws := fun z => by obtain ⟨u, hu, e⟩ := List.mem_map.mp z; rw [← e]; exact h.ks u hu
    by_cases c : k ∈ ts.map (·.1)
    · rw [if_pos c] at this; exact key this
    · rw [if_neg c] at this
      rcases List.mem_append.mp this with z | z
      · exact key z
      · rw [List.mem_singleton.mp z]; exact hk
  · rcases putT_goal t ht with e | e
    · rw [e]; exact hv
    · exact h.gs t e
theorem putT_ne {ts : List (Str × Str)} {k v : Str} : putT ts k v ≠ [] := fun e => by
  have := congrArg (List.map (·.1)) e
  rw [putT_keys] at this
  by_cases c : k ∈ ts.map (·.1)
  · rw [if_pos c] at this
    have e2 : ts.map (·.1) = [] := this
    rw [e2] at c; cases c
  · rw [if_neg c] at this; simp at this
def spTurns : Sp := fun vs H Q _ => ∃ (p S W : Addr) (ss ws : List Str) (at' top' t : Int), vs = [.ref p, .ref S, .ref W, .int at', .int top'] ∧ Purse H p t ∧ SL H S ss ∧ SL H W ws ∧ S ≠ p ∧ W ≠ p ∧ 1 ≤ ss.length ∧ ss.length ≤ 1000 ∧ 1 ≤ ws.length ∧ ws.length ≤ 20 ∧ ws.Nodup ∧ 0 ≤ at' ∧ at' < 2 ^ 20 ∧ 1 ≤ top' ∧ top' < 2 ^ 20 ∧ t < 2 ^ 27 ∧
  ∀ (H' : Hp) (R : Addr) (ts : List (Str × Str)) (t' : Int), But p H H' → H R = none → TurnsAt H' R ts → TOk ts ss ws → ts ≠ [] → Purse H' p t' → t' ≤ t + 50 → Q (.ref R) H'
def nmsL : List Str := ["says", "hears", "done", "start", "end"]
theorem nms_wd : ∀ x ∈ nmsL, Wd x := by
  have h : ∀ x ∈ nmsL, 1 ≤ x.length ∧ x.length ≤ 8 ∧ ∀ c ∈ tl x, 97 ≤ c ∧ c ≤ 122 := by decide +kernel
  exact fun x hx => ⟨(h x hx).1, (h x hx).2.1, (h x hx).2.2⟩
theorem nms_nd : nmsL.Nodup := by decide +kernel
section
variable {P : Program} {w : World} {K : PySem.W.Frag} {mg : Str → Option Value} {base : Heap}
abbrev COne (P : Program) (w : World) (K : PySem.W.Frag) (mg : Str → Option Value) (base : Heap) := Cal P w K mg base "_law_one_of" 3 ["_law_purse_here", "_law_some"] spOneOf
theorem scPo : FnScope ["_law_purse_here", "_law_words_here", "_law_word_here"] ["_law_purse_here"] (defScope sPool) := ⟨rfl, rfl, rfl, by decide +kernel, rfl, by decide +kernel, by decide +kernel⟩
theorem ok_pool {f : Addr} {fd : FuncData} (F : Fun K "_law_pool" "_law_pool" sPool f fd) (T : Free2 mg) (CD : CDraw P w K mg base) (CW : CWords P w K mg base) (CS : CShuf P w K mg base) :
    FnOk P w K mg base CX0 5 f fd ["_law_purse_here"] spPool := by
  refine F.ok scPo (fun vs H Q E h => ?_) (fun cdv A outer s H vs Q E hr h => ?_)
  · obtain ⟨p, t, rfl, _⟩ := h; rfl
  · obtain ⟨p, t, rfl, hp, t1, k⟩ := h
    refine ⟨_, pss_cons (ps_set (i := 1) scPo.nd rfl (Or.inr rfl) (pe_cal CW (hr.mono (by decide)) rfl (pa_cons (pv 0) (pa_cons pe_int pa_nil))))
      (pss_cons (ps_if (pt_cmpR op_eq (pe_cal CD (hr.mono (by decide)) rfl (pa_cons (pv 0) (pa_cons pe_int pa_nil))) pe_int (nomark _))
        (pss_one (ps_set (i := 1) scPo.nd rfl (Or.inr rfl) (pe_slice sl_list (pe_op op_cat (pe_slice sl_list (pe_lc (own := [("_law_word_here", 2)]) (g := gName 2) (tt := tTest (tOp (rIn K true) (tVar 2) (tVar 1))) rfl scPo.nd
            (pi_list (pe_lst (pa_cons pe_str (pa_cons pe_str (pa_cons pe_str (pa_cons pe_str (pa_cons pe_str pa_nil)))))))
            (blkOk_by (N := ["_law_purse_here", "_law_words_here", "_law_word_here"]) (sc := defScope sPool) (by decide +kernel)) (fun _ _ _ _ _ => pg_name (i := 2) scPo.nd rfl (Or.inl rfl))
            (fun _ _ _ _ _ => pts_one (pt_cmpR op_notIn_seq (pv 2) (pv 1) rfl)) (fun _ _ _ _ _ => pv 2)) po_none (po_some pe_int)) (pv 1)) po_none (po_some pe_int)))) pss_nil)
      (pss_one (ps_ret (pe_cal CS (hr.mono (by decide)) rfl (pa_cons (pv 0) (pa_cons (pv 1) pa_nil)))))), ?_⟩
    refine ⟨_, rfl, p, 6, t, rfl, hp, by decide, by decide, by omega, fun H1 R ss t1' b1 hR hS ls nd aw hp1 tt1 => ?_⟩
    refine ⟨_, rfl, p, 3, t1', rfl, hp1, by decide, by decide, by omega, fun r t2 o r0 r1 tt2 hp2 => ?_⟩
    have nRp : R ≠ p := fun e => by obtain ⟨u, hu⟩ := hp.some; rw [← e, hR] at hu; cases hu
    have b2 := b1.trans (But.upd p H1 o)
    have hS2 : SL (L2.upd H1 p o) R ss := by rw [SL, upd_ne nRp]; exact hS
    generalize L2.upd H1 p o = H2 at b2 hS2 hp2
    refine ⟨rfl, _, rfl, ?_⟩
    refine ite2 (fun _ => ?_) (fun _ => ?_)
    · refine ⟨by show 5 ≤ sizeLine; decide, fun q hq => ⟨q, rfl, ⟨_, SqL.of upd_same⟩, fun D hD => ?_⟩⟩
      have nRq : R ≠ q := ne_of_none hS2 hq
      have hD2 := upd_none' hD
      have nRD : R ≠ D := ne_of_none hS2 hD2
      have nDq : q ≠ D := fun e => by rw [e, upd_same] at hD; cases hD
      refine lc_list (K := K) (a := q) (xs := nmsL.map V.str) (fun j H' => Same H2 H' ∧ SL H' q nmsL ∧ SL H' D ((nmsL.take j).filter fun x => decide (x ∉ ss)))
        ⟨fun b u e => by rw [upd_ne (ne_of_none e hD2), upd_ne (ne_of_none e hq)]; exact e, by rw [SL, upd_ne nDq, upd_same]; rfl, by rw [SL, upd_same]; rfl⟩ (fun j H' _ z => z.2.1.sq) ?_ ?_
      · rintro j x H' hx ⟨sm, hq', hD'⟩
        obtain ⟨z, hz, rfl⟩ := get_map hx
        refine ⟨rfl, _, rfl, _, rfl, R, _, rfl, .inl (hS2.same sm).sq, rfl, flat_strs ss, ?_⟩
        refine ⟨_, rfl, ?_⟩
        rw [if_pos rfl, inV_str]
        have lj : j < 5 := (List.getElem?_eq_some_iff.mp hz).1
        by_cases hzs : z ∈ ss
        · rw [decide_eq_true hzs]
          refine iteF ⟨sm, hq', ?_⟩
          rw [filt_no hz (by simpa using hzs)]
          exact hD'
        · rw [decide_eq_false hzs]
          refine iteT ⟨_, rfl, _, hD', by rw [List.length_map, sizeLine_eq]; exact Nat.lt_of_le_of_lt (List.length_filter_le _ _) (by rw [List.length_take]; omega), fun b u e => ?_, ?_, ?_⟩
          · rw [upd_ne (ne_of_none e hD2)]; exact sm _ _ e
          · rw [SL, upd_ne nDq]; exact hq'
          · rw [SL, upd_same, filt_yes hz (by simpa using hzs), List.map_append]
            rfl
      · rintro H3 ⟨sm, hq', hD'⟩
        rw [show (nmsL.map V.str).length = 5 from rfl, show nmsL.take 5 = nmsL from rfl] at hD'
        refine ⟨_, rfl, D, _, rfl, SqL.of hD', fun q2 hq2 => ?_⟩
        have hR3 := hS2.same sm
        refine ⟨_, rfl, q2, R, _, _, rfl, rfl, upd_same, by rw [upd_ne (ne_of_none hR3 hq2)]; exact hR3, ?_, fun q3 hq3 => ?_⟩
        · rw [cutV_map, List.length_map, List.length_map, cutL_to _ (by decide), List.length_take, sizeLine_eq, ls]; omega
        refine ⟨_, rfl, q3, _, rfl, SqL.of upd_same, fun q4 hq4 => ?_⟩
        rw [cutV_map, ← List.map_append, cutV_map, cutL_to _ (by decide), cutL_to _ (by decide)]
        rw [cutV_map, ← List.map_append, cutL_to _ (by decide)] at hq4
        rw [cutV_map, cutL_to _ (by decide)] at hq3
        have wf : ∀ x ∈ nmsL.filter (fun x => decide (x ∉ ss)), x ∉ ss ∧ Wd x := fun x hx => by
          obtain ⟨h1, h2⟩ := List.mem_filter.mp hx
          exact ⟨by simpa using h2, nms_wd x h1⟩
        have nf : (nmsL.filter (fun x => decide (x ∉ ss))).Nodup := nms_nd.filter _
        generalize nmsL.filter (fun x => decide (x ∉ ss)) = fs at wf nf hq3 hq4 ⊢
        have lf : ((fs.take (2 : Int).toNat ++ ss).take (6 : Int).toNat).length = 6 := by
          rw [List.length_take, List.length_append, ls]; show min 6 _ = 6; omega
        have ndf : ((fs.take (2 : Int).toNat ++ ss).take (6 : Int).toNat).Nodup :=
          List.Nodup.sublist (List.take_sublist _ _) (List.nodup_append.mpr ⟨List.Nodup.sublist (List.take_sublist _ _) nf, nd, fun x hx y hy e => (wf x (List.mem_of_mem_take hx)).1 (e ▸ hy)⟩)
        have awf : ∀ x ∈ (fs.take (2 : Int).toNat ++ ss).take (6 : Int).toNat, Wd x := fun x hx => by
          rcases List.mem_append.mp (List.mem_of_mem_take hx) with z | z
          · exact (wf x (List.mem_of_mem_take z)).2
          · exact aw x z
        generalize (fs.take (2 : Int).toNat ++ ss).take (6 : Int).toNat = gs at lf ndf awf
        have b3 : But p H H3 := b2.trans (But.of sm)
        have hp3 := hp2.same sm
        refine ⟨_, rfl, _, rfl, p, q4, _, t2, rfl, ((hp3.new hq2).new hq3).new hq4, upd_same, ((hp3.new hq2).new hq3).ne hq4, by rw [List.length_map, lf]; decide, by omega, fun H5 R5 ys t5 b5 hR5 hy pm hp5 tt5 => ?_⟩
        obtain ⟨zs, rfl, pz⟩ := perm_str pm
        rw [List.length_map, lf] at tt5
        exact k H5 R5 zs t5 ((((b3.newt hq2).newt hq3).newt hq4).trans b5) ((((b3.newt hq2).newt hq3).newt hq4).fr hR5 ((((hp3.new hq2).new hq3).new hq4).ne hR5)) hy (by rw [pz.length_eq, lf]) (pz.nodup_iff.mpr ndf) (fun x hx => awf x (pz.mem_iff.mp hx)) hp5 (by omega)
    · refine ⟨_, rfl, _, rfl, p, R, _, t2, rfl, hp2, hS2, nRp, by rw [List.length_map, ls]; decide, by omega, fun H5 R5 ys t5 b5 hR5 hy pm hp5 tt5 => ?_⟩
      obtain ⟨zs, rfl, pz⟩ := perm_str pm
      rw [List.length_map, ls] at tt5
      exact k H5 R5 zs t5 (b2.trans b5) (b2.fr hR5 (hp2.ne hR5)) hy (by rw [pz.length_eq, ls]; rfl) (pz.nodup_iff.mpr nd) (fun x hx => aw x (pz.mem_iff.mp hx)) hp5 (by omega)
theorem scTu : FnScope ["_law_purse_here", "_law_states", "_law_words_here", "_law_at", "_law_top", "_law_many", "_law_found", "_law_word_here"] ["_law_purse_here", "_law_states", "_law_words_here", "_law_at", "_law_top"] (defScope sTurns) := ⟨rfl, rfl, rfl, by decide +kernel, rfl, by decide +kernel, by decide +kernel⟩
theorem ok_turns {f : Addr} {fd : FuncData} (F : Fun K "_law_turns" "_law_turns" sTurns f fd) (T : Free2 mg) (CD : CDraw P w K mg base) (CO : COne P w K mg base) (CS : CShuf P w K mg base) :
    FnOk P w K mg base CX0 4 f fd ["_law_purse_here", "_law_states", "_law_words_here", "_law_at", "_law_top"] spTurns := by
  refine F.ok scTu (fun vs H Q E h => ?_) (fun cdv A outer s H vs Q E hr h => ?_)
  · obtain ⟨p, S, W, ss, ws, a, b, t, rfl, _⟩ := h; rfl
  · obtain ⟨p, S, W, ss, ws, at', top', t, rfl, hp, hS, hW, nS, nW, s1, s2, w1, w2, wnd, a0, a1, p0, p1, t1, k⟩ := h
    have hu := hu_of hr
    refine ⟨_, pss_cons (ps_par (i := 5) (j := 6) rfl scTu.nd rfl rfl (by decide) rfl rfl (pa_cons (pe_op op_add pe_int (pe_cal CD (hr.mono (by decide)) rfl (pa_cons (pv 0) (pa_cons (pe_callB (call_max2 rfl) (by rfl) T.max (by decide +kernel) (pa_cons pe_int (pa_cons (pe_callB (call_min2 rfl) (by rfl) T.min (by decide +kernel) (pa_cons (pv 4) (pa_cons (pe_callB call_len_seq (by rfl) T.len PySem.boot_len (pa_cons (pv 2) pa_nil)) pa_nil))) pa_nil))) pa_nil)))) (pa_cons pe_dnewK pa_nil)) (by rfl))
      (pss_cons (ps_for PassesOwn.never rfl (pi_list (pe_slice sl_list (pe_cal CS (hr.mono (by decide)) rfl (pa_cons (pv 0) (pa_cons (pv 2) pa_nil))) po_none (po_some (pv 5)))) (pg_name (i := 7) scTu.nd rfl (Or.inl rfl))
        (pss_one (ps_dput hu (pv 6) (pv 7) (pe_cal CO (hr.mono (by decide)) rfl (pa_cons (pv 0) (pa_cons (pv 1) pa_nil))) rfl)))
      (pss_cons (ps_if (PW.pt (pw_and (pt_cmpR op_lt (pe_op op_add (pv 3) pe_int) (pe_callB call_len_seq (by rfl) T.len PySem.boot_len (pa_cons (pv 1) pa_nil)) (nomark _)) (pw_and1 (pt_cmpR op_gt (pe_cal CD (hr.mono (by decide)) rfl (pa_cons (pv 0) (pa_cons pe_int pa_nil))) pe_int (nomark _)))))
        (pss_one (ps_dput hu (pv 6) (pe_cal CO (hr.mono (by decide)) rfl (pa_cons (pv 0) (pa_cons (pe_callTy (call_listD rfl) (by rfl) T.list (by decide +kernel) (pa_cons (pv 6) pa_nil)) pa_nil))) (pe_cal CO (hr.mono (by decide)) rfl (pa_cons (pv 0) (pa_cons (pe_slice sl_list (pv 1) (po_some (pe_op op_add (pv 3) pe_int)) po_none) pa_nil))) rfl)) pss_nil)
      (pss_one (ps_ret (pv 6))))), ?_⟩
    refine ⟨_, rfl, _, rfl, _, rfl, W, _, rfl, .inl hW.sq, top', _, rfl, ?_⟩
    rw [List.length_map]
    refine ⟨1, _, rfl, ?_⟩
    generalize hM : (if (if (ws.length : Int) < top' then (ws.length : Int) else top') > 1 then (if (ws.length : Int) < top' then (ws.length : Int) else top') else (1 : Int)) = M
    have bM : 1 ≤ M ∧ M ≤ 20 := by
      rw [← hM]
      (repeat' split) <;> omega
    refine ⟨p, M, t, rfl, hp, bM.1, by omega, by omega, fun r t2 o r0 r1 tt2 hp2 => ?_⟩
    refine ⟨_, _, rfl, rfl, fun D hD => ⟨_, _, rfl, ?_⟩⟩
    have hS2 : SL (L2.upd H p o) S ss := by rw [SL, upd_ne nS]; exact hS
    have hW2 : SL (L2.upd H p o) W ws := by rw [SL, upd_ne nW]; exact hW
    have b2 := But.upd p H o
    generalize L2.upd H p o = H2 at hS2 hW2 hp2 b2 hD
    have hD0 := b2.fr hD (hp2.ne hD)
    refine ⟨_, rfl, _, rfl, p, W, _, t2, rfl, hp2.new hD, hW2.new hD, nW, by rw [List.length_map]; omega, by omega, fun H3 R ys t3 b3 hR hy pm hp3 tt3 => ?_⟩
    obtain ⟨zs, rfl, pz⟩ := perm_str pm
    refine ⟨_, rfl, _, rfl, R, _, rfl, SqL.of hy, fun q hq => ⟨q, rfl, ⟨_, SqL.of upd_same⟩, ?_⟩⟩
    rw [cutV_map, cutL_to _ (by omega)]
    have lz : zs.length = ws.length := pz.length_eq
    rw [List.length_map] at tt3
    have hm : 1 ≤ (1 + r).toNat := by omega
    generalize (1 + r).toNat = m at hm
    have lm : (zs.take m).length ≤ 20 ∧ 1 ≤ (zs.take m).length := by rw [List.length_take]; omega
    have mm : ∀ z ∈ zs.take m, z ∈ ws := fun z hz => pz.mem_iff.mp (List.mem_of_mem_take hz)
    generalize zs.take m = us at lm mm
    have nDp := hp2.ne hD
    have hS3 : SL H3 S ss := b3 _ _ nS (hS2.new hD)
    have hD3 : TurnsAt H3 D [] := b3 _ _ nDp upd_same
    have nqp := hp3.ne hq
    have nqD : D ≠ q := ne_of_none hD3 hq
    have b30 : But p H H3 := (b2.newt hD).trans b3
    refine for_list (K := K) (a := q) (xs := us.map V.str) (fun i σ H' => ∃ (v7 : Option V) (ts : List (Str × Str)) (t' : Int), σ = [some (.ref p), some (.ref S), some (.ref W), some (.int at'), some (.int top'), some (.int (1 + r)), some (.ref D), v7] ∧ But p H H' ∧ SL H' q us ∧ SL H' S ss ∧ TurnsAt H' D ts ∧ TOk ts ss ws ∧ (0 < i → ts ≠ []) ∧ Purse H' p t' ∧ t' ≤ t3 + i)
      ⟨none, [], t3, rfl, b30.newt hq, upd_same, hS3.new hq, hD3.same (Same.new hq), TOk.nil, fun c => absurd c (by decide), hp3.new hq, by omega⟩ (fun i σ H' _ ⟨v7, ts, t', _, _, z, _⟩ => z.sq) ?_ ?_
    · rintro i x σ H' hx ⟨v7, ts, t', rfl, b, hq', hS', hD', ok, ne, hp', tt'⟩
      obtain ⟨z, hz, rfl⟩ := get_map hx
      have hzm := mm z (List.mem_of_getElem? hz)
      have li : i < us.length := (List.getElem?_eq_some_iff.mp hz).1
      have lts := ok.len
      refine ⟨_, rfl, _, rfl, p, S, _, t', rfl, hp', hS', nS, by rw [List.length_map]; omega, by rw [List.length_map]; omega, by omega, fun j v t4 o4 hj tt4 hp4 => ?_⟩
      obtain ⟨g, hg, rfl⟩ := get_map hj
      have hgm := List.mem_of_getElem? hg
      refine ⟨_, rfl, _, rfl, D, _, rfl, DPut.k (k := Sum.inr z) (by rw [upd_ne nDp]; exact hD') (by rw [kT, List.length_map, sizeLine_eq]; omega), ?_⟩
      rw [putK_kT]
      have hDn : H D = none := hD0
      refine ⟨_, _, t4, rfl, But.ofL hDn (b.trans (But.upd p H' o4)), ?_, ?_, upd_same, ok.put hzm hgm, fun _ => putT_ne, hp4.upd nDp.symm, by omega⟩
      · rw [SL, upd_ne nqD.symm, upd_ne nqp]; exact hq'
      · have nSD : S ≠ D := fun e => by rw [e] at hS; rw [hS] at hDn; cases hDn
        rw [SL, upd_ne nSD, upd_ne nS]; exact hS'
    · rintro σ H' ⟨v7, ts, t', rfl, b, hq', hS', hD', ok, ne, hp', tt'⟩
      rw [List.length_map] at ne tt'
      have ne' := ne (by omega)
      have lts := ok.len
      refine ⟨_, rfl, _, _, rfl, rfl, _, rfl, S, _, rfl, .inl hS'.sq, _, _, rfl, rfl, _, rfl, ?_⟩
      rw [List.length_map]
      refine ite2 (fun c => ?_) (fun c => ?_)
      · refine ⟨_, rfl, p, 8, t', rfl, hp', by decide, by decide, by omega, fun r5 t5 o5 r50 r51 tt5 hp5 => ⟨_, _, rfl, rfl, _, rfl, ?_⟩⟩
        have hS5 : SL (L2.upd H' p o5) S ss := by rw [SL, upd_ne nS]; exact hS'
        have hD5 : TurnsAt (L2.upd H' p o5) D ts := by rw [TurnsAt, upd_ne nDp]; exact hD'
        have b5 := b.trans (But.upd p H' o5)
        generalize L2.upd H' p o5 = H5 at hS5 hD5 hp5 b5
        refine ite2 (fun c2 => ?_) (fun c2 => ?_)
        · have c' := of_decide_eq_true c
          refine ⟨_, rfl, _, rfl, _, rfl, _, _, rfl, rfl, _, rfl, S, _, rfl, hS5.sq, fun q6 hq6 => ?_⟩
          rw [cutV_map, cutL_from _ (by omega)]
          refine ⟨p, q6, _, t5, rfl, hp5.new hq6, upd_same, hp5.ne hq6, ?_, ?_, by omega, fun j v t6 o6 hj tt6 hp6 => ?_⟩
          · rw [List.length_map, List.length_drop]; omega
          · rw [List.length_map, List.length_drop]; omega
          obtain ⟨g, hg, rfl⟩ := get_map hj
          have hgm := List.mem_of_mem_drop (List.mem_of_getElem? hg)
          have hD6 : TurnsAt (L2.upd (L2.upd H5 q6 (.lst ((ss.drop (at' + 1).toNat).map V.str))) p o6) D ts := by
            rw [TurnsAt, upd_ne nDp]; exact hD5.same (Same.new hq6)
          have b6 := (b5.newt (o := .lst ((ss.drop (at' + 1).toNat).map V.str)) hq6).trans (But.upd p _ o6)
          generalize L2.upd (L2.upd H5 q6 (.lst ((ss.drop (at' + 1).toNat).map V.str))) p o6 = H6 at hp6 hD6 b6
          refine ⟨_, rfl, _, rfl, _, rfl, D, _, rfl, .inl hD6, fun q7 hq7 => ?_⟩
          have ek : (kT ts).map (fun kv => kV kv.1) = (ts.map (·.1)).map V.str := by
            rw [kT, List.map_map, List.map_map]; rfl
          rw [ek]
          refine ⟨p, q7, _, t6, rfl, hp6.new hq7, upd_same, hp6.ne hq7, ?_, ?_, by omega, fun j v t8 o8 hj tt8 hp8 => ?_⟩
          · rw [List.length_map, List.length_map]; have := List.length_pos_iff.mpr ne'; omega
          · rw [List.length_map, List.length_map]; omega
          obtain ⟨kk, hkk, rfl⟩ := get_map hj
          have hkm : kk ∈ ws := by
            obtain ⟨u, hu, e⟩ := List.mem_map.mp (List.mem_of_getElem? hkk)
            rw [← e]; exact ok.ks u hu
          refine ⟨D, _, rfl, DPut.k (k := Sum.inr kk) (by rw [upd_ne nDp]; exact hD6.same (Same.new hq7)) (by rw [kT, List.length_map, sizeLine_eq]; omega), ?_⟩
          rw [putK_kT]
          refine ⟨_, rfl, k _ D _ t8 (But.ofL hD0 ((b6.newt hq7).trans (But.upd p _ o8))) hD0 upd_same (ok.put hkm hgm) putT_ne (hp8.upd nDp.symm) (by omega)⟩
        · exact ⟨_, rfl, k H5 D ts t5 b5 hD0 hD5 ok ne' hp5 (by omega)⟩
      · exact ⟨_, rfl, k H' D ts t' b hD0 hD' ok ne' hp' (by omega)⟩
end
end D1
end L2
namespace L2
namespace D1
open PySem PySem.Spec PyProof.Rows
abbrev RowD := Str × Str × List (Str × Str)
abbrev Bk := List RowD
def RowAt (H : Hp) (v : V) (k : Str) (ts : List (Str × Str)) : Prop := ∃ t a, v = .ref t ∧ H t = some (.tup [.str k, .ref a]) ∧ TurnsAt H a ts
theorem RowAt.same {H H' : Hp} {v : V} {k : Str} {ts : List (Str × Str)} (h : RowAt H v k ts) (s : Same H H') : RowAt H' v k ts := by
  obtain ⟨t, a, e, h1, h2⟩ := h; exact ⟨t, a, e, s _ _ h1, h2.same s⟩
def Rows (H : Hp) : List (Key × V) → Bk → Prop := Paired fun kv r => kv.1 = Sum.inr r.1 ∧ RowAt H kv.2 r.2.1 r.2.2
theorem Rows.same {H H' : Hp} {kvs : List (Key × V)} {bk : Bk} (h : Rows H kvs bk) (s : Same H H') : Rows H' kvs bk := by
  unfold Rows at h ⊢
  induction h with
  | nil => exact .nil
  | cons a b ih => exact .cons ⟨a.1, a.2.same s⟩ ih
theorem Rows.app {H : Hp} {kvs : List (Key × V)} {bk : Bk} {s : Str} {v : V} {k : Str} {ts : List (Str × Str)} (h : Rows H kvs bk) (r : RowAt H v k ts) : Rows H (kvs ++ [(.inr s, v)]) (bk ++ [(s, k, ts)]) := by
  unfold Rows at h ⊢
  induction h with
  | nil => exact .cons ⟨rfl, r⟩ .nil
  | cons a b ih => exact .cons a ih
theorem Rows.keys {H : Hp} {kvs : List (Key × V)} {bk : Bk} (h : Rows H kvs bk) : kvs.map (·.1) = bk.map fun r => Sum.inr r.1 := by
  unfold Rows at h
  induction h with
  | nil => rfl
  | cons a b ih => rw [List.map_cons, List.map_cons, ih, a.1]
theorem Rows.len {H : Hp} {kvs : List (Key × V)} {bk : Bk} (h : Rows H kvs bk) : kvs.length = bk.length := by
  have := congrArg List.length h.keys
  rwa [List.length_map, List.length_map] at this
theorem putK_new {kvs : List (Key × V)} {k : Key} {v : V} (n : k ∉ kvs.map (·.1)) : putK kvs k v = kvs ++ [(k, v)] := by
  unfold putK
  rw [if_neg]
  intro h
  obtain ⟨p, hp, e⟩ := List.any_eq_true.mp h
  exact n (List.mem_map.mpr ⟨p, hp, of_decide_eq_true e⟩)
theorem Rows.fresh {H : Hp} {kvs : List (Key × V)} {bk : Bk} {s : Str} (h : Rows H kvs bk) (n : s ∉ bk.map (·.1)) : (Sum.inr s : Key) ∉ kvs.map (·.1) := by
  rw [h.keys]
  intro z
  obtain ⟨r, hr, e⟩ := List.mem_map.mp z
  exact n (List.mem_map.mpr ⟨r, hr, Sum.inr.inj e⟩)
def BookAt (H : Hp) (b : Addr) (bk : Bk) : Prop := ∃ kvs, H b = some (.dK kvs) ∧ Rows H kvs bk
theorem BookAt.same {H H' : Hp} {b : Addr} {bk : Bk} (h : BookAt H b bk) (s : Same H H') : BookAt H' b bk := by
  obtain ⟨kvs, e, r⟩ := h; exact ⟨kvs, s _ _ e, r.same s⟩
def WorldAt (H : Hp) (R : Addr) (bk : Bk) (st : Str) : Prop := ∃ b, H R = some (.lst [.ref b, .str st]) ∧ BookAt H b bk
theorem WorldAt.same {H H' : Hp} {R : Addr} {bk : Bk} {st : Str} (h : WorldAt H R bk st) (s : Same H H') : WorldAt H' R bk st := by
  obtain ⟨b, e, r⟩ := h; exact ⟨b, s _ _ e, r.same s⟩
/-- a row of a book over the states ss -/
def ROk (ss ws : List Str) (r : RowD) : Prop := Wd r.1 ∧ ((r.2.1 = "done" ∧ r.2.2 = []) ∨ ((r.2.1 = "says" ∨ r.2.1 = "hears") ∧ r.2.2 ≠ [] ∧ TOk r.2.2 ss ws))
structure WF (bk : Bk) (st : Str) (ws : List Str) : Prop where
  nd : (bk.map (·.1)).Nodup
  rs : ∀ r ∈ bk, ROk (bk.map (·.1)) ws r
  st : st ∈ bk.map (·.1)
  len : bk.length ≤ 6
abbrev sWorld : Stmt := top 61
/-- a list of words -/
structure WsOk (ws : List Str) : Prop where
  lo : 1 ≤ ws.length
  hi : ws.length ≤ 6
  nd : ws.Nodup
  wd : ∀ x ∈ ws, Wd x
def spWorld : Sp := fun vs H Q _ => ∃ (p W : Addr) (ws : List Str) (n top' t : Int), vs = [.ref p, .int n, .ref W, .int top'] ∧ Purse H p t ∧ SL H W ws ∧ W ≠ p ∧ WsOk ws ∧ 1 ≤ n ∧ n ≤ 6 ∧ 1 ≤ top' ∧ top' < 2 ^ 20 ∧ t < 2 ^ 26 ∧
  ∀ (H' : Hp) (R : Addr) (bk : Bk) (st : Str) (t' : Int), But p H H' → H R = none → WorldAt (cut [p] H') R bk st → WF bk st ws → Purse H' p t' → t' ≤ t + 700 → Q (.ref R) H'
theorem first_at {x : Str} : ∀ {zs : List Str}, x ∈ zs → ∃ j, zs[j]? = some x ∧ ∀ m : Nat, m < j → zs[m]? ≠ some x
  | [], h => by cases h
  | y :: r, h => by
    by_cases e : y = x
    · exact ⟨0, by rw [e]; rfl, fun m hm => absurd hm (Nat.not_lt_zero _)⟩
    · rcases List.mem_cons.mp h with z | z
      · exact absurd z.symm e
      · obtain ⟨j, h1, h2⟩ := first_at z
        refine ⟨j + 1, h1, fun m hm => ?_⟩
        cases m with
        | zero => exact fun q => e (Option.some.inj q)
        | succ m => exact h2 m (by omega)
theorem row_step {p B T1 E1 : Addr} {H5 : Hp} {kvs : List (Key × V)} {bk : Bk} {x k : Str} {ts : List (Str × Str)} (hB : H5 B = some (.dK kvs)) (R : Rows (cut [p, B] H5) kvs bk) (n : x ∉ bk.map (·.1)) (hT : TurnsAt H5 E1 ts) (nE : E1 ≠ p) (nEB : E1 ≠ B)
    (nT : T1 ≠ p) (hT1 : H5 T1 = none) : ∃ kv2, (L2.upd (L2.upd H5 T1 (.tup [.str k, .ref E1])) B (.dK (putK kvs (.inr x) (.ref T1)))) B = some (.dK kv2) ∧ Rows (cut [p, B] (L2.upd (L2.upd H5 T1 (.tup [.str k, .ref E1])) B (.dK (putK kvs (.inr x) (.ref T1))))) kv2 (bk ++ [(x, k, ts)]) := by
  have nTB : T1 ≠ B := fun e => by rw [e, hB] at hT1; cases hT1
  have nET : E1 ≠ T1 := fun e => by rw [← e, hT] at hT1; cases hT1
  refine ⟨_, upd_same, ?_⟩
  rw [putK_new (R.fresh n), cut_upd (by simp)]
  refine (R.same (cut_new hT1)).app ⟨T1, E1, rfl, ?_, ?_⟩
  · rw [cut_out (by simp [nT, nTB])]; exact upd_same
  · rw [TurnsAt, cut_out (by simp [nE, nEB]), upd_ne nET]; exact hT
theorem pt_imp {X : Cx} {c : Expr} {t t' : TT} (h : PT X c t) (i : ∀ σ H Q, t' σ H Q → t σ H Q) : PT X c t' := ⟨fun pins s σ H Q I q => h.run pins s σ H Q I (i _ _ _ q)⟩
theorem pe_imp {X : Cx} {c : Expr} {t t' : TE} (h : PE X c t) (i : ∀ σ H Q, t' σ H Q → t σ H Q) : PE X c t' := ⟨fun pins s σ H Q I q => h.run pins s σ H Q I (i _ _ _ q)⟩
/-- any answer, whatever whole numbers the slots hold -/
def tAny (l : List Nat) : TT := fun σ H Q => (∀ i ∈ l, ∃ z, σ[i]? = some (some (.int z))) ∧ ∀ b, Q b H
def tKind (l : List Nat) : TE := fun σ H Q => (∀ i ∈ l, ∃ z, σ[i]? = some (some (.int z))) ∧ ∀ k : Str, k = "says" ∨ k = "hears" → Q (.str k) H
/-- one of the two lists that world begins with -/
def tBeg : TE := fun σ H Q => ∃ (p W : Addr) (n t : Int) (ws : List Str), σ[0]? = some (some (.ref p)) ∧ σ[1]? = some (some (.int n)) ∧ σ[2]? = some (some (.ref W)) ∧ Purse H p t ∧ SL H W ws ∧ W ≠ p ∧ (∀ x ∈ ws, Wd x) ∧ ws.length ≤ 6 ∧ 1 ≤ n ∧ n ≤ 6 ∧ t < 2 ^ 26 ∧
  ∀ (H' : Hp) (R : Addr) (zs : List Str) (t' : Int), But p H H' → R ≠ p → SL H' R zs → (∀ x ∈ zs, Wd x) → zs.length = n.toNat → Purse H' p t' → t' ≤ t + 301 → Q (.ref R) H'
section
variable {P : Program} {w : World} {K : PySem.W.Frag} {mg : Str → Option Value} {base : Heap}
abbrev CTurns (P : Program) (w : World) (K : PySem.W.Frag) (mg : Str → Option Value) (base : Heap) := Cal P w K mg base "_law_turns" 4 ["_law_purse_here", "_law_states", "_law_words_here", "_law_at", "_law_top"] spTurns
theorem scWo : FnScope ["_law_purse_here", "_law_many", "_law_words_here", "_law_top", "_law_states", "_law_at", "_law_book", "_law_last", "_law_way"] ["_law_purse_here", "_law_many", "_law_words_here", "_law_top"] (defScope sWorld) := ⟨rfl, rfl, rfl, by decide +kernel, rfl, by decide +kernel, by decide +kernel⟩
theorem ok_world {f : Addr} {fd : FuncData} (F : Fun K "_law_world" "_law_world" sWorld f fd) (T : Free2 mg) (CD : CDraw P w K mg base) (CW : CWords P w K mg base) (CS : CShuf P w K mg base) (CT : CTurns P w K mg base) :
    FnOk P w K mg base CX0 5 f fd ["_law_purse_here", "_law_many", "_law_words_here", "_law_top"] spWorld := by
  refine F.ok scWo (fun vs H Q E h => ?_) (fun cdv A outer s H vs Q E hr h => ?_)
  · obtain ⟨p, W, ws, n, top', t, rfl, _⟩ := h; rfl
  · obtain ⟨p, W, ws, n, top', t, rfl, hp, hW, nW, wok, n0, n1, p0, p1, t1, k⟩ := h
    have hu := hu_of hr
    refine ⟨_, pss_cons (ps_set (i := 4) scWo.nd rfl (Or.inr rfl) (pe_cal CS (hr.mono (by decide)) rfl (pa_cons (pv 0) (pa_cons (pe_imp (t' := tBeg) (pe_ifExp (pt_cmpR op_eq (pe_cal CD (hr.mono (by decide)) rfl (pa_cons (pv 0) (pa_cons pe_int pa_nil))) pe_int (nomark _))
          (pe_cal CW (hr.mono (by decide)) rfl (pa_cons (pv 0) (pa_cons (pv 1) pa_nil)))
          (pe_slice sl_list (pe_op op_cat (pv 2) (pe_cal CW (hr.mono (by decide)) rfl (pa_cons (pv 0) (pa_cons (pv 1) pa_nil)))) po_none (po_some (pv 1)))) ?sub1) pa_nil))))
      (pss_cons (ps_set (i := 4) scWo.nd rfl (Or.inr rfl) (pe_lc (own := [("_law_at", 5)]) (g := gName 5) (tt := tTest (tOp (rEq) (tBM K "list" (rIndex K) (tVar 4) (tCons (tOp (rIxL K) (tVar 4) (tVar 5)) tNil)) (tVar 5))) (te := tOp (rIxL K) (tVar 4) (tVar 5)) rfl scWo.nd
          (pi_range1 rfl T.range (pa_cons (pv 1) pa_nil))
          (blkOk_by (N := ["_law_purse_here", "_law_many", "_law_words_here", "_law_top", "_law_states", "_law_at", "_law_book", "_law_last", "_law_way"]) (sc := defScope sWorld) (by decide +kernel)) (fun _ _ _ _ _ => pg_name (i := 5) scWo.nd rfl (Or.inl rfl))
          (fun _ _ _ _ _ => pts_one (pt_cmpR op_eq (pe_bm PySem.F.plainAttrs_list PySem.F.slot_list_index PySem.F.type_list_index mt_index (pv 4) (pa_cons (pe_ix ix_list (pv 4) (pv 5) (fun _ _ => rfl)) pa_nil)) (pv 5) (nomark _))) (fun _ _ _ _ _ => pe_ix ix_list (pv 4) (pv 5) (fun _ _ => rfl))))
      (pss_cons (ps_par (i := 6) (j := 7) rfl scWo.nd rfl rfl (by decide) rfl rfl (pa_cons pe_dnewK (pa_cons (pe_op op_sub (pe_callB call_len_seq (by rfl) T.len PySem.boot_len (pa_cons (pv 4) pa_nil)) pe_int) pa_nil)) (by rfl))
      (pss_cons (ps_for PassesOwn.never rfl (pi_range1 rfl T.range (pa_cons (pe_callB call_len_seq (by rfl) T.len PySem.boot_len (pa_cons (pv 4) pa_nil)) pa_nil)) (pg_name (i := 5) scWo.nd rfl (Or.inl rfl))
        (pss_cons (ps_set (i := 8) scWo.nd rfl (Or.inl rfl) (pe_cal CD (hr.mono (by decide)) rfl (pa_cons (pv 0) (pa_cons pe_int pa_nil))))
        (pss_one (ps_if (pt_imp (t' := tAny [5, 7, 8]) (PW.pt (pw_or (PW.pt (pw_and (pt_cmpR op_eq (pv 5) (pv 7) (nomark _)) (pw_and1 (pt_cmpR op_gt (pv 8) pe_int (nomark _))))) (pw_or1 (PW.pt (pw_and (pt_cmpR op_eq (pv 8) pe_int (nomark _)) (pw_and1 (pt_cmpR op_gt (pv 5) pe_int (nomark _)))))))) ?sub2)
          (pss_one (ps_dput hu (pv 6) (pe_ix ix_list (pv 4) (pv 5) (fun _ _ => rfl)) (pe_tup (pa_cons pe_str (pa_cons pe_dnewK pa_nil))) rfl))
          (pss_one (ps_dput hu (pv 6) (pe_ix ix_list (pv 4) (pv 5) (fun _ _ => rfl)) (pe_tup (pa_cons (pe_imp (t' := tKind [8]) (pe_ifExp (pt_cmpR op_eq (pe_op op_mod (pv 8) pe_int) pe_int (nomark _)) pe_str pe_str) ?sub3) (pa_cons (pe_cal CT (hr.mono (by decide)) rfl (pa_cons (pv 0) (pa_cons (pv 4) (pa_cons (pv 2) (pa_cons (pv 5) (pa_cons (pv 3) pa_nil)))))) pa_nil))) rfl))))))
      (pss_one (ps_ret (pe_lst (pa_cons (pv 6) (pa_cons (pe_ix ix_list (pv 4) pe_int (fun _ _ => rfl)) pa_nil)))))))), ?_⟩
    case sub1 =>
      rintro σ H Q ⟨p, W, n, t, ws, e0, e1, e2, hp, hW, nW, aw, lw, n0, n1, t1, k⟩
      refine ⟨_, e0, p, 2, t, rfl, hp, by decide, by decide, by omega, fun r t2 o r0 r1 tt2 hp2 => ?_⟩
      have b2 := But.upd p H o
      have hW2 : SL (L2.upd H p o) W ws := by rw [SL, upd_ne nW]; exact hW
      generalize L2.upd H p o = H2 at b2 hW2 hp2
      refine ⟨rfl, _, rfl, ?_⟩
      refine ite2 (fun _ => ?_) (fun _ => ?_)
      · refine ⟨_, e0, _, e1, p, n, t2, rfl, hp2, by omega, by omega, by omega, fun H3 R ss t3 b3 hR hS ls nd aw hp3 tt3 => ?_⟩
        exact k H3 R ss t3 (b2.trans b3) (hp2.ne hR) hS aw ls hp3 (by omega)
      · refine ⟨_, e2, _, e0, _, e1, p, n, t2, rfl, hp2, by omega, by omega, by omega, fun H3 R ss t3 b3 hR hS ls nd aw2 hp3 tt3 => ?_⟩
        have hW3 : SL H3 W ws := b3 _ _ nW hW2
        refine ⟨W, R, _, _, rfl, rfl, hW3, hS, by rw [List.length_map, List.length_map, sizeLine_eq]; omega, fun q hq => ?_⟩
        refine ⟨_, e1, n, rfl, q, _, rfl, SqL.of upd_same, fun q2 hq2 => ?_⟩
        rw [← List.map_append, cutV_map, cutL_to _ (by omega)]
        rw [← List.map_append] at hq2
        refine k _ q2 _ t3 (((b2.trans b3).newt hq).newt hq2) ((hp3.new hq).ne hq2) upd_same (fun x hx => ?_) ?_ ((hp3.new hq).new hq2) (by omega)
        · rcases List.mem_append.mp (List.mem_of_mem_take hx) with z | z
          · exact aw x z
          · exact aw2 x z
        · rw [List.length_take, List.length_append]; omega
    case sub2 =>
      rintro σ H Q ⟨a, k⟩
      obtain ⟨z5, e5⟩ := a 5 (by simp)
      obtain ⟨z7, e7⟩ := a 7 (by simp)
      obtain ⟨z8, e8⟩ := a 8 (by simp)
      have two : ∃ a, σ[8]? = some (some a) ∧ rEq a (.int 10) H fun x H' => ∃ k, x = .bl k ∧ if k = true then (∃ a, σ[5]? = some (some a) ∧ rI0 (fun i j => V.bl (decide (j < i))) a (.int 0) H' fun x H' => ∃ k, x = .bl k ∧ Q k H') else Q false H' := by
        refine ⟨_, e8, rfl, _, rfl, ite2 (fun _ => ⟨_, e5, _, _, rfl, rfl, _, rfl, k _⟩) (fun _ => k _)⟩
      refine ⟨_, e5, _, e7, rfl, _, rfl, ?_⟩
      refine ite2 (fun _ => ⟨_, e8, _, _, rfl, rfl, _, rfl, ?_⟩) (fun _ => ?_)
      · exact ite2 (fun _ => k _) (fun _ => two)
      · exact iteF two
    case sub3 =>
      rintro σ H Q ⟨a, k⟩
      obtain ⟨z8, e8⟩ := a 8 (by simp)
      refine ⟨_, e8, _, _, rfl, rfl, (by show (0 : Int) < 2; decide), rfl, _, rfl, ?_⟩
      exact ite2 (fun _ => k _ (.inl rfl)) (fun _ => k _ (.inr rfl))
    refine ⟨_, rfl, p, W, n, t, ws, rfl, rfl, rfl, hp, hW, nW, wok.wd, wok.hi, n0, n1, t1, fun H3 R zs0 t3 b3 nR hS az0 lz0 hp3 tt3 => ?_⟩
    refine ⟨p, R, _, t3, rfl, hp3, hS, nR, by rw [List.length_map]; omega, by omega, fun H4 R4 ys t4 b4 hR4 hy pm hp4 tt4 => ?_⟩
    obtain ⟨zs, rfl, pz⟩ := perm_str pm
    rw [List.length_map, lz0] at tt4
    have lz : zs.length = n.toNat := by rw [pz.length_eq]; exact lz0
    have az : ∀ x ∈ zs, Wd x := fun x hx => az0 x (pz.mem_iff.mp hx)
    have bH4 := b3.trans b4
    have nR4 := hp3.ne hR4
    have hW4 : SL H4 W ws := bH4 _ _ nW hW
    clear b3 b4 hS pm az0 lz0 hp3 pz
    have hy : SL H4 R4 zs := hy
    refine ⟨_, rfl, n, rfl, by omega, by omega, fun D hD => ?_⟩
    refine lc_range (n := n.toNat) (fun i H' => ∃ rs : List Str, Same H4 H' ∧ SL H' D rs ∧ rs.Nodup ∧ (∀ x ∈ rs, x ∈ zs.take i) ∧ (0 < i → rs ≠ []) ∧ rs.length ≤ i)
      ⟨[], Same.new hD, upd_same, List.nodup_nil, by simp, fun c => absurd c (by decide), Nat.le_refl _⟩ ?_ ?_
    · rintro i H' hi ⟨rs, sm, hD', nd, sub, ne, ll⟩
      have hiz : i < zs.length := by omega
      have hx := List.getElem?_eq_getElem hiz
      have ha : atI (zs.map V.str) (0 + (i : Int)) = some (V.str zs[i]) := at_of (j := i) (by omega) (by rw [List.getElem?_map, hx]; rfl)
      obtain ⟨j, hj, no⟩ := first_at (List.getElem_mem hiz)
      generalize zs[i] = x at hx ha hj no
      have hy' := (hy.same sm).sq (K := K)
      refine ⟨rfl, _, rfl, .inl ⟨rfl, _, hy'⟩, _, rfl, _, rfl, R4, _, _, _, rfl, rfl, hy', ha, R4, _, .str x, j, .str x, rfl, rfl, hy', rfl, flat_strs zs, by rw [List.getElem?_map, hj]; rfl, ?_, fun m z' hm hz => ?_, ?_⟩
      · show (x == x) = true
        exact beq_self_eq_true x
      · obtain ⟨y, hyy, rfl⟩ := get_map hz
        show (y == x) = false
        exact beq_eq_false_iff_ne.mpr fun e => no m hm (by rw [hyy, e])
      refine ⟨_, rfl, rfl, _, rfl, ?_⟩
      have hji : j ≤ i := by
        rcases Nat.lt_or_ge i j with c | c
        · exact absurd hx (no i c)
        · exact c
      refine ite2 (fun c => ?_) (fun c => ?_)
      · have ej : j = i := by
          have := of_decide_eq_true c
          have e2 : (j : Int) = 0 + (i : Int) := by injection this
          omega
        have xn : x ∉ zs.take i := fun hm => by
          obtain ⟨m, hm1, hm2⟩ := List.mem_take_iff_getElem.mp hm
          have : m < j := by omega
          exact no m this (by rw [List.getElem?_eq_getElem (by omega), hm2])
        refine ⟨_, rfl, _, rfl, R4, _, _, _, rfl, rfl, hy', ha, _, hD', by rw [List.length_map, sizeLine_eq]; omega, rs ++ [x], ?_, by rw [SL, upd_same, List.map_append]; rfl, nodup_app nd fun z => xn (sub x z), fun z hz => ?_, fun _ e => by simp at e, by rw [List.length_append]; simp only [List.length_singleton]; omega⟩
        · intro b u e
          rw [upd_ne (ne_of_none e hD)]; exact sm _ _ e
        · rw [take_succ_get hx]
          rcases List.mem_append.mp hz with z1 | z1
          · exact List.mem_append_left _ (sub z z1)
          · exact List.mem_append_right _ z1
      · have ei : i ≠ 0 := fun e => by
          refine c (decide_eq_true ?_)
          have : j = i := by omega
          rw [this, Int.zero_add]
        exact ⟨rs, sm, hD', nd, fun z hz => by rw [take_succ_get hx]; exact List.mem_append_left _ (sub z hz), fun _ => ne (by omega), by omega⟩
    · rintro H5 ⟨rs, sm, hD', nd, sub, ne, ll⟩
      have ne' := ne (by omega)
      have ln : 1 ≤ rs.length := List.length_pos_iff.mpr ne'
      have ar : ∀ x ∈ rs, Wd x := fun x hx => az x (List.mem_of_mem_take (sub x hx))
      have b5 := bH4.trans (But.of sm)
      have hp5 := hp4.same sm
      have hW5 := hW4.same sm
      have nDp := hp4.ne hD
      clear hy sub ne hD
      refine fun B hB => ⟨_, rfl, D, _, rfl, .inl (hD'.new hB).sq, _, _, rfl, rfl, _, _, rfl, ?_⟩
      have nBp := hp5.ne hB
      have nDB : D ≠ B := ne_of_none hD' hB
      have nWB : W ≠ B := ne_of_none hW5 hB
      have hB0 : H B = none := b5.fr hB nBp
      refine ⟨_, rfl, D, _, rfl, .inl (hD'.new hB).sq, _, rfl, by rw [List.length_map]; omega, by rw [List.length_map]; omega, ?_⟩
      rw [List.length_map]
      refine for_range (n := rs.length) (fun i σ H' => ∃ (v5 v8 : Option V) (bk : Bk) (t' : Int), σ = [some (.ref p), some (.int n), some (.ref W), some (.int top'), some (.ref D), v5, some (.ref B), some (.int ((rs.length : Int) - 1)), v8] ∧ But p H H' ∧ SL H' D rs ∧ SL H' W ws ∧ (∃ kvs, H' B = some (.dK kvs) ∧ Rows (cut [p, B] H') kvs bk) ∧ bk.map (·.1) = rs.take i ∧ (∀ r ∈ bk, ROk rs ws r) ∧ Purse H' p t' ∧ t' ≤ t4 + 51 * i)
        ⟨none, none, [], t4, rfl, b5.newt hB, hD'.new hB, hW5.new hB, ⟨[], upd_same, .nil⟩, by simp, by simp, hp5.new hB, by omega⟩ ?_ ?_
      · rintro i σ H' hi ⟨v5, v8, bk, t', rfl, b, hDD, hWW, ⟨kvs, hBB, hR⟩, ek, ak, hp', tt'⟩
        have hx := List.getElem?_eq_getElem hi
        have hxm := List.getElem_mem hi
        have ha : atI (rs.map V.str) (0 + (i : Int)) = some (V.str rs[i]) := at_of (j := i) (by omega) (by rw [List.getElem?_map, hx]; rfl)
        generalize rs[i] = x at hx hxm ha
        have xn : x ∉ bk.map (·.1) := fun z => by
          rw [ek] at z
          obtain ⟨m, hm1, hm2⟩ := List.mem_take_iff_getElem.mp z
          have h1 : rs[m]? = some x := by rw [List.getElem?_eq_getElem (by omega), hm2]
          have := (List.getElem?_inj (by omega) nd).mp (h1.trans hx.symm)
          omega
        have lk : kvs.length ≤ 6 := by
          rw [hR.len, ← List.length_map (·.1), ek, List.length_take]; omega
        refine ⟨_, rfl, p, 11, t', rfl, hp', by decide, by decide, by omega, fun way t5 o r0 r1 tt5 hp5 => ?_⟩
        have hD5 : SL (L2.upd H' p o) D rs := by rw [SL, upd_ne nDp]; exact hDD
        have hW5 : SL (L2.upd H' p o) W ws := by rw [SL, upd_ne nW]; exact hWW
        have hB5 : (L2.upd H' p o) B = some (.dK kvs) := by rw [upd_ne nBp]; exact hBB
        have hR5 : Rows (cut [p, B] (L2.upd H' p o)) kvs bk := by rw [cut_upd (by simp)]; exact hR
        have b5 := b.trans (But.upd p H' o)
        generalize L2.upd H' p o = H5 at hD5 hW5 hB5 hR5 hp5 b5
        clear hDD hWW hBB hR b hp'
        refine ⟨fun j hj => ?_, fun bb => ?_⟩
        · simp only [List.mem_cons, List.not_mem_nil, or_false] at hj
          rcases hj with rfl | rfl | rfl
          · exact ⟨_, rfl⟩
          · exact ⟨_, rfl⟩
          · exact ⟨_, rfl⟩
        have fin : ∀ (H6 : Hp) (E1 T1 : Addr) (k0 : Str) (ts : List (Str × Str)) (t6 : Int), But p H5 H6 → E1 ≠ p → E1 ≠ B → TurnsAt H6 E1 ts → H6 T1 = none → Purse H6 p t6 → t6 ≤ t5 + 50 → ROk rs ws (x, k0, ts) →
            ∃ (v5 v8 : Option V) (bk2 : Bk) (t' : Int), [some (.ref p), some (.int n), some (.ref W), some (.int top'), some (.ref D), some (.int (0 + (i : Int))), some (.ref B), some (.int ((rs.length : Int) - 1)), some (.int way)] = [some (.ref p), some (.int n), some (.ref W), some (.int top'), some (.ref D), v5, some (.ref B), some (.int ((rs.length : Int) - 1)), v8] ∧ But p H (L2.upd (L2.upd H6 T1 (.tup [.str k0, .ref E1])) B (.dK (putK kvs (.inr x) (.ref T1)))) ∧ SL (L2.upd (L2.upd H6 T1 (.tup [.str k0, .ref E1])) B (.dK (putK kvs (.inr x) (.ref T1)))) D rs ∧ SL (L2.upd (L2.upd H6 T1 (.tup [.str k0, .ref E1])) B (.dK (putK kvs (.inr x) (.ref T1)))) W ws ∧
              (∃ kvs', (L2.upd (L2.upd H6 T1 (.tup [.str k0, .ref E1])) B (.dK (putK kvs (.inr x) (.ref T1)))) B = some (.dK kvs') ∧ Rows (cut [p, B] (L2.upd (L2.upd H6 T1 (.tup [.str k0, .ref E1])) B (.dK (putK kvs (.inr x) (.ref T1))))) kvs' bk2) ∧ bk2.map (·.1) = rs.take (i + 1) ∧ (∀ r ∈ bk2, ROk rs ws r) ∧ Purse (L2.upd (L2.upd H6 T1 (.tup [.str k0, .ref E1])) B (.dK (putK kvs (.inr x) (.ref T1)))) p t' ∧ t' ≤ t4 + 51 * ((i + 1 : Nat) : Int) := by
          intro H6 E1 T1 k0 ts t6 b6 nE nEB hT hT1 hp6 tt6 rok
          have hB6 : H6 B = some (.dK kvs) := b6 _ _ nBp hB5
          have nT := hp6.ne hT1
          refine ⟨_, _, bk ++ [(x, k0, ts)], t6, rfl, But.ofL hB0 ((b5.trans b6).newt hT1), ?_, ?_, row_step hB6 (hR5.same (cut_but b6 (by simp))) xn hT nE nEB nT hT1, ?_, fun r hr => ?_, (hp6.new hT1).upd nBp.symm, by omega⟩
          · rw [SL, upd_ne nDB]; exact SL.new (b6 _ _ nDp hD5) hT1
          · rw [SL, upd_ne nWB]; exact SL.new (b6 _ _ nW hW5) hT1
          · rw [List.map_append, ek, take_succ_get hx]; rfl
          · rcases List.mem_append.mp hr with z | z
            · exact ak r z
            · rw [List.mem_singleton.mp z]; exact rok
        refine ite2 (fun _ => ?_) (fun _ => ?_)
        · refine fun E1 hE1 => ⟨by show 2 ≤ sizeLine; decide, fun T1 hT1 => ?_⟩
          have hD6 := (hD5.new (o := .dK []) hE1).new (o := .tup [.str "done", .ref E1]) hT1
          refine ⟨_, rfl, _, rfl, _, rfl, D, _, _, _, rfl, rfl, hD6.sq, ha, B, _, rfl, DPut.k (kvs := kvs) (k := Sum.inr x) ?_ (by rw [sizeLine_eq]; omega), ?_⟩
          · exact Same.new hT1 _ _ (Same.new hE1 _ _ hB5)
          · exact fin _ E1 T1 "done" [] t5 (But.new hE1) (hp5.ne hE1) (ne_of_none hB5 hE1).symm upd_same hT1 (hp5.new hE1) (by omega) ⟨ar x hxm, .inl ⟨rfl, rfl⟩⟩
        · refine ⟨fun j hj => ?_, fun k0 hk0 => ?_⟩
          · simp only [List.mem_cons, List.not_mem_nil, or_false] at hj
            rw [hj]; exact ⟨_, rfl⟩
          refine ⟨_, rfl, _, rfl, _, rfl, _, rfl, _, rfl, p, D, W, rs, ws, _, top', t5, rfl, hp5, hD5, hW5, nDp, nW, ln, by omega, wok.lo, Nat.le_trans wok.hi (by decide), wok.nd, by omega, by omega, p0, p1, by omega, fun H6 E1 ts t6 b6 hE1 hT ok ne6 hp6 tt6 => ?_⟩
          refine ⟨by show 2 ≤ sizeLine; decide, fun T1 hT1 => ?_⟩
          have hD6 := SL.new (o := .tup [.str k0, .ref E1]) (b6 _ _ nDp hD5 : SL H6 D rs) hT1
          refine ⟨_, rfl, _, rfl, _, rfl, D, _, _, _, rfl, rfl, hD6.sq, ha, B, _, rfl, DPut.k (k := Sum.inr x) (Same.new hT1 _ _ (b6 _ _ nBp hB5)) (by rw [sizeLine_eq]; omega), ?_⟩
          exact fin H6 E1 T1 k0 ts t6 b6 (hp5.ne hE1) (ne_of_none hB5 hE1).symm hT hT1 hp6 tt6 ⟨ar x hxm, .inr ⟨hk0, ne6, ok⟩⟩
      · rintro σ H' ⟨v5, v8, bk, t', rfl, b, hDD, hWW, ⟨kvs, hBB, hR⟩, ek, ak, hp', tt'⟩
        rw [List.take_length] at ek
        have ha : atI (rs.map V.str) (0 : Int) = some (V.str rs[0]) := at_of (j := 0) (by omega) (by rw [List.getElem?_map, List.getElem?_eq_getElem ln]; rfl)
        have h0 : rs[0] ∈ rs := List.getElem_mem ln
        refine ⟨_, rfl, _, rfl, D, _, _, _, rfl, rfl, hDD.sq, ha, by show 2 ≤ sizeLine; decide, fun R hR1 => ?_⟩
        refine k _ R bk rs[0] t' (b.newt hR1) (b.fr hR1 (hp'.ne hR1)) ⟨B, ?_, kvs, ?_, hR.same ?_⟩ ⟨by rw [ek]; exact nd, by rw [ek]; exact ak, by rw [ek]; exact h0, ?_⟩ (hp'.new hR1) (by omega)
        · rw [cut_out (by simp [hp'.ne hR1])]; exact upd_same
        · rw [cut_out (by simp [nBp])]; exact Same.new hR1 _ _ hBB
        · exact fun c u e => cut_new hR1 _ _ (cut_mono (S := [p, B]) (S' := [p]) (by simp) _ _ e)
        · rw [← List.length_map (·.1), ek]; omega
end
end D1
end L2
namespace L2
namespace D1
open PySem PySem.Spec PyProof.Rows
theorem merge_nd : ∀ (more kvs : List (Key × V)), (∀ p ∈ more, p.1 ∉ kvs.map (·.1)) → (more.map (·.1)).Nodup → mergeK kvs more = kvs ++ more
  | [], kvs, _, _ => (List.append_nil _).symm
  | p :: r, kvs, h, nd => by
    have nd' := List.nodup_cons.mp nd
    show mergeK (putK kvs p.1 p.2) r = _
    rw [putK_new (h p List.mem_cons_self), merge_nd r _ ?_ nd'.2, List.append_assoc]
    · rfl
    · intro q hq z
      rw [List.map_append] at z
      rcases List.mem_append.mp z with z | z
      · exact h q (List.mem_cons_of_mem _ hq) z
      · have : q.1 = p.1 := List.mem_singleton.mp z
        exact nd'.1 (by show p.1 ∈ _; rw [← this]; exact List.mem_map_of_mem hq)
theorem merge_id {kvs : List (Key × V)} (nd : (kvs.map (·.1)).Nodup) : mergeK [] kvs = kvs := by
  rw [merge_nd kvs [] (by simp) nd]; rfl
theorem inr_nd {l : List Str} (h : l.Nodup) : (l.map (Sum.inr : Str → Key)).Nodup := by
  induction l with
  | nil => exact List.nodup_nil
  | cons a r ih =>
    have h' := List.nodup_cons.mp h
    refine List.nodup_cons.mpr ⟨fun z => ?_, ih h'.2⟩
    obtain ⟨b, hb, e⟩ := List.mem_map.mp z
    exact h'.1 (by rw [← Sum.inr.inj e]; exact hb)
theorem kT_nd {ts : List (Str × Str)} (h : (ts.map (·.1)).Nodup) : ((kT ts).map (·.1)).Nodup := by
  have : (kT ts).map (·.1) = (ts.map (·.1)).map Sum.inr := by rw [kT, List.map_map, List.map_map]; rfl
  rw [this]; exact inr_nd h
/-- a new row, its words and goals in slots -/
def tRow (k : Str) (l : List (Nat × Nat)) : TE := fun σ H Q => ∃ ts : List (Str × Str), Paired (fun ij t => σ[ij.1]? = some (some (.str t.1)) ∧ σ[ij.2]? = some (some (.str t.2))) l ts ∧ (ts.map (·.1)).Nodup ∧
  ∀ (H' : Hp) (T E : Addr), Same H H' → H T = none → H E = none → H' T = some (.tup [.str k, .ref E]) → TurnsAt H' E ts → Q (.ref T) H'
theorem row2 {X : Cx} {k : Str} {i j m n : Nat} {e1 e2 e3 e4 : Expr} {pos pos' : Pos} {x1 j0 : Nat} {ps : Pos} (h1 : PE X e1 (tVar i)) (h2 : PE X e2 (tVar j)) (h3 : PE X e3 (tVar m)) (h4 : PE X e4 (tVar n)) :
    PE X (.Tuple [.Constant (.str k) j0 ps, .Dict [some e1, some e3] [e2, e4] pos] x1 pos') (tRow k [(i, j), (m, n)]) := by
  refine pe_imp (pe_tup (pa_cons pe_str (pa_cons (pe_disp (pps_cons h1 h2 (pps_cons h3 h4 pps_nil)) (by rfl) (by rfl) (fun z => by cases z) (by show 2 ≤ 15; decide)) pa_nil))) ?_
  rintro σ H Q ⟨ts, pr, nd, kk⟩
  cases pr with
  | @cons _ t1 _ _ a pr =>
    cases pr with
    | @cons _ t2 _ _ b pr =>
      cases pr
      refine fun E hE => ⟨_, a.1, _, a.2, _, b.1, _, b.2, upd_same, kT [t1, t2], rfl, by show 2 ≤ 15; decide, by show 2 ≤ sizeLine; decide, fun T hT => ?_⟩
      rw [merge_id (kT_nd nd)] at hT ⊢
      have hT2 := upd_none' hT
      have nET : E ≠ T := fun e => by rw [← e, upd_same] at hT; cases hT
      refine kk _ T E (fun c u ec => ?_) (upd_none' hT2) hE upd_same (by rw [TurnsAt, upd_ne nET, upd_same])
      rw [upd_ne (ne_of_none ec (upd_none' hT2)), upd_ne (ne_of_none ec hE), upd_ne (ne_of_none ec hE)]; exact ec
theorem row1 {X : Cx} {k : Str} {i j : Nat} {e1 e2 : Expr} {pos pos' : Pos} {x1 j0 : Nat} {ps : Pos} (h1 : PE X e1 (tVar i)) (h2 : PE X e2 (tVar j)) :
    PE X (.Tuple [.Constant (.str k) j0 ps, .Dict [some e1] [e2] pos] x1 pos') (tRow k [(i, j)]) := by
  refine pe_imp (pe_tup (pa_cons pe_str (pa_cons (pe_disp (pps_cons h1 h2 pps_nil) (by rfl) (by rfl) (fun z => by cases z) (by show 1 ≤ 15; decide)) pa_nil))) ?_
  rintro σ H Q ⟨ts, pr, nd, kk⟩
  cases pr with
  | @cons _ t1 _ _ a pr =>
    cases pr
    refine fun E hE => ⟨_, a.1, _, a.2, upd_same, kT [t1], rfl, by show 1 ≤ 15; decide, by show 2 ≤ sizeLine; decide, fun T hT => ?_⟩
    rw [merge_id (kT_nd nd)] at hT ⊢
    have hT2 := upd_none' hT
    have nET : E ≠ T := fun e => by rw [← e, upd_same] at hT; cases hT
    refine kk _ T E (fun c u ec => ?_) (upd_none' hT2) hE upd_same (by rw [TurnsAt, upd_ne nET, upd_same])
    rw [upd_ne (ne_of_none ec (upd_none' hT2)), upd_ne (ne_of_none ec hE), upd_ne (ne_of_none ec hE)]; exact ec
theorem row0 {X : Cx} {k : Str} {pos pos' : Pos} {x1 j0 : Nat} {ps : Pos} :
    PE X (.Tuple [.Constant (.str k) j0 ps, .Dict [] [] pos] x1 pos') (tRow k []) := by
  refine pe_imp (pe_tup (pa_cons pe_str (pa_cons pe_dnewK pa_nil))) ?_
  rintro σ H Q ⟨ts, pr, nd, kk⟩
  cases pr
  refine fun E hE => ⟨by show 2 ≤ sizeLine; decide, fun T hT => ?_⟩
  have nET : E ≠ T := fun e => by rw [← e, upd_same] at hT; cases hT
  refine kk _ T E (fun c u ec => ?_) (upd_none' hT) hE upd_same (by rw [TurnsAt, upd_ne nET, upd_same]; rfl)
  rw [upd_ne (ne_of_none ec (upd_none' hT)), upd_ne (ne_of_none ec hE)]; exact ec
/-- a row that stands new -/
theorem RowAt.mk' {S : List Addr} {H H' : Hp} {T E : Addr} {k : Str} {ts : List (Str × Str)} (hS : ∀ b ∈ S, ∃ u, H b = some u) (nT : H T = none) (nE : H E = none) (h1 : H' T = some (.tup [.str k, .ref E])) (h2 : TurnsAt H' E ts) : RowAt (cut S H') (.ref T) k ts := by
  refine ⟨T, E, rfl, ?_, ?_⟩
  · rw [cut_out fun z => by obtain ⟨u, hu⟩ := hS T z; rw [hu] at nT; cases nT]; exact h1
  · rw [TurnsAt, cut_out fun z => by obtain ⟨u, hu⟩ := hS E z; rw [hu] at nE; cases nE]; exact h2
abbrev sShape : Stmt := top 62
def spShape : Sp := fun vs H Q _ => ∃ (p W : Addr) (ws : List Str) (t : Int), vs = [.ref p, .ref W] ∧ Purse H p t ∧ SL H W ws ∧ W ≠ p ∧ WsOk ws ∧ 4 ≤ ws.length ∧ t < 2 ^ 26 ∧
  ∀ (H' : Hp) (R : Addr) (bk : Bk) (st : Str) (t' : Int), But p H H' → H R = none → WorldAt (cut [p] H') R bk st → WF bk st ws → Purse H' p t' → t' ≤ t + 700 → Q (.ref R) H'
/-- the end of a display of a book -/
theorem book_end {p B R : Addr} {H3 : Hp} {kvs : List (Key × V)} {bk : Bk} {st : Str} (hp : p ≠ B) (hRw : Rows (cut [p, B] H3) kvs bk) (nd : (bk.map (·.1)).Nodup) (hR : (L2.upd H3 B (.dK (mergeK [] kvs))) R = none) (nRp : R ≠ p) :
    WorldAt (cut [p] (L2.upd (L2.upd H3 B (.dK (mergeK [] kvs))) R (.lst [.ref B, .str st]))) R bk st := by
  have nd2 : (kvs.map (·.1)).Nodup := by
    have z := inr_nd nd
    rw [List.map_map] at z
    rw [hRw.keys]; exact z
  have nBR : B ≠ R := fun e => by rw [← e, upd_same] at hR; cases hR
  refine ⟨B, by rw [cut_out (by simpa using nRp)]; exact upd_same, kvs, ?_, ?_⟩
  · rw [cut_out (by simpa using hp.symm), upd_ne nBR, upd_same, merge_id nd2]
  · refine hRw.same fun c u e => ?_
    obtain ⟨nc, e⟩ := cut_some e
    simp only [List.mem_cons, List.not_mem_nil, or_false, not_or] at nc
    have ncR : c ≠ R := fun z => by rw [z] at e nc; rw [upd_ne nc.2] at hR; rw [hR] at e; cases e
    rw [cut_out (by simpa using nc.1), upd_ne ncR, upd_ne nc.2]; exact e
theorem tok2 {a b c d : Str} {ss ws : List Str} (n : a ≠ b) (ha : a ∈ ws) (hb : b ∈ ws) (hc : c ∈ ss) (hd : d ∈ ss) : TOk [(a, c), (b, d)] ss ws :=
  ⟨by simpa using n, by simp [ha, hb], by simp [hc, hd]⟩
theorem tok1 {a c : Str} {ss ws : List Str} (ha : a ∈ ws) (hc : c ∈ ss) : TOk [(a, c)] ss ws := ⟨by simp, by simp [ha], by simp [hc]⟩
end D1
end L2
namespace L2
namespace D1
open PySem PySem.Spec PyProof.Rows
section
variable {P : Program} {w : World} {K : PySem.W.Frag} {mg : Str → Option Value} {base : Heap}
theorem scSa : FnScope ["_law_purse_here", "_law_words_here", "_law_way", "_law_states", "_law_begin", "_law_second", "_law_third", "_law_last", "_law_go", "_law_out", "_law_on", "_law_end", "_law_row"] ["_law_purse_here", "_law_words_here"] (defScope sShape) := ⟨rfl, rfl, rfl, by decide +kernel, rfl, by decide +kernel, by decide +kernel⟩
theorem ok_shape {f : Addr} {fd : FuncData} (F : Fun K "_law_shape" "_law_shape" sShape f fd) (T : Free2 mg) (CD : CDraw P w K mg base) (CW : CWords P w K mg base) :
    FnOk P w K mg base CX0 5 f fd ["_law_purse_here", "_law_words_here"] spShape := by
  refine F.ok scSa (fun vs H Q E h => ?_) (fun cdv A outer s H vs Q E hr h => ?_)
  · obtain ⟨p, W, ws, t, rfl, _⟩ := h; rfl
  · obtain ⟨p, W, ws, t, rfl, hp, hW, nW, wok, l4, t1, k⟩ := h
    have hu := hu_of hr
    refine ⟨_, pss_cons (ps_par (i := 2) (j := 3) rfl scSa.nd rfl rfl (by decide) rfl rfl (pa_cons (pe_cal CD (hr.mono (by decide)) rfl (pa_cons (pv 0) (pa_cons pe_int pa_nil))) (pa_cons (pe_cal CW (hr.mono (by decide)) rfl (pa_cons (pv 0) (pa_cons pe_int pa_nil))) pa_nil)) (by rfl))
      (pss_cons (ps_asg (pv 3) (pg_lst rfl (pgs_cons (pg_name (i := 4) scSa.nd rfl (Or.inl rfl)) (pgs_cons (pg_name (i := 5) scSa.nd rfl (Or.inl rfl)) (pgs_cons (pg_name (i := 6) scSa.nd rfl (Or.inl rfl)) (pgs_cons (pg_name (i := 7) scSa.nd rfl (Or.inl rfl)) pgs_nil))))))
      (pss_cons (ps_asg (pe_slice sl_list (pv 1) po_none (po_some pe_int)) (pg_lst rfl (pgs_cons (pg_name (i := 8) scSa.nd rfl (Or.inl rfl)) (pgs_cons (pg_name (i := 9) scSa.nd rfl (Or.inl rfl)) (pgs_cons (pg_name (i := 10) scSa.nd rfl (Or.inl rfl)) (pgs_cons (pg_name (i := 11) scSa.nd rfl (Or.inl rfl)) pgs_nil))))))
      (pss_cons (ps_if (pt_cmpR op_eq (pv 2) pe_int (nomark _)) (pss_one (ps_ret (pe_lst (pa_cons (pe_disp (pps_cons (pv 4) (row2 (pv 8) (pv 4) (pv 9) (pv 5)) (pps_cons (pv 5) row0 pps_nil)) (by rfl) (by rfl) (fun z => by cases z) (by show 2 ≤ 15; decide)) (pa_cons (pv 4) pa_nil))))) pss_nil)
      (pss_cons (ps_if (pt_cmpR op_eq (pv 2) pe_int (nomark _)) (pss_one (ps_ret (pe_lst (pa_cons (pe_disp (pps_cons (pv 4) (row2 (pv 8) (pv 5) (pv 9) (pv 6)) (pps_cons (pv 5) (row2 (pv 10) (pv 4) (pv 11) (pv 6)) (pps_cons (pv 6) row0 pps_nil))) (by rfl) (by rfl) (fun z => by cases z) (by show 3 ≤ 15; decide)) (pa_cons (pv 4) pa_nil))))) pss_nil)
      (pss_cons (ps_set (i := 12) scSa.nd rfl (Or.inl rfl) (pe_disp (pps_cons (pv 4) (row2 (pv 8) (pv 5) (pv 9) (pv 6)) (pps_cons (pv 5) (row2 (pv 10) (pv 4) (pv 11) (pv 7)) (pps_cons (pv 7) row0 pps_nil))) (by rfl) (by rfl) (fun z => by cases z) (by show 3 ≤ 15; decide)))
      (pss_cons (ps_dput hu (pv 12) (pv 6) (pe_ifExp (pt_cmpR op_eq (pv 2) pe_int (nomark _)) (row2 (pv 10) (pv 4) (pv 11) (pv 7)) (row1 (pv 10) (pv 6))) rfl)
      (pss_one (ps_ret (pe_lst (pa_cons (pv 12) (pa_cons (pv 4) pa_nil))))))))))), ?_⟩
    refine ⟨_, rfl, p, 4, t, rfl, hp, by decide, by decide, by omega, fun way t2 o r0 r1 tt2 hp2 => ?_⟩
    have b2 := But.upd p H o
    have hW2 : SL (L2.upd H p o) W ws := by rw [SL, upd_ne nW]; exact hW
    generalize L2.upd H p o = H2 at b2 hW2 hp2
    refine ⟨_, rfl, p, 4, t2, rfl, hp2, by decide, by decide, by omega, fun H3 S ss t3 b3 hS hSS ls nd aw hp3 tt3 => ⟨_, _, rfl, ?_⟩⟩
    have b03 := b2.trans b3
    have hW3 : SL H3 W ws := b3 _ _ nW hW2
    have ls4 : ss.length = 4 := ls
    obtain ⟨b', s', d', l', rfl⟩ : ∃ a b c d, ss = [a, b, c, d] := by
      match ss, ls4 with
      | [a, b, c, d], _ => exact ⟨a, b, c, d, rfl⟩
    refine ⟨_, rfl, S, _, rfl, hSS.sq, rfl, _, _, rfl, _, _, rfl, _, _, rfl, _, _, rfl, rfl, ?_⟩
    refine ⟨_, rfl, _, rfl, W, _, rfl, hW3.sq, fun q hq => ?_⟩
    rw [cutV_map, cutL_to _ (by decide)]
    obtain ⟨g', o', n', e', ew⟩ : ∃ a b c d, ws.take (4 : Int).toNat = [a, b, c, d] := by
      match ws, l4 with
      | a :: b :: c :: d :: r, _ => exact ⟨a, b, c, d, rfl⟩
    rw [ew]
    have wnd : ([g', o', n', e'] : List Str).Nodup := ew ▸ List.Nodup.sublist (List.take_sublist _ _) wok.nd
    have wm : ∀ x ∈ ([g', o', n', e'] : List Str), x ∈ ws := fun x hx => List.mem_of_mem_take (by rw [ew]; exact hx)
    refine ⟨q, _, rfl, SqL.of upd_same, rfl, _, _, rfl, _, _, rfl, _, _, rfl, _, _, rfl, rfl, ?_⟩
    have hp4 : Purse (L2.upd H3 q (.lst ([g', o', n', e'].map V.str))) p t3 := hp3.new hq
    have b04 : But p H (L2.upd H3 q (.lst ([g', o', n', e'].map V.str))) := b03.newt hq
    generalize L2.upd H3 q (.lst ([g', o', n', e'].map V.str)) = H4 at hp4 b04
    simp only [List.nodup_cons, List.mem_cons, List.not_mem_nil, or_false, not_or, not_false_eq_true, List.nodup_nil, and_true] at nd wnd
    obtain ⟨⟨nbs, nbd, nbl⟩, ⟨nsd, nsl⟩, ndl⟩ := nd
    obtain ⟨⟨ngo, ngn, nge⟩, ⟨non, noe⟩, nne⟩ := wnd
    have nld : ¬ l' = d' := fun e => ndl e.symm
    have gm := wm g' (by simp)
    have om := wm o' (by simp)
    have nm := wm n' (by simp)
    have em := wm e' (by simp)
    have wb := aw b' (by simp)
    have wsc := aw s' (by simp)
    have wd' := aw d' (by simp)
    have wl := aw l' (by simp)
    change Ends.nx _ [some (.ref p), some (.ref W), some (.int way), some (.ref S), some (.str b'), some (.str s'), some (.str d'), some (.str l'), some (.str g'), some (.str o'), some (.str n'), some (.str e'), none] _
    clear wm aw ls ls4 hSS hW3 hp3 hq b03 b3 hp2 b2 hW2
    refine ⟨_, rfl, rfl, _, rfl, ?_⟩
    refine ite2 (fun _ => ?_) (fun _ => ?_)
    · skip
      refine fun B hB => ?_
      have nBp := hp4.ne hB
      have hB0 : H B = none := b04.fr hB nBp
      have k0 : ∀ c ∈ [p, B], ∃ u, (L2.upd H4 B (.dK [])) c = some u := fun c hc => by
        rcases List.mem_cons.mp hc with rfl | hc
        · exact (hp4.new hB).some
        · obtain rfl := List.mem_singleton.mp hc; exact ⟨_, upd_same⟩
      have s0 : Same (L2.upd H4 B (.dK [])) (L2.upd H4 B (.dK [])) := Same.refl _
      refine ⟨_, rfl, [(g', b'), (o', s')], (.cons ⟨rfl, rfl⟩ (.cons ⟨rfl, rfl⟩ .nil)), by simpa using ngo, fun G1 T1 E1 s1 nT1 nE1 h1 e1 => ?_⟩
      have R1 := RowAt.mk' k0 nT1 nE1 h1 e1
      have k1 : ∀ c ∈ [p, B], ∃ u, G1 c = some u := fun c hc => by obtain ⟨u, hu⟩ := k0 c hc; exact ⟨u, s1 _ _ hu⟩
      refine ⟨_, rfl, [], .nil, by simp, fun G2 T2 E2 s2 nT2 nE2 h2 e2 => ?_⟩
      have R2 := RowAt.mk' k1 nT2 nE2 h2 e2
      have k2 : ∀ c ∈ [p, B], ∃ u, G2 c = some u := fun c hc => by obtain ⟨u, hu⟩ := k1 c hc; exact ⟨u, s2 _ _ hu⟩
      have hRw : Rows (cut [p, B] G2) [(.inr b', .ref T1), (.inr s', .ref T2)] [(b', "says", [(g', b'), (o', s')]), (s', "done", [])] := (.cons ⟨rfl, (R1).same (cut_same s2)⟩ (.cons ⟨rfl, R2⟩ .nil))
      have sT : Same (L2.upd H4 B (.dK [])) G2 := (Same.trans s1 s2)
      have hG := (hp4.new (o := .dK []) hB).same sT
      have bG : But p H G2 := (b04.newt hB).trans (But.of sT)
      refine ⟨sT _ _ upd_same, [(.inr b', .ref T1), (.inr s', .ref T2)], rfl, by show 2 ≤ 15; decide, ?_⟩
      refine ⟨_, rfl, by show 2 ≤ sizeLine; decide, fun R hR => ?_⟩
      have hG2 : Purse (L2.upd G2 B (.dK (mergeK [] [(.inr b', .ref T1), (.inr s', .ref T2)]))) p t3 := hG.upd nBp.symm
      have bG2 : But p H (L2.upd G2 B (.dK (mergeK [] [(.inr b', .ref T1), (.inr s', .ref T2)]))) := But.ofL hB0 bG
      refine k _ R [(b', "says", [(g', b'), (o', s')]), (s', "done", [])] b' t3 (bG2.newt hR) (bG2.fr hR (hG2.ne hR)) (book_end nBp.symm hRw (by simp [nbs, nbd, nbl, nsd, nsl, ndl, nld]) hR (hG2.ne hR)) ?_ (hG2.new hR) (by omega)
      refine ⟨by simp [nbs, nbd, nbl, nsd, nsl, ndl, nld], fun r hr => ?_, by simp, by simp⟩
      simp only [List.mem_cons, List.not_mem_nil, or_false] at hr
      rcases hr with rfl | rfl
      · exact ⟨wb, .inr ⟨.inl rfl, by simp, tok2 ngo gm om (by simp) (by simp)⟩⟩
      · exact ⟨wsc, .inl ⟨rfl, rfl⟩⟩
    · refine ⟨_, rfl, rfl, _, rfl, ?_⟩
      refine ite2 (fun _ => ?_) (fun _ => ?_)
      · skip
        refine fun B hB => ?_
        have nBp := hp4.ne hB
        have hB0 : H B = none := b04.fr hB nBp
        have k0 : ∀ c ∈ [p, B], ∃ u, (L2.upd H4 B (.dK [])) c = some u := fun c hc => by
          rcases List.mem_cons.mp hc with rfl | hc
          · exact (hp4.new hB).some
          · obtain rfl := List.mem_singleton.mp hc; exact ⟨_, upd_same⟩
        have s0 : Same (L2.upd H4 B (.dK [])) (L2.upd H4 B (.dK [])) := Same.refl _
        refine ⟨_, rfl, [(g', s'), (o', d')], (.cons ⟨rfl, rfl⟩ (.cons ⟨rfl, rfl⟩ .nil)), by simpa using ngo, fun G1 T1 E1 s1 nT1 nE1 h1 e1 => ?_⟩
        have R1 := RowAt.mk' k0 nT1 nE1 h1 e1
        have k1 : ∀ c ∈ [p, B], ∃ u, G1 c = some u := fun c hc => by obtain ⟨u, hu⟩ := k0 c hc; exact ⟨u, s1 _ _ hu⟩
        refine ⟨_, rfl, [(n', b'), (e', d')], (.cons ⟨rfl, rfl⟩ (.cons ⟨rfl, rfl⟩ .nil)), by simpa using nne, fun G2 T2 E2 s2 nT2 nE2 h2 e2 => ?_⟩
        have R2 := RowAt.mk' k1 nT2 nE2 h2 e2
        have k2 : ∀ c ∈ [p, B], ∃ u, G2 c = some u := fun c hc => by obtain ⟨u, hu⟩ := k1 c hc; exact ⟨u, s2 _ _ hu⟩
        refine ⟨_, rfl, [], .nil, by simp, fun G3 T3 E3 s3 nT3 nE3 h3 e3 => ?_⟩
        have R3 := RowAt.mk' k2 nT3 nE3 h3 e3
        have k3 : ∀ c ∈ [p, B], ∃ u, G3 c = some u := fun c hc => by obtain ⟨u, hu⟩ := k2 c hc; exact ⟨u, s3 _ _ hu⟩
        have hRw : Rows (cut [p, B] G3) [(.inr b', .ref T1), (.inr s', .ref T2), (.inr d', .ref T3)] [(b', "says", [(g', s'), (o', d')]), (s', "says", [(n', b'), (e', d')]), (d', "done", [])] := (.cons ⟨rfl, ((R1).same (cut_same s2)).same (cut_same s3)⟩ (.cons ⟨rfl, (R2).same (cut_same s3)⟩ (.cons ⟨rfl, R3⟩ .nil)))
        have sT : Same (L2.upd H4 B (.dK [])) G3 := (Same.trans (Same.trans s1 s2) s3)
        have hG := (hp4.new (o := .dK []) hB).same sT
        have bG : But p H G3 := (b04.newt hB).trans (But.of sT)
        refine ⟨sT _ _ upd_same, [(.inr b', .ref T1), (.inr s', .ref T2), (.inr d', .ref T3)], rfl, by show 3 ≤ 15; decide, ?_⟩
        refine ⟨_, rfl, by show 2 ≤ sizeLine; decide, fun R hR => ?_⟩
        have hG2 : Purse (L2.upd G3 B (.dK (mergeK [] [(.inr b', .ref T1), (.inr s', .ref T2), (.inr d', .ref T3)]))) p t3 := hG.upd nBp.symm
        have bG2 : But p H (L2.upd G3 B (.dK (mergeK [] [(.inr b', .ref T1), (.inr s', .ref T2), (.inr d', .ref T3)]))) := But.ofL hB0 bG
        refine k _ R [(b', "says", [(g', s'), (o', d')]), (s', "says", [(n', b'), (e', d')]), (d', "done", [])] b' t3 (bG2.newt hR) (bG2.fr hR (hG2.ne hR)) (book_end nBp.symm hRw (by simp [nbs, nbd, nbl, nsd, nsl, ndl, nld]) hR (hG2.ne hR)) ?_ (hG2.new hR) (by omega)
        refine ⟨by simp [nbs, nbd, nbl, nsd, nsl, ndl, nld], fun r hr => ?_, by simp, by simp⟩
        simp only [List.mem_cons, List.not_mem_nil, or_false] at hr
        rcases hr with rfl | rfl | rfl
        · exact ⟨wb, .inr ⟨.inl rfl, by simp, tok2 ngo gm om (by simp) (by simp)⟩⟩
        · exact ⟨wsc, .inr ⟨.inl rfl, by simp, tok2 nne nm em (by simp) (by simp)⟩⟩
        · exact ⟨wd', .inl ⟨rfl, rfl⟩⟩
      · skip
        refine fun B hB => ?_
        have nBp := hp4.ne hB
        have hB0 : H B = none := b04.fr hB nBp
        have k0 : ∀ c ∈ [p, B], ∃ u, (L2.upd H4 B (.dK [])) c = some u := fun c hc => by
          rcases List.mem_cons.mp hc with rfl | hc
          · exact (hp4.new hB).some
          · obtain rfl := List.mem_singleton.mp hc; exact ⟨_, upd_same⟩
        have s0 : Same (L2.upd H4 B (.dK [])) (L2.upd H4 B (.dK [])) := Same.refl _
        refine ⟨_, rfl, [(g', s'), (o', d')], (.cons ⟨rfl, rfl⟩ (.cons ⟨rfl, rfl⟩ .nil)), by simpa using ngo, fun G1 T1 E1 s1 nT1 nE1 h1 e1 => ?_⟩
        have R1 := RowAt.mk' k0 nT1 nE1 h1 e1
        have k1 : ∀ c ∈ [p, B], ∃ u, G1 c = some u := fun c hc => by obtain ⟨u, hu⟩ := k0 c hc; exact ⟨u, s1 _ _ hu⟩
        refine ⟨_, rfl, [(n', b'), (e', l')], (.cons ⟨rfl, rfl⟩ (.cons ⟨rfl, rfl⟩ .nil)), by simpa using nne, fun G2 T2 E2 s2 nT2 nE2 h2 e2 => ?_⟩
        have R2 := RowAt.mk' k1 nT2 nE2 h2 e2
        have k2 : ∀ c ∈ [p, B], ∃ u, G2 c = some u := fun c hc => by obtain ⟨u, hu⟩ := k1 c hc; exact ⟨u, s2 _ _ hu⟩
        refine ⟨_, rfl, [], .nil, by simp, fun G3 T3 E3 s3 nT3 nE3 h3 e3 => ?_⟩
        have R3 := RowAt.mk' k2 nT3 nE3 h3 e3
        have k3 : ∀ c ∈ [p, B], ∃ u, G3 c = some u := fun c hc => by obtain ⟨u, hu⟩ := k2 c hc; exact ⟨u, s3 _ _ hu⟩
        have hRw : Rows (cut [p, B] G3) [(.inr b', .ref T1), (.inr s', .ref T2), (.inr l', .ref T3)] [(b', "hears", [(g', s'), (o', d')]), (s', "says", [(n', b'), (e', l')]), (l', "done", [])] := (.cons ⟨rfl, ((R1).same (cut_same s2)).same (cut_same s3)⟩ (.cons ⟨rfl, (R2).same (cut_same s3)⟩ (.cons ⟨rfl, R3⟩ .nil)))
        have sT : Same (L2.upd H4 B (.dK [])) G3 := (Same.trans (Same.trans s1 s2) s3)
        have hG := (hp4.new (o := .dK []) hB).same sT
        have bG : But p H G3 := (b04.newt hB).trans (But.of sT)
        refine ⟨sT _ _ upd_same, [(.inr b', .ref T1), (.inr s', .ref T2), (.inr l', .ref T3)], rfl, by show 3 ≤ 15; decide, ?_⟩
        have mid : mergeK [] [(.inr b', .ref T1), (.inr s', .ref T2), (.inr l', .ref T3)] = [(.inr b', .ref T1), (.inr s', .ref T2), (.inr l', .ref T3)] := merge_id (inr_nd (l := [b', s', l']) (by simp [nbs, nbl, nsl]))
        have hG2 : Purse (L2.upd G3 B (.dK (mergeK [] [(.inr b', .ref T1), (.inr s', .ref T2), (.inr l', .ref T3)]))) p t3 := hG.upd nBp.symm
        have bG2 : But p H (L2.upd G3 B (.dK (mergeK [] [(.inr b', .ref T1), (.inr s', .ref T2), (.inr l', .ref T3)]))) := But.ofL hB0 bG
        have hRw5 : Rows (cut [p, B] (L2.upd G3 B (.dK (mergeK [] [(.inr b', .ref T1), (.inr s', .ref T2), (.inr l', .ref T3)])))) [(.inr b', .ref T1), (.inr s', .ref T2), (.inr l', .ref T3)] [(b', "hears", [(g', s'), (o', d')]), (s', "says", [(n', b'), (e', l')]), (l', "done", [])] := by rw [cut_upd (by simp)]; exact hRw
        have k4 : ∀ c ∈ [p, B], ∃ u, (L2.upd G3 B (.dK (mergeK [] [(.inr b', .ref T1), (.inr s', .ref T2), (.inr l', .ref T3)]))) c = some u := fun c hc => by
          rcases List.mem_cons.mp hc with rfl | hc
          · exact hG2.some
          · obtain rfl := List.mem_singleton.mp hc; exact ⟨_, upd_same⟩
        refine ⟨_, rfl, rfl, _, rfl, ?_⟩
        refine ite2 (fun _ => ?_) (fun _ => ?_)
        ·   refine ⟨[(n', b'), (e', l')], (.cons ⟨rfl, rfl⟩ (.cons ⟨rfl, rfl⟩ .nil)), by simpa using nne, fun G4 T4 E4 s4 nT4 nE4 h4 e4 => ?_⟩
            have R4 := RowAt.mk' k4 nT4 nE4 h4 e4
            have hB4 : G4 B = some (.dK [(.inr b', .ref T1), (.inr s', .ref T2), (.inr l', .ref T3)]) := s4 _ _ (by rw [upd_same, mid])
            have hRw4 : Rows (cut [p, B] G4) [(.inr b', .ref T1), (.inr s', .ref T2), (.inr l', .ref T3)] [(b', "hears", [(g', s'), (o', d')]), (s', "says", [(n', b'), (e', l')]), (l', "done", [])] := (hRw5.same (cut_same s4))
            refine ⟨_, rfl, _, rfl, B, _, rfl, DPut.k (k := Sum.inr d') hB4 (by rw [sizeLine_eq]; show 3 < _; decide), ?_⟩
            have hRw6 := hRw4.app (s := d') R4
            have ep : putK ([(.inr b', .ref T1), (.inr s', .ref T2), (.inr l', .ref T3)] : List (Key × V)) (.inr d') (.ref T4) = ([(.inr b', .ref T1), (.inr s', .ref T2), (.inr l', .ref T3)] : List (Key × V)) ++ ([(.inr d', .ref T4)] : List (Key × V)) := putK_new (hRw4.fresh (by simp [Ne.symm nbd, Ne.symm nsd, ndl]))
            rw [ep]
            have hG4 := hG2.same s4
            have bG4 := bG2.trans (But.of s4)
            refine ⟨_, rfl, _, rfl, by show 2 ≤ sizeLine; decide, fun R hR => ?_⟩
            have hG5 : Purse (L2.upd G4 B (.dK (([(.inr b', .ref T1), (.inr s', .ref T2), (.inr l', .ref T3)] : List (Key × V)) ++ ([(.inr d', .ref T4)] : List (Key × V))))) p t3 := hG4.upd nBp.symm
            have bG5 : But p H (L2.upd G4 B (.dK (([(.inr b', .ref T1), (.inr s', .ref T2), (.inr l', .ref T3)] : List (Key × V)) ++ ([(.inr d', .ref T4)] : List (Key × V))))) := But.ofL hB0 bG4
            have nRp := hG5.ne hR
            have nBR : B ≠ R := fun e => by rw [← e, upd_same] at hR; cases hR
            refine k _ R [(b', "hears", [(g', s'), (o', d')]), (s', "says", [(n', b'), (e', l')]), (l', "done", []), (d', "says", [(n', b'), (e', l')])] b' t3 (bG5.newt hR) (bG5.fr hR nRp) ⟨B, by rw [cut_out (by simpa using nRp)]; exact upd_same, _, by rw [cut_out (by simpa using nBp), upd_ne nBR, upd_same], hRw6.same fun c u e => ?_⟩ ?_ (hG5.new hR) (by omega)
            · obtain ⟨nc, e⟩ := cut_some e
              simp only [List.mem_cons, List.not_mem_nil, or_false, not_or] at nc
              have ncR : c ≠ R := fun z => by rw [z] at e nc; rw [upd_ne nc.2] at hR; rw [hR] at e; cases e
              rw [cut_out (by simpa using nc.1), upd_ne ncR, upd_ne nc.2]; exact e
            · refine ⟨by simp [nbs, nbd, nbl, nsd, nsl, ndl, nld], fun r hr => ?_, by simp, by simp⟩
              simp only [List.mem_cons, List.not_mem_nil, or_false] at hr
              rcases hr with rfl | rfl | rfl | rfl
              · exact ⟨wb, .inr ⟨.inr rfl, by simp, tok2 ngo gm om (by simp) (by simp)⟩⟩
              · exact ⟨wsc, .inr ⟨.inl rfl, by simp, tok2 nne nm em (by simp) (by simp)⟩⟩
              · exact ⟨wl, .inl ⟨rfl, rfl⟩⟩
              · exact ⟨wd', .inr ⟨.inl rfl, by simp, tok2 nne nm em (by simp) (by simp)⟩⟩
        ·   refine ⟨[(n', d')], (.cons ⟨rfl, rfl⟩ .nil), by simp, fun G4 T4 E4 s4 nT4 nE4 h4 e4 => ?_⟩
            have R4 := RowAt.mk' k4 nT4 nE4 h4 e4
            have hB4 : G4 B = some (.dK [(.inr b', .ref T1), (.inr s', .ref T2), (.inr l', .ref T3)]) := s4 _ _ (by rw [upd_same, mid])
            have hRw4 : Rows (cut [p, B] G4) [(.inr b', .ref T1), (.inr s', .ref T2), (.inr l', .ref T3)] [(b', "hears", [(g', s'), (o', d')]), (s', "says", [(n', b'), (e', l')]), (l', "done", [])] := (hRw5.same (cut_same s4))
            refine ⟨_, rfl, _, rfl, B, _, rfl, DPut.k (k := Sum.inr d') hB4 (by rw [sizeLine_eq]; show 3 < _; decide), ?_⟩
            have hRw6 := hRw4.app (s := d') R4
            have ep : putK ([(.inr b', .ref T1), (.inr s', .ref T2), (.inr l', .ref T3)] : List (Key × V)) (.inr d') (.ref T4) = ([(.inr b', .ref T1), (.inr s', .ref T2), (.inr l', .ref T3)] : List (Key × V)) ++ ([(.inr d', .ref T4)] : List (Key × V)) := putK_new (hRw4.fresh (by simp [Ne.symm nbd, Ne.symm nsd, ndl]))
            rw [ep]
            have hG4 := hG2.same s4
            have bG4 := bG2.trans (But.of s4)
            refine ⟨_, rfl, _, rfl, by show 2 ≤ sizeLine; decide, fun R hR => ?_⟩
            have hG5 : Purse (L2.upd G4 B (.dK (([(.inr b', .ref T1), (.inr s', .ref T2), (.inr l', .ref T3)] : List (Key × V)) ++ ([(.inr d', .ref T4)] : List (Key × V))))) p t3 := hG4.upd nBp.symm
            have bG5 : But p H (L2.upd G4 B (.dK (([(.inr b', .ref T1), (.inr s', .ref T2), (.inr l', .ref T3)] : List (Key × V)) ++ ([(.inr d', .ref T4)] : List (Key × V))))) := But.ofL hB0 bG4
            have nRp := hG5.ne hR
            have nBR : B ≠ R := fun e => by rw [← e, upd_same] at hR; cases hR
            refine k _ R [(b', "hears", [(g', s'), (o', d')]), (s', "says", [(n', b'), (e', l')]), (l', "done", []), (d', "says", [(n', d')])] b' t3 (bG5.newt hR) (bG5.fr hR nRp) ⟨B, by rw [cut_out (by simpa using nRp)]; exact upd_same, _, by rw [cut_out (by simpa using nBp), upd_ne nBR, upd_same], hRw6.same fun c u e => ?_⟩ ?_ (hG5.new hR) (by omega)
            · obtain ⟨nc, e⟩ := cut_some e
              simp only [List.mem_cons, List.not_mem_nil, or_false, not_or] at nc
              have ncR : c ≠ R := fun z => by rw [z] at e nc; rw [upd_ne nc.2] at hR; rw [hR] at e; cases e
              rw [cut_out (by simpa using nc.1), upd_ne ncR, upd_ne nc.2]; exact e
            · refine ⟨by simp [nbs, nbd, nbl, nsd, nsl, ndl, nld], fun r hr => ?_, by simp, by simp⟩
              simp only [List.mem_cons, List.not_mem_nil, or_false] at hr
              rcases hr with rfl | rfl | rfl | rfl
              · exact ⟨wb, .inr ⟨.inr rfl, by simp, tok2 ngo gm om (by simp) (by simp)⟩⟩
              · exact ⟨wsc, .inr ⟨.inl rfl, by simp, tok2 nne nm em (by simp) (by simp)⟩⟩
              · exact ⟨wl, .inl ⟨rfl, rfl⟩⟩
              · exact ⟨wd', .inr ⟨.inl rfl, by simp, tok1 nm (by simp)⟩⟩
end
end D1
end L2
namespace L2
namespace D1
open PySem PySem.Spec PyProof.Rows
theorem atI_last {xs : List V} {v : V} (h : xs[xs.length - 1]? = some v) : atI xs (-1) = some v := by
  have hl : 0 < xs.length := by
    rcases Nat.eq_zero_or_pos xs.length with e | e
    · rw [List.length_eq_zero_iff.mp e] at h; cases h
    · exact e
  unfold atI ixN
  rw [if_neg (by decide), if_pos (by omega)]
  show xs[(-1 + (xs.length : Int)).toNat]? = _
  rw [show (-1 + (xs.length : Int)).toNat = xs.length - 1 by omega]
  exact h
end D1
end L2
namespace L2
namespace D1
open PySem PySem.Spec PyProof.Rows
abbrev sRowOf : Stmt := top 65
/-- a list of a world and its words -/
def RichAt (H : Hp) (R : Addr) (bk : Bk) (st : Str) (ws : List Str) : Prop := ∃ W L, H R = some (.lst [.ref W, .ref L]) ∧ WorldAt H W bk st ∧ SL H L ws
theorem RichAt.same {H H' : Hp} {R : Addr} {bk : Bk} {st : Str} {ws : List Str} (h : RichAt H R bk st ws) (s : Same H H') : RichAt H' R bk st ws := by
  obtain ⟨W, L, h1, h2, h3⟩ := h; exact ⟨W, L, s _ _ h1, h2.same s, h3.same s⟩
def spRow (c d : Int) : Sp := fun vs H Q _ => ∃ (p : Addr) (top' t : Int), vs = [.ref p, .int top'] ∧ Purse H p t ∧ 3 ≤ top' ∧ top' ≤ 6 ∧ t < c ∧
  ∀ (H' : Hp) (R : Addr) (bk : Bk) (st : Str) (ws : List Str) (t' : Int), But p H H' → RichAt (cut [p] H') R bk st ws → WF bk st ws → WsOk ws → Purse H' p t' → t' ≤ t + d → Q (.ref R) H'
theorem rich_new {p R W L : Addr} {H : Hp} {bk : Bk} {st : Str} {ws : List Str} (hR : H R = none) (nR : R ≠ p) (hW : WorldAt (cut [p] H) W bk st) (hL : SL H L ws) (nL : L ≠ p) : RichAt (cut [p] (L2.upd H R (.lst [.ref W, .ref L]))) R bk st ws :=
  ⟨W, L, by rw [cut_out (by simpa using nR)]; exact upd_same, hW.same (cut_new hR), by rw [SL, cut_out (by simpa using nL)]; exact hL.new hR⟩
theorem ws_take {ws : List Str} (l : ws.length = 6) (nd : ws.Nodup) (aw : ∀ x ∈ ws, Wd x) {k : Nat} (h : 1 ≤ k) : WsOk (ws.take k) :=
  ⟨by rw [List.length_take]; omega, by rw [List.length_take]; omega, List.Nodup.sublist (List.take_sublist _ _) nd, fun x hx => aw x (List.mem_of_mem_take hx)⟩
section
variable {P : Program} {w : World} {K : PySem.W.Frag} {mg : Str → Option Value} {base : Heap}
abbrev CPool (P : Program) (w : World) (K : PySem.W.Frag) (mg : Str → Option Value) (base : Heap) := Cal P w K mg base "_law_pool" 5 ["_law_purse_here"] spPool
abbrev CWorld (P : Program) (w : World) (K : PySem.W.Frag) (mg : Str → Option Value) (base : Heap) := Cal P w K mg base "_law_world" 5 ["_law_purse_here", "_law_many", "_law_words_here", "_law_top"] spWorld
abbrev CShape (P : Program) (w : World) (K : PySem.W.Frag) (mg : Str → Option Value) (base : Heap) := Cal P w K mg base "_law_shape" 5 ["_law_purse_here", "_law_words_here"] spShape
abbrev CRow (P : Program) (w : World) (K : PySem.W.Frag) (mg : Str → Option Value) (base : Heap) := Cal P w K mg base "_law_row_of" 6 ["_law_purse_here", "_law_top"] (spRow (2 ^ 25) 1800)
theorem scRo : FnScope ["_law_purse_here", "_law_top", "_law_pool_here", "_law_words_here"] ["_law_purse_here", "_law_top"] (defScope sRowOf) := ⟨rfl, rfl, rfl, by decide +kernel, rfl, by decide +kernel, by decide +kernel⟩
theorem ok_row {f : Addr} {fd : FuncData} (F : Fun K "_law_row_of" "_law_row_of" sRowOf f fd) (T : Free2 mg) (CD : CDraw P w K mg base) (CP : CPool P w K mg base) (CW : CWorld P w K mg base) (CS : CShape P w K mg base) :
    FnOk P w K mg base CX0 6 f fd ["_law_purse_here", "_law_top"] (spRow (2 ^ 25) 1800) := by
  refine F.ok scRo (fun vs H Q E h => ?_) (fun cdv A outer s H vs Q E hr h => ?_)
  · obtain ⟨p, m, t, rfl, _⟩ := h; rfl
  · obtain ⟨p, top', t, rfl, hp, m3, m6, t1, k⟩ := h
    refine ⟨_, pss_cons (ps_set (i := 2) scRo.nd rfl (Or.inl rfl) (pe_cal CP (hr.mono (by decide)) rfl (pa_cons (pv 0) pa_nil)))
      (pss_cons (ps_if (pt_cmpR op_eq (pe_cal CD (hr.mono (by decide)) rfl (pa_cons (pv 0) (pa_cons pe_int pa_nil))) pe_int (nomark _))
        (pss_one (ps_ret (pe_lst (pa_cons (pe_cal CW (hr.mono (by decide)) rfl (pa_cons (pv 0) (pa_cons (pe_op op_add pe_int (pe_cal CD (hr.mono (by decide)) rfl (pa_cons (pv 0) (pa_cons (pv 1) pa_nil)))) (pa_cons (pe_slice sl_list (pv 2) po_none (po_some pe_int)) (pa_cons pe_int pa_nil))))) (pa_cons (pe_slice sl_list (pv 2) po_none (po_some pe_int)) pa_nil))))) pss_nil)
      (pss_cons (ps_set (i := 3) scRo.nd rfl (Or.inl rfl) (pe_slice sl_list (pv 2) po_none (po_some (pe_op op_add pe_int (pe_cal CD (hr.mono (by decide)) rfl (pa_cons (pv 0) (pa_cons (pe_callB (call_min2 rfl) (by rfl) T.min (by decide +kernel) (pa_cons pe_int (pa_cons (pe_callB call_len_seq (by rfl) T.len PySem.boot_len (pa_cons (pv 2) pa_nil)) pa_nil))) pa_nil)))))))
      (pss_cons (ps_if (PW.pt (pw_and (pt_cmpR op_gt (pe_callB call_len_seq (by rfl) T.len PySem.boot_len (pa_cons (pv 3) pa_nil)) pe_int (nomark _)) (pw_and1 (pt_cmpR op_eq (pe_cal CD (hr.mono (by decide)) rfl (pa_cons (pv 0) (pa_cons pe_int pa_nil))) pe_int (nomark _)))))
        (pss_one (ps_ret (pe_lst (pa_cons (pe_cal CS (hr.mono (by decide)) rfl (pa_cons (pv 0) (pa_cons (pv 3) pa_nil))) (pa_cons (pv 3) pa_nil))))) pss_nil)
      (pss_one (ps_ret (pe_lst (pa_cons (pe_cal CW (hr.mono (by decide)) rfl (pa_cons (pv 0) (pa_cons (pe_op op_add pe_int (pe_cal CD (hr.mono (by decide)) rfl (pa_cons (pv 0) (pa_cons (pv 1) pa_nil)))) (pa_cons (pv 3) (pa_cons pe_int pa_nil))))) (pa_cons (pv 3) pa_nil)))))))), ?_⟩
    refine ⟨_, rfl, p, t, rfl, hp, by omega, fun H1 L ps t1 b1 hL hLL lp nd aw hp1 tt1 => ?_⟩
    have nL := hp.ne hL
    refine ⟨_, rfl, p, 8, t1, rfl, hp1, by decide, by decide, by omega, fun r t2 o r0 r1 tt2 hp2 => ?_⟩
    have b2 := b1.trans (But.upd p H1 o)
    have hL2 : SL (L2.upd H1 p o) L ps := by rw [SL, upd_ne nL]; exact hLL
    generalize L2.upd H1 p o = H2 at b2 hL2 hp2
    refine ⟨rfl, _, rfl, ?_⟩
    refine ite2 (fun _ => ?_) (fun _ => ?_)
    · refine ⟨_, rfl, _, rfl, _, rfl, p, top', t2, rfl, hp2, by omega, by omega, by omega, fun r3 t3 o3 r30 r31 tt3 hp3 => ?_⟩
      have b3 := b2.trans (But.upd p H2 o3)
      have hL3 : SL (L2.upd H2 p o3) L ps := by rw [SL, upd_ne nL]; exact hL2
      generalize L2.upd H2 p o3 = H3 at b3 hL3 hp3
      refine ⟨_, _, rfl, rfl, _, rfl, _, rfl, L, _, rfl, hL3.sq, fun q hq => ?_⟩
      rw [cutV_map, cutL_to _ (by decide)]
      have wok := ws_take lp nd aw (k := (6 : Int).toNat) (by decide)
      refine ⟨p, q, ps.take (6 : Int).toNat, 1 + r3, 6, t3, rfl, hp3.new hq, upd_same, hp3.ne hq, wok, by omega, by omega, by decide, by decide, by omega, fun H4 W bk st t4 b4 hW0 hW wf hp4 tt4 => ?_⟩
      have hL4 : SL H4 L ps := b4 _ _ nL (hL3.new hq)
      have b04 := (b3.newt hq).trans b4
      refine ⟨_, rfl, _, rfl, L, _, rfl, hL4.sq, fun q2 hq2 => ?_⟩
      rw [cutV_map, cutL_to _ (by decide)]
      refine ⟨by show 2 ≤ sizeLine; decide, fun R hR => ?_⟩
      exact k _ R bk st _ t4 ((b04.newt hq2).newt hR) (rich_new hR ((hp4.new hq2).ne hR) (hW.same (cut_new hq2)) upd_same (hp4.ne hq2)) wf wok ((hp4.new hq2).new hR) (by omega)
    · refine ⟨_, rfl, _, rfl, _, rfl, L, _, rfl, .inl hL2.sq, 5, _, rfl, ?_⟩
      rw [List.length_map, lp]
      refine ⟨p, 5, t2, rfl, hp2, by decide, by decide, by omega, fun r3 t3 o3 r30 r31 tt3 hp3 => ?_⟩
      have b3 := b2.trans (But.upd p H2 o3)
      have hL3 : SL (L2.upd H2 p o3) L ps := by rw [SL, upd_ne nL]; exact hL2
      generalize L2.upd H2 p o3 = H3 at b3 hL3 hp3
      refine ⟨_, _, rfl, rfl, _, rfl, L, _, rfl, hL3.sq, fun q hq => ?_⟩
      rw [cutV_map, cutL_to _ (by omega)]
      have wok := ws_take lp nd aw (k := (1 + r3).toNat) (by omega)
      generalize ps.take (1 + r3).toNat = ws at wok
      have hq3 : SL (L2.upd H3 q (.lst (ws.map V.str))) q ws := upd_same
      have hp4 := hp3.new (o := .lst (ws.map V.str)) hq
      have b4 := b3.newt (o := .lst (ws.map V.str)) hq
      have nq := hp3.ne hq
      generalize L2.upd H3 q (.lst (ws.map V.str)) = H4 at hq3 hp4 b4
      refine ⟨_, rfl, q, _, rfl, .inl hq3.sq, _, _, rfl, rfl, _, rfl, ?_⟩
      rw [List.length_map]
      refine ite2 (fun c => ?_) (fun c => ?_)
      · refine ⟨_, rfl, p, 3, t3, rfl, hp4, by decide, by decide, by omega, fun r5 t5 o5 r50 r51 tt5 hp5 => ?_⟩
        have b5 := b4.trans (But.upd p H4 o5)
        have hq5 : SL (L2.upd H4 p o5) q ws := by rw [SL, upd_ne nq]; exact hq3
        generalize L2.upd H4 p o5 = H5 at b5 hq5 hp5
        refine ⟨rfl, _, rfl, ?_⟩
        refine ite2 (fun c2 => ?_) (fun c2 => ?_)
        · have c' := of_decide_eq_true c
          refine ⟨_, rfl, _, rfl, p, q, ws, t5, rfl, hp5, hq5, nq, wok, by omega, by omega, fun H6 W bk st t6 b6 hW0 hW wf hp6 tt6 => ?_⟩
          have hq6 : SL H6 q ws := b6 _ _ nq hq5
          refine ⟨_, rfl, by show 2 ≤ sizeLine; decide, fun R hR => ?_⟩
          exact k _ R bk st _ t6 ((b5.trans b6).newt hR) (rich_new hR (hp6.ne hR) hW hq6 nq) wf wok (hp6.new hR) (by omega)
        · refine ⟨_, rfl, _, rfl, _, rfl, p, top', t5, rfl, hp5, by omega, by omega, by omega, fun r7 t7 o7 r70 r71 tt7 hp7 => ?_⟩
          have b7 := b5.trans (But.upd p H5 o7)
          have hq7 : SL (L2.upd H5 p o7) q ws := by rw [SL, upd_ne nq]; exact hq5
          generalize L2.upd H5 p o7 = H7 at b7 hq7 hp7
          refine ⟨_, _, rfl, rfl, _, rfl, p, q, ws, 1 + r7, 3, t7, rfl, hp7, hq7, nq, wok, by omega, by omega, by decide, by decide, by omega, fun H8 W bk st t8 b8 hW0 hW wf hp8 tt8 => ?_⟩
          have hq8 : SL H8 q ws := b8 _ _ nq hq7
          refine ⟨_, rfl, by show 2 ≤ sizeLine; decide, fun R hR => ?_⟩
          exact k _ R bk st _ t8 ((b7.trans b8).newt hR) (rich_new hR (hp8.ne hR) hW hq8 nq) wf wok (hp8.new hR) (by omega)
      · refine ⟨_, rfl, _, rfl, _, rfl, p, top', t3, rfl, hp4, by omega, by omega, by omega, fun r7 t7 o7 r70 r71 tt7 hp7 => ?_⟩
        have b7 := b4.trans (But.upd p H4 o7)
        have hq7 : SL (L2.upd H4 p o7) q ws := by rw [SL, upd_ne nq]; exact hq3
        generalize L2.upd H4 p o7 = H7 at b7 hq7 hp7
        refine ⟨_, _, rfl, rfl, _, rfl, p, q, ws, 1 + r7, 3, t7, rfl, hp7, hq7, nq, wok, by omega, by omega, by decide, by decide, by omega, fun H8 W bk st t8 b8 hW0 hW wf hp8 tt8 => ?_⟩
        have hq8 : SL H8 q ws := b8 _ _ nq hq7
        refine ⟨_, rfl, by show 2 ≤ sizeLine; decide, fun R hR => ?_⟩
        exact k _ R bk st _ t8 ((b7.trans b8).newt hR) (rich_new hR (hp8.ne hR) hW hq8 nq) wf wok (hp8.new hR) (by omega)
end
end D1
end L2
namespace L2
namespace D1
open PySem PySem.Spec PyProof.Rows
abbrev sIsName : Stmt := top 3
abbrev sIsRow : Stmt := top 4
abbrev sIsState : Stmt := top 5
/-- the names of built-in classes, and the two numbers of forms -/
structure Free3 (mg : Str → Option Value) : Prop extends Free2 mg where
  lets : ∃ t, mg "LETTERS" = some (.str abc t)
  most : ∃ t, mg "MOST_LETTERS" = some (.int 8 t)
def spIsName : Sp := fun vs H Q _ => ∃ x : Str, vs = [.str x] ∧ Wd x ∧ ∀ H', Same H H' → Q (.bl true) H'
def spIsState : Sp := fun vs H Q _ => ∃ (b : Addr) (kvs : List (Key × V)) (x : Str), vs = [.ref b, .str x] ∧ Rd H b (.dK kvs) ∧ (valV kvs (.inr x)).isSome = true ∧ Q (.bl true) H
/-- a row by its form -/
def RForm (k : Str) (ts : List (Str × Str)) : Prop := (k = "done" ∧ ts = []) ∨ ((k = "says" ∨ k = "hears") ∧ ts ≠ [] ∧ ts.length ≤ 1000 ∧ ∀ t ∈ ts, Wd t.1 ∧ Wd t.2)
def spIsRow : Sp := fun vs H Q _ => ∃ (v : V) (k : Str) (ts : List (Str × Str)), vs = [v] ∧ RowAt H v k ts ∧ RForm k ts ∧ ∀ H', Same H H' → Q (.bl true) H'
theorem Same.unlock {H H' : Hp} {b : Addr} {u f : HO} (e : H b = some u) (s : Same (L2.upd H b f) H') : Same H (L2.upd H' b u) := fun c o ec => by
  by_cases h : c = b
  · rw [h] at ec ⊢; rw [upd_same, ← ec, e]
  · rw [upd_ne h]; exact s _ _ (by rw [upd_ne h]; exact ec)
theorem all_true (n : Nat) : (List.replicate n true).all id = true := by
  induction n with
  | zero => rfl
  | succ n ih => rw [List.replicate_succ, List.all_cons, ih]; rfl
theorem repl_snoc (n : Nat) : (List.replicate n true).map V.bl ++ [V.bl true] = (List.replicate (n + 1) true).map V.bl := by
  rw [List.replicate_succ', List.map_append]; rfl
section
variable {P : Program} {w : World} {K : PySem.W.Frag} {mg : Str → Option Value} {base : Heap}
abbrev CIsName (P : Program) (w : World) (K : PySem.W.Frag) (mg : Str → Option Value) (base : Heap) := Cal P w K mg base "is_name" 1 ["value"] spIsName
theorem scIn : FnScope ["value", "letter"] ["value"] (defScope sIsName) := ⟨rfl, rfl, rfl, by decide +kernel, rfl, by decide +kernel, by decide +kernel⟩
theorem ok_isname {f : Addr} {fd : FuncData} (F : Fun K "is_name" "is_name" sIsName f fd) (T : Free3 mg) : FnOk P w K mg base CX0 1 f fd ["value"] spIsName := by
  obtain ⟨tL, eL⟩ := T.lets
  obtain ⟨tM, eM⟩ := T.most
  refine F.ok scIn (fun vs H Q E h => ?_) (fun cdv A outer s H vs Q E hr h => ?_)
  · obtain ⟨x, rfl, _⟩ := h; rfl
  · obtain ⟨x, rfl, wx, k⟩ := h
    refine ⟨_, pss_cons (ps_if (PW.pt (pw_or (pt_not (pt_val (pe_callB call_isi (by rfl) T.isi (by decide +kernel) (pa_cons (pv 0) (pa_cons (pe_bltn (v := .ty "str") rfl T.str (by decide +kernel) rfl) pa_nil))))) (pw_or1 (pt_not (pt_chain op_le op_le pe_int (pe_callB call_len_str (by rfl) T.len PySem.boot_len (pa_cons (pv 0) pa_nil)) (pe_glob (v := .int 8) rfl eM ⟨_, rfl⟩)))))) (pss_one (ps_ret pe_bl)) pss_nil)
      (pss_one (ps_ret (pe_callB (cr_all rfl) (by rfl) T.all (by decide +kernel) (pa_cons (pe_lc (own := [("letter", 1)]) (g := gName 1) (tt := tYes) rfl scIn.nd (pi_str (pv 0))
        (blkOk_by (N := ["value", "letter"]) (sc := defScope sIsName) (by decide +kernel)) (fun _ _ _ _ _ => pg_name (i := 1) scIn.nd rfl (Or.inl rfl)) (fun _ _ _ _ _ => pts_nil)
        (fun _ _ _ _ _ => pe_cmpR op_in_sign (pv 1) (pe_glob (v := .str abc) rfl eL ⟨_, rfl⟩) rfl)) pa_nil)))), ?_⟩
    have l1 := wx.lo
    have l2 := wx.hi
    refine ⟨_, rfl, _, .ty "str", .type "str", .type "str", true, rfl, .ty _, .base (.str _), kit_ty (by decide +kernel), _, rfl, ?_⟩
    refine iteF ?_
    refine ⟨_, rfl, x, rfl, by rw [sizeLine_eq]; omega, _, _, rfl, rfl, _, rfl, ?_⟩
    rw [decide_eq_true (show (1 : Int) ≤ x.length by omega)]
    refine iteT ⟨_, _, rfl, rfl, _, rfl, ?_⟩
    rw [decide_eq_true (show (x.length : Int) ≤ 8 by omega)]
    refine iteF ?_
    refine ⟨_, rfl, x, rfl, fun D hD => ?_⟩
    refine lc_it (walk_str (z := x)) (fun i H' => Same H H' ∧ H' D = some (.lst ((List.replicate i true).map V.bl))) ⟨Same.new hD, upd_same⟩ (fun _ _ _ _ => trivial) ?_ ?_
    · rintro i v H1 H2 hi ⟨sm, hl⟩ ⟨rfl, c, hc, rfl⟩
      refine ⟨rfl, ?_⟩
      dsimp only [tYes]
      rw [if_pos rfl]
      have hm : c ∈ tl x := by
        rw [tl, ← Array.getElem?_toList] at *
        exact List.mem_of_getElem? hc
      have hr' := wx.ok c hm
      have ha : ∀ c, 97 ≤ c → c ≤ 122 → c ∈ abc.cps.toList := by
        have h : ∀ j : Fin 26, (97 + j.val) ∈ abc.cps.toList := by decide +kernel
        intro c h1 h2
        have := h ⟨c - 97, by omega⟩
        rwa [show 97 + (c - 97) = c by omega] at this
      refine ⟨_, rfl, c, abc, rfl, rfl, _, hl, by rw [List.length_map, List.length_replicate, sizeLine_eq]; have : x.cps.size = x.length := rfl; omega, ?_, ?_⟩
      · intro b u e
        rw [upd_ne (ne_of_none e hD)]; exact sm _ _ e
      · rw [upd_same, decide_eq_true (ha c hr'.1 hr'.2), repl_snoc]
    · rintro H1 ⟨sm, hl⟩
      refine ⟨D, _, rfl, SqL.of hl, ?_⟩
      rw [all_true]
      exact k H1 sm
theorem scIst : FnScope ["book", "value"] ["book", "value"] (defScope sIsState) := ⟨rfl, rfl, rfl, by decide +kernel, rfl, by decide +kernel, by decide +kernel⟩
theorem ok_isstate {f : Addr} {fd : FuncData} (F : Fun K "is_state_of" "is_state_of" sIsState f fd) (T : Free3 mg) : FnOk P w K mg base CX0 1 f fd ["book", "value"] spIsState := by
  refine F.ok scIst (fun vs H Q E h => ?_) (fun cdv A outer s H vs Q E hr h => ?_)
  · obtain ⟨b, kvs, x, rfl, _⟩ := h; rfl
  · obtain ⟨b, kvs, x, rfl, hb, hx, k⟩ := h
    have hu := hu_of hr
    refine ⟨_, pss_one (ps_ret (pe_and (pe_callB call_isi (by rfl) T.isi (by decide +kernel) (pa_cons (pv 1) (pa_cons (pe_bltn (v := .ty "str") rfl T.str (by decide +kernel) rfl) pa_nil))) (pe_one (pe_cmp (pc_din hu (pv 1) (pv 0)) rfl)))), ?_⟩
    refine ⟨_, rfl, _, .ty "str", .type "str", .type "str", true, rfl, .ty _, .base (.str _), kit_ty (by decide +kernel), _, rfl, ?_⟩
    refine iteT ⟨_, rfl, _, rfl, b, _, rfl, .inl ⟨kvs, .inr x, hb, rfl, rfl⟩, ?_⟩
    rw [hx]
    exact k
abbrev CIsRow (P : Program) (w : World) (K : PySem.W.Frag) (mg : Str → Option Value) (base : Heap) := Cal P w K mg base "is_row" 2 ["value"] spIsRow
theorem scIr : FnScope ["value", "kind", "turns", "word", "goal"] ["value"] (defScope sIsRow) := ⟨rfl, rfl, rfl, by decide +kernel, rfl, by decide +kernel, by decide +kernel⟩
theorem ok_isrow {f : Addr} {fd : FuncData} (F : Fun K "is_row" "is_row" sIsRow f fd) (T : Free3 mg) (CN : CIsName P w K mg base) : FnOk P w K mg base CX0 2 f fd ["value"] spIsRow := by
  refine F.ok scIr (fun vs H Q E h => ?_) (fun cdv A outer s H vs Q E hr h => ?_)
  · obtain ⟨v, k, ts, rfl, _⟩ := h; rfl
  · obtain ⟨v, kd, ts, rfl, ⟨t, a, rfl, ht, ha⟩, rf, k⟩ := h
    have hu := hu_of hr
    refine ⟨_, pss_cons (ps_if (PW.pt (pw_or (pt_not (pt_val (pe_callB call_isi (by rfl) T.isi (by decide +kernel) (pa_cons (pv 0) (pa_cons (pe_bltn (v := .ty "tuple") rfl T.tuple (by decide +kernel) rfl) pa_nil))))) (pw_or1 (pt_cmpR op_ne (pe_callB call_len_seq (by rfl) T.len PySem.boot_len (pa_cons (pv 0) pa_nil)) pe_int (nomark _))))) (pss_one (ps_ret pe_bl)) pss_nil)
      (pss_cons (ps_asg (pv 0) (pg_tup rfl (pgs_cons (pg_name (i := 1) scIr.nd rfl (Or.inl rfl)) (pgs_cons (pg_name (i := 2) scIr.nd rfl (Or.inl rfl)) pgs_nil))))
      (pss_cons (ps_if (pt_not (pt_val (pe_callB call_isi (by rfl) T.isi (by decide +kernel) (pa_cons (pv 2) (pa_cons (pe_bltn (v := .ty "dict") rfl T.dict (by decide +kernel) rfl) pa_nil))))) (pss_one (ps_ret pe_bl)) pss_nil)
      (pss_cons (ps_if (pt_cmpR op_eq (pv 1) pe_str (nomark _)) (pss_one (ps_ret (pe_cmpR op_eq (pe_callB call_lenD (by rfl) T.len PySem.boot_len (pa_cons (pv 2) pa_nil)) pe_int (nomark _)))) pss_nil)
      (pss_cons (ps_if (PW.pt (pw_and (pt_cmpR op_ne (pv 1) pe_str (nomark _)) (pw_and1 (pt_cmpR op_ne (pv 1) pe_str (nomark _))))) (pss_one (ps_ret pe_bl)) pss_nil)
      (pss_one (ps_ret (pe_and (pe_cmpR op_gt (pe_callB call_lenD (by rfl) T.len PySem.boot_len (pa_cons (pv 2) pa_nil)) pe_int (nomark _)) (pe_one (pe_callB (cr_all rfl) (by rfl) T.all (by decide +kernel) (pa_cons (pe_lock (pe_lc (own := [("word", 3), ("goal", 4)]) (g := gTup K 2 (gCons (gName 3) (gCons (gName 4) gNil))) (tt := tYes) rfl scIr.nd (pi_items (pv 2))
        (blkOk_by (N := ["value", "kind", "turns", "word", "goal"]) (sc := defScope sIsRow) (by decide +kernel)) (fun _ _ _ _ _ => pg_tup rfl (pgs_cons (pg_name (i := 3) scIr.nd rfl (Or.inl rfl)) (pgs_cons (pg_name (i := 4) scIr.nd rfl (Or.inl rfl)) pgs_nil))) (fun _ _ _ _ _ => pts_nil)
        (fun _ _ _ _ _ => pe_and (pe_cal CN (hr.mono (by decide)) rfl (pa_cons (pv 3) pa_nil)) (pe_one (pe_cal CN (hr.mono (by decide)) rfl (pa_cons (pv 4) pa_nil)))))) pa_nil)))))))))), ?_⟩
    refine ⟨_, rfl, _, .ty "tuple", .type "tuple", .type "tuple", true, rfl, .ty _, .base (.tup ht), kit_ty (by decide +kernel), _, rfl, ?_⟩
    refine iteF ⟨_, rfl, t, _, rfl, .inr (SqT.of ht), ?_⟩
    refine ⟨rfl, _, rfl, ?_⟩
    refine iteF ⟨_, rfl, t, _, rfl, SqT.of ht, rfl, _, _, rfl, _, _, rfl, rfl, ?_⟩
    refine ⟨_, rfl, _, .ty "dict", .type "dict", .type "dict", true, rfl, .ty _, .base (.dK ha), kit_ty (by decide +kernel), _, rfl, ?_⟩
    refine iteF ⟨_, rfl, rfl, _, rfl, ?_⟩
    rcases rf with ⟨rfl, rfl⟩ | ⟨hk, ne, ll, aw⟩
    · refine iteT ⟨_, rfl, a, [], rfl, ha, rfl, ?_⟩
      exact k H (Same.refl H)
    · have nk : (decide (V.str kd = V.str "done")) = false := by
        refine decide_eq_false fun e => ?_
        have e : kd = "done" := by injection e
        rcases hk with h | h <;> rw [h] at e <;> exact absurd e (by decide)
      rw [nk]
      refine iteF ⟨_, rfl, rfl, _, rfl, ?_⟩
      have bad : (!decide (V.str kd = V.str "says")) = true → (!decide (V.str kd = V.str "hears")) = true → False := fun c1 c2 => by
        rcases hk with h | h
        · rw [h] at c1; simp at c1
        · rw [h] at c2; simp at c2
      refine ite2 (fun c1 => ⟨_, rfl, rfl, _, rfl, ite2 (fun c2 => (bad c1 c2).elim) (fun _ => ?_)⟩) (fun _ => iteF ?_)
      all_goals
        refine ⟨_, rfl, a, _, rfl, ha, _, _, rfl, rfl, _, rfl, ?_⟩
        have lp : 0 < (kT ts).length := by rw [kT, List.length_map]; exact List.length_pos_iff.mpr ne
        rw [decide_eq_true (show (0 : Int) < ((kT ts).length : Int) by omega)]
        refine iteT ⟨a, _, ha, trivial, fun od => ?_⟩
        refine ⟨_, rfl, a, od, kT ts, rfl, upd_same, fun D hD => ?_⟩
        have nD : a ≠ D := fun e => by rw [← e, upd_same] at hD; cases hD
        have hD0 := upd_none' hD
        refine lc_it (walk_items (d := a) (o := od) (kvs := kT ts)) (fun i H' => Same (L2.upd H a (.frz od (.dK (kT ts)))) H' ∧ H' D = some (.lst ((List.replicate i true).map V.bl))) ⟨Same.new hD, upd_same⟩ (fun i H' _ z => z.1 _ _ upd_same) ?_ ?_
        · rintro i v H1 H2 hi ⟨sm, hl⟩ ⟨T1, x, y, rfl, hT1, rfl, ex, ey⟩
          have hi' : i < ts.length := by rw [kT, List.length_map] at hi; exact hi
          have hk1 : (kT ts)[i]? = some (.inr ts[i].1, .str ts[i].2) := by rw [kT, List.getElem?_map, List.getElem?_eq_getElem hi']; rfl
          dsimp only at ex ey
          rw [hk1] at ex ey
          cases ex; cases ey
          have hw := aw ts[i] (List.getElem_mem hi')
          have nTD : D ≠ T1 := ne_of_none hl hT1
          refine ⟨T1, _, rfl, SqT.of upd_same, rfl, _, _, rfl, _, _, rfl, rfl, rfl, ?_⟩
          dsimp only [tYes]
          rw [if_pos rfl]
          refine ⟨_, rfl, _, rfl, hw.1, fun H3 s3 => ⟨_, rfl, iteT ⟨_, rfl, _, rfl, hw.2, fun H4 s4 => ?_⟩⟩⟩
          refine ⟨_, s4 _ _ (s3 _ _ (by rw [upd_ne nTD]; exact hl)), by rw [List.length_map, List.length_replicate, sizeLine_eq]; omega, ?_, ?_⟩
          · intro b u e
            rw [upd_ne (ne_of_none e hD)]; exact s4 _ _ (s3 _ _ (Same.new hT1 _ _ (sm _ _ e)))
          · rw [upd_same, repl_snoc]
        · rintro H1 ⟨sm, hl⟩
          refine ⟨sm _ _ upd_same, D, _, rfl, SqL.of (by rw [upd_ne nD.symm]; exact hl), ?_⟩
          rw [all_true]
          exact k _ (Same.unlock ha sm)
end
end D1
end L2
namespace L2
namespace D1
open PySem PySem.Spec PyProof.Rows
def leC (a b : List Nat) : Prop := ltCps b a = false
theorem leC_trans : ∀ {a b c : List Nat}, leC a b → leC b c → leC a c
  | [], _, [], _, _ => rfl
  | [], _, _ :: _, _, _ => rfl
  | _ :: _, [], _, h, _ => by cases h
  | _ :: _, _ :: _, [], _, h => by cases h
  | x :: a, y :: b, z :: c, h1, h2 => by
    unfold leC at *
    unfold ltCps at *
    simp only [Bool.or_eq_false_iff, decide_eq_false_iff_not, Bool.and_eq_false_iff, beq_eq_false_iff_ne] at *
    obtain ⟨p1, q1⟩ := h1
    obtain ⟨p2, q2⟩ := h2
    refine ⟨by omega, ?_⟩
    by_cases e : z = x
    · right
      have e1 : y = x := by omega
      have e2 : z = y := by omega
      have r1 := q1.resolve_left fun n => n e1
      have r2 := q2.resolve_left fun n => n e2
      exact leC_trans (a := a) (b := b) (c := c) r1 r2
    · exact .inl e
theorem leC_anti : ∀ {a b : List Nat}, leC a b → leC b a → a = b
  | [], [], _, _ => rfl
  | [], _ :: _, _, h => by cases h
  | _ :: _, [], h, _ => by cases h
  | x :: a, y :: b, h1, h2 => by
    unfold leC at *
    unfold ltCps at *
    simp only [Bool.or_eq_false_iff, decide_eq_false_iff_not, Bool.and_eq_false_iff, beq_eq_false_iff_ne] at *
    have e : x = y := by omega
    have r1 := h1.2.resolve_left fun n => n e.symm
    have r2 := h2.2.resolve_left fun n => n e
    rw [e, leC_anti (a := a) (b := b) r1 r2]
theorem leC_total : ∀ (a b : List Nat), leC a b ∨ leC b a
  | [], [] => .inl rfl
  | [], _ :: _ => .inl rfl
  | _ :: _, [] => .inr rfl
  | x :: a, y :: b => by
    unfold leC
    unfold ltCps
    simp only [Bool.or_eq_false_iff, decide_eq_false_iff_not, Bool.and_eq_false_iff, beq_eq_false_iff_ne]
    rcases Nat.lt_trichotomy x y with h | h | h
    · exact .inl ⟨by omega, .inl (by omega)⟩
    · rcases leC_total a b with r | r
      · exact .inl ⟨by omega, .inr r⟩
      · exact .inr ⟨by omega, .inr r⟩
    · exact .inr ⟨by omega, .inl (by omega)⟩
def leS (x y : Str) : Prop := leC (tl x) (tl y)
theorem rising_pw : ∀ (l : List Str) (p : Str), risingS p l = true → (p :: l).Pairwise leS
  | [], p, _ => List.pairwise_singleton _ _
  | x :: r, p, h => by
    unfold risingS at h
    rw [Bool.and_eq_true, Bool.not_eq_true'] at h
    have ih := rising_pw r x h.2
    refine List.pairwise_cons.mpr ⟨fun y hy => ?_, ih⟩
    rcases List.mem_cons.mp hy with e | e
    · rw [e]; exact h.1
    · exact leC_trans (show leC (tl p) (tl x) from h.1) ((List.pairwise_cons.mp ih).1 y e)
theorem sorted_pw : ∀ {l : List Str}, sortedS l = true → l.Pairwise leS
  | [], _ => List.Pairwise.nil
  | x :: r, h => rising_pw r x h
theorem pw_unique : ∀ {ys zs : List Str}, ys.Perm zs → ys.Pairwise leS → zs.Pairwise leS → ys = zs
  | [], zs, p, _, _ => (List.nil_perm.mp p).symm
  | y :: r, [], p, _, _ => by have := p.length_eq; simp at this
  | y :: r, z :: s, p, h1, h2 => by
    have e : y = z := by
      rcases List.mem_cons.mp (p.mem_iff.mp List.mem_cons_self) with e | e
      · exact e
      · rcases List.mem_cons.mp (p.mem_iff.mpr List.mem_cons_self) with e2 | e2
        · exact e2.symm
        · exact tl_ext (leC_anti ((List.pairwise_cons.mp h1).1 z e2) ((List.pairwise_cons.mp h2).1 y e))
    subst e
    rw [pw_unique (List.Perm.cons_inv p) (List.pairwise_cons.mp h1).2 (List.pairwise_cons.mp h2).2]
instance (x y : Str) : Decidable (leS x y) := inferInstanceAs (Decidable (_ = false))
def insS (x : Str) : List Str → List Str
  | [] => [x]
  | y :: r => if leS x y then x :: y :: r else y :: insS x r
def srt : List Str → List Str
  | [] => []
  | x :: r => insS x (srt r)
theorem ins_perm (x : Str) : ∀ l : List Str, (insS x l).Perm (x :: l)
  | [] => List.Perm.refl _
  | y :: r => by
    unfold insS
    split
    · exact List.Perm.refl _
    · exact ((ins_perm x r).cons y).trans (List.Perm.swap x y r)
theorem srt_perm : ∀ l : List Str, (srt l).Perm l
  | [] => List.Perm.refl _
  | x :: r => (ins_perm x (srt r)).trans ((srt_perm r).cons x)
theorem ins_pw (x : Str) : ∀ {l : List Str}, l.Pairwise leS → (insS x l).Pairwise leS
  | [], _ => List.pairwise_singleton _ _
  | y :: r, h => by
    unfold insS
    split
    · rename_i c
      refine List.pairwise_cons.mpr ⟨fun z hz => ?_, h⟩
      rcases List.mem_cons.mp hz with e | e
      · rw [e]; exact c
      · exact leC_trans c ((List.pairwise_cons.mp h).1 z e)
    · rename_i c
      have hy : leS y x := (leC_total (tl x) (tl y)).resolve_left c
      refine List.pairwise_cons.mpr ⟨fun z hz => ?_, ins_pw x (List.pairwise_cons.mp h).2⟩
      rcases List.mem_cons.mp ((ins_perm x r).mem_iff.mp hz) with e | e
      · rw [e]; exact hy
      · exact (List.pairwise_cons.mp h).1 z e
theorem srt_pw : ∀ l : List Str, (srt l).Pairwise leS
  | [] => List.Pairwise.nil
  | x :: r => ins_pw x (srt_pw r)
theorem srt_of {ys ks : List Str} (p : ys.Perm ks) (s : sortedS ys = true) : ys = srt ks := pw_unique (p.trans (srt_perm ks).symm) (sorted_pw s) (srt_pw ks)
theorem srt_congr {ks ls : List Str} (p : ks.Perm ls) : srt ks = srt ls := pw_unique ((srt_perm ks).trans (p.trans (srt_perm ls).symm)) (srt_pw ks) (srt_pw ls)
/-- the goal of a word -/
def goalT (ts : List (Str × Str)) (k : Str) : Str := ((ts.find? fun t => decide (t.1 = k)).map (·.2)).getD ""
def ordT (ts : List (Str × Str)) : List (Str × Str) := (srt (ts.map (·.1))).map fun k => (k, goalT ts k)
theorem valV_kT (ts : List (Str × Str)) (k : Str) : valV (kT ts) (.inr k) = (ts.find? fun t => decide (t.1 = k)).map fun t => V.str t.2 := by
  induction ts with
  | nil => rfl
  | cons a r ih =>
    rw [List.find?_cons]
    by_cases h : a.1 = k
    · rw [show valV (kT (a :: r)) (.inr k) = some (V.str a.2) from valV_pos (p := (Sum.inr a.1, V.str a.2)) (congrArg _ h), decide_eq_true h]; rfl
    · rw [show valV (kT (a :: r)) (.inr k) = valV (kT r) (.inr k) from valV_neg (p := (Sum.inr a.1, V.str a.2)) (fun e => h (Sum.inr.inj e)), decide_eq_false h, ih]
theorem find_some {ts : List (Str × Str)} {k : Str} (h : k ∈ ts.map (·.1)) : ∃ t, (ts.find? fun t => decide (t.1 = k)) = some t ∧ t.1 = k ∧ t ∈ ts := by
  obtain ⟨t, ht, e⟩ := List.mem_map.mp h
  cases z : ts.find? fun t => decide (t.1 = k) with
  | none => exact absurd (decide_eq_true e) (List.find?_eq_none.mp z t ht)
  | some u =>
    have e1 := List.find?_some z
    exact ⟨u, rfl, of_decide_eq_true e1, List.mem_of_find?_eq_some z⟩
theorem valV_goal {ts : List (Str × Str)} {k : Str} (h : k ∈ ts.map (·.1)) : valV (kT ts) (.inr k) = some (.str (goalT ts k)) := by
  obtain ⟨t, e, _⟩ := find_some h
  rw [valV_kT, goalT, e]; rfl
theorem ordT_keys (ts : List (Str × Str)) : (ordT ts).map (·.1) = srt (ts.map (·.1)) := by
  rw [ordT, List.map_map]
  exact List.map_id'' (fun _ => rfl) _
/-- a dict comprehension over a walk -/
theorem dc_it {J : It} {n : Nat} {G : Hp → Prop} {Y : Nat → Hp → V → Hp → Prop} (w : Walk J n G Y) {g : TG} {tt : TT} {tk tv : TE} {vs : List Nat} {σ : L2.St} {H1 : Hp} {D : Addr} {Qd : Hp → Prop} (Pv : Nat → Hp → Prop) (h0 : Pv 0 (L2.upd H1 D (.dK []))) (hG : ∀ i H, i ≤ n → Pv i H → G H)
    (hs : ∀ i x H H', i < n → Pv i H → Y i H x H' → g x (wipe σ vs) H' fun σ2 H2 => wipe σ2 vs = wipe σ vs ∧ tt σ2 H2 fun b H3 =>
      if b = true then tk σ2 H3 fun y H4 => tv σ2 H4 fun z H5 => ∃ kvs k, y = kV k ∧ H5 D = some (.dK kvs) ∧ kvs.length < sizeLine ∧ Pv (i + 1) (L2.upd H5 D (.dK (putK kvs k z))) else Pv (i + 1) H3) (hd : ∀ H, Pv n H → Qd H) :
    ∃ W : Nat → Nat → Hp → Prop, (∃ m, W 0 m (L2.upd H1 D (.dK []))) ∧ ∀ i m H, W i m H →
      (J.stop i H ∧ Qd H) ∨ (J.go i H ∧ ∃ Nx : Hp → Prop, (∀ H', Nx H' → ∃ m', m' < m ∧ W (i + 1) m' H') ∧ ∀ x H', J.yld i H x H' → g x (wipe σ vs) H' fun σ2 H2 => wipe σ2 vs = wipe σ vs ∧ tt σ2 H2 fun b H3 =>
        if b = true then tk σ2 H3 fun y H4 => tv σ2 H4 fun z H5 => ∃ kvs k, y = kV k ∧ H5 D = some (.dK kvs) ∧ kvs.length < sizeLine ∧ Nx (L2.upd H5 D (.dK (putK kvs k z))) else Nx H3) := by
  refine ⟨fun i m H => m = n - i ∧ i ≤ n ∧ Pv i H, ⟨n, by simp, Nat.zero_le _, h0⟩, ?_⟩
  rintro i m H ⟨rfl, hi, p⟩
  have q := hG i H hi p
  by_cases hlt : i < n
  · refine .inr ⟨w.goes i H hlt q, Pv (i + 1), fun H' p' => ⟨n - (i + 1), by omega, rfl, hlt, p'⟩, fun x H' y => hs i x H H' hlt p (w.yields i H x H' hlt q y)⟩
  · have e : i = n := by omega
    subst e
    exact .inl ⟨w.stops H q, hd H p⟩
/-- a book's row -/
def rowOf (bk : Bk) (s : Str) : Str × List (Str × Str) := ((bk.find? fun r => decide (r.1 = s)).map (·.2)).getD ("", [])
def ordB (bk : Bk) : Bk := (srt (bk.map (·.1))).map fun s => (s, (rowOf bk s).1, ordT (rowOf bk s).2)
theorem Rows.look {H : Hp} {kvs : List (Key × V)} {bk : Bk} {s : Str} (h : Rows H kvs bk) (m : s ∈ bk.map (·.1)) : ∃ v, valV kvs (.inr s) = some v ∧ RowAt H v (rowOf bk s).1 (rowOf bk s).2 ∧ (s, rowOf bk s) ∈ bk := by
  unfold Rows at h
  induction h with
  | nil => cases m
  | @cons a r kvs bk h1 _ ih =>
    by_cases e : r.1 = s
    · refine ⟨a.2, valV_pos (by rw [h1.1, e]), ?_, ?_⟩
      · rw [rowOf, List.find?_cons, decide_eq_true e]; exact h1.2
      · rw [rowOf, List.find?_cons, decide_eq_true e, ← e]; exact List.mem_cons_self
    · have m' : s ∈ bk.map (·.1) := by
        rcases List.mem_cons.mp m with z | z
        · exact absurd z.symm e
        · exact z
      obtain ⟨v, h2, h3, h4⟩ := ih m'
      have er : rowOf (r :: bk) s = rowOf bk s := by rw [rowOf, List.find?_cons, decide_eq_false e]; rfl
      refine ⟨v, by rw [valV_neg (by rw [h1.1]; exact fun z => e (Sum.inr.inj z))]; exact h2, by rw [er]; exact h3, by rw [er]; exact List.mem_cons_of_mem _ h4⟩
/-- what is new in H' -/
def newH (H H' : Hp) : Hp := fun a => if (H a).isSome then none else H' a
theorem new_out {H H' : Hp} {a : Addr} (n : H a = none) : newH H H' a = H' a := by unfold newH; rw [n]; rfl
theorem new_some {H H' : Hp} {a : Addr} {o : HO} (e : newH H H' a = some o) : H a = none ∧ H' a = some o := by
  unfold newH at e
  cases h : H a with
  | none => rw [h] at e; exact ⟨rfl, e⟩
  | some u => rw [h] at e; cases e
theorem new_le {H H' : Hp} : Same (newH H H') H' := fun _ _ e => (new_some e).2
theorem new_same {H H1 H2 : Hp} (s : Same H1 H2) : Same (newH H H1) (newH H H2) := fun _ _ e => let ⟨n, e⟩ := new_some e; by rw [new_out n]; exact s _ _ e
theorem new_mono {H Hq H' : Hp} (s : Same H Hq) : Same (newH Hq H') (newH H H') := fun a _ e => by
  obtain ⟨n, e⟩ := new_some e
  have n2 : H a = none := by
    cases h : H a with
    | none => rfl
    | some u => rw [s _ _ h] at n; cases n
  rw [new_out n2]; exact e
theorem cut_new_upd {H X : Hp} {D : Addr} {o : HO} : cut [D] (newH H (L2.upd X D o)) = cut [D] (newH H X) := by
  funext a
  by_cases h : a = D
  · rw [cut, cut, if_pos (List.mem_singleton.mpr h), if_pos (List.mem_singleton.mpr h)]
  · have e : newH H (L2.upd X D o) a = newH H X a := by unfold newH; rw [upd_ne h]
    rw [cut_out (by simpa using h), cut_out (by simpa using h), e]
/-- a book that may stand locked -/
def BookR (H : Hp) (b : Addr) (bk : Bk) : Prop := ∃ kvs, Rd H b (.dK kvs) ∧ Rows H kvs bk
theorem rd_same {H H' : Hp} {a : Addr} {o : HO} (h : Rd H a o) (s : Same H H') : Rd H' a o := by
  rcases h with h | ⟨od, h⟩
  · exact .inl (s _ _ h)
  · exact .inr ⟨od, s _ _ h⟩
theorem BookAt.r {H : Hp} {b : Addr} {bk : Bk} (h : BookAt H b bk) : BookR H b bk := let ⟨kvs, e, r⟩ := h; ⟨kvs, .inl e, r⟩
theorem BookR.same {H H' : Hp} {b : Addr} {bk : Bk} (h : BookR H b bk) (s : Same H H') : BookR H' b bk := let ⟨kvs, e, r⟩ := h; ⟨kvs, rd_same e s, r.same s⟩
abbrev sOrdT : Stmt := top 18
abbrev sOrdB : Stmt := top 19
def spOrdT : Sp := fun vs H Q _ => ∃ (a : Addr) (ts : List (Str × Str)), vs = [.ref a] ∧ TurnsAt H a ts ∧ (ts.map (·.1)).Nodup ∧ ts.length < 64 ∧ ∀ H' R, Same H H' → H R = none → TurnsAt H' R (ordT ts) → Q (.ref R) H'
/-- a book that may be put in order -/
structure BOk (bk : Bk) : Prop where
  nd : (bk.map (·.1)).Nodup
  len : bk.length < 64
  rs : ∀ r ∈ bk, (r.2.2.map (·.1)).Nodup ∧ r.2.2.length < 64
def spOrdB : Sp := fun vs H Q _ => ∃ (b : Addr) (bk : Bk), vs = [.ref b] ∧ BookR H b bk ∧ BOk bk ∧ ∀ H' R, Same H H' → H R = none → BookAt (newH H H') R (ordB bk) → Q (.ref R) H'
section
variable {P : Program} {w : World} {K : PySem.W.Frag} {mg : Str → Option Value} {base : Heap}
theorem scOt : FnScope ["turns", "word"] ["turns"] (defScope sOrdT) := ⟨rfl, rfl, rfl, by decide +kernel, rfl, by decide +kernel, by decide +kernel⟩
theorem ok_ordT {f : Addr} {fd : FuncData} (F : Fun K "ordered_turns" "ordered_turns" sOrdT f fd) (T : Free3 mg) : FnOk P w K mg base CX0 1 f fd ["turns"] spOrdT := by
  refine F.ok scOt (fun vs H Q E h => ?_) (fun cdv A outer s H vs Q E hr h => ?_)
  · obtain ⟨a, ts, rfl, _⟩ := h; rfl
  · obtain ⟨a, ts, rfl, ha, nd, l64, k⟩ := h
    have hu := hu_of hr
    refine ⟨_, pss_one (ps_ret (pe_dc (own := [("word", 1)]) (g := gName 1) (tt := tYes) (tk := tVar 1) (tv := tDGet (tVar 0) (tVar 1)) rfl scOt.nd (pi_list (pe_callB (call_sortedD rfl) (by rfl) T.sorted (by decide +kernel) (pa_cons (pv 0) pa_nil)))
        (blkOk_by (N := ["turns", "word"]) (sc := defScope sOrdT) (by decide +kernel)) (fun _ _ _ _ _ => pg_name (i := 1) scOt.nd rfl (Or.inl rfl)) (fun _ _ _ _ _ => pts_nil) (fun _ _ _ _ _ => pv 1) (fun _ _ _ _ _ => pe_dget hu (pv 0) (pv 1) (fun _ _ => rfl)))), ?_⟩
    have ek : (kT ts).map (·.1) = (ts.map (·.1)).map Sum.inr := by rw [kT, List.map_map, List.map_map]; rfl
    refine ⟨_, rfl, a, kT ts, ts.map (·.1), rfl, .inl ha, ek, by rw [List.length_map]; exact l64, fun ys q pm so hq => ?_⟩
    have ey := srt_of pm so
    have lq : ys.length < 64 := by rw [pm.length_eq, List.length_map]; exact l64
    have am : ∀ y ∈ ys, y ∈ ts.map (·.1) := fun y hy => pm.mem_iff.mp hy
    have ndy : ys.Nodup := pm.nodup_iff.mpr nd
    refine ⟨q, rfl, ⟨_, SqL.of upd_same⟩, fun D hD => ?_⟩
    have nqD : q ≠ D := fun e => by rw [← e, upd_same] at hD; cases hD
    have hD0 := upd_none' hD
    refine dc_it (walk_list (K := K) (a := q) (xs := ys.map V.str)) (fun i H' => Same H H' ∧ SL H' q ys ∧ TurnsAt H' D ((ys.take i).map fun k => (k, goalT ts k)))
      ⟨fun b u e => by rw [upd_ne (ne_of_none e hD0), upd_ne (ne_of_none e hq)]; exact e, by rw [SL, upd_ne nqD, upd_same], by rw [TurnsAt, upd_same]; rfl⟩ (fun i H' _ z => z.2.1.sq) ?_ ?_
    · rintro i v H1 H2 hi ⟨sm, hl, hT⟩ ⟨rfl, hx⟩
      obtain ⟨z, hz, rfl⟩ := get_map hx
      have hzm := am z (List.mem_of_getElem? hz)
      refine ⟨rfl, ?_⟩
      dsimp only [tYes]
      rw [if_pos rfl]
      have hn : (Sum.inr z : Key) ∉ (kT ((ys.take i).map fun k => (k, goalT ts k))).map (·.1) := fun hm => by
        obtain ⟨p1, hp1, e1⟩ := List.mem_map.mp hm
        obtain ⟨p2, hp2, e2⟩ := List.mem_map.mp hp1
        obtain ⟨p3, hp3, e3⟩ := List.mem_map.mp hp2
        subst e3; subst e2
        have e1 : p3 = z := Sum.inr.inj e1
        rw [e1] at hp3
        obtain ⟨m, hm1, hm2⟩ := List.mem_take_iff_getElem.mp hp3
        have h1 : ys[m]? = some z := by rw [List.getElem?_eq_getElem (by omega), hm2]
        have := (List.getElem?_inj (by omega) ndy).mp (h1.trans hz.symm)
        omega
      refine ⟨_, rfl, _, rfl, _, rfl, a, _, rfl, .inl ⟨kT ts, .inr z, .inl (ha.same sm), rfl, (valV_goal hzm).symm⟩, _, .inr z, rfl, hT, ?_, ?_, ?_, ?_⟩
      · rw [kT, List.length_map, List.length_map, List.length_take, sizeLine_eq]; omega
      · intro b u e
        rw [upd_ne (ne_of_none e hD0)]; exact sm _ _ e
      · rw [SL, upd_ne nqD]; exact hl
      · rw [TurnsAt, upd_same, putK_new hn, take_succ_get hz, List.map_append, kT, kT, List.map_append]; rfl
    · rintro H1 ⟨sm, hl, hT⟩
      refine k H1 D sm hD0 ?_
      rw [List.length_map, List.take_length, ey] at hT
      exact hT
end
end D1
end L2
namespace L2
namespace D1
open PySem PySem.Spec PyProof.Rows
theorem lp_it {J : It} {n : Nat} {G : Hp → Prop} {Y : Nat → Hp → V → Hp → Prop} (w : Walk J n G Y) {body : V → Hp → (Hp → Prop) → Prop} {H0 : Hp} {Qd : Hp → Prop} (Pv : Nat → Hp → Prop) (h0 : Pv 0 H0) (hG : ∀ i H, i ≤ n → Pv i H → G H)
    (hs : ∀ i x H H', i < n → Pv i H → Y i H x H' → body x H' (Pv (i + 1))) (hd : ∀ H, Pv n H → Qd H) :
    ∃ W : Nat → Nat → Hp → Prop, (∃ m, W 0 m H0) ∧ ∀ i m H, W i m H → (J.stop i H ∧ Qd H) ∨ (J.go i H ∧ ∃ Nx : Hp → Prop, (∀ H', Nx H' → ∃ m', m' < m ∧ W (i + 1) m' H') ∧ ∀ x H', J.yld i H x H' → body x H' Nx) := by
  refine ⟨fun i m H => m = n - i ∧ i ≤ n ∧ Pv i H, ⟨n, by simp, Nat.zero_le _, h0⟩, ?_⟩
  rintro i m H ⟨rfl, hi, p⟩
  have q := hG i H hi p
  by_cases hlt : i < n
  · refine .inr ⟨w.goes i H hlt q, Pv (i + 1), fun H' p' => ⟨n - (i + 1), by omega, rfl, hlt, p'⟩, fun x H' y => hs i x H H' hlt p (w.yields i H x H' hlt q y)⟩
  · have e : i = n := by omega
    subst e
    exact .inl ⟨w.stops H q, hd H p⟩
def tLk : Nat → TE → TE
  | 0, t => t
  | n + 1, t => tLockE (tLk n t)
theorem pe_lkN {X : Cx} {e : Expr} {t : TE} (h : PE X e t) : ∀ n, PE X e (tLk n t)
  | 0 => h
  | n + 1 => pe_lock (pe_lkN h n)
theorem pe_lkAny {X : Cx} {e : Expr} {t : TE} (h : PE X e t) : PE X e (fun σ H Q => ∃ n, tLk n t σ H Q) := ⟨fun pins s σ H Q I ⟨n, q⟩ => (pe_lkN h n).run pins s σ H Q I q⟩
def Lk (ds : List Addr) (H H2 : Hp) : Prop := (∀ c, c ∉ ds → H2 c = H c) ∧ ∀ d ∈ ds, ∃ od u, H d = some u ∧ H2 d = some (.frz od u)
theorem lk_all (t : TE) (σ : L2.St) (Post : V → Hp → Prop) : ∀ (ds : List Addr) (H : Hp) (Q : VK), ds.Nodup → (∀ d ∈ ds, ∃ u, H d = some u ∧ Mut (some u)) →
    (∀ H2 Q2, Lk ds H H2 → (∀ v H3, Same H2 H3 → Post v H3 → Q2 v H3) → t σ H2 Q2) →
    (∀ v H3, Post v H3 → ∀ H4, Same H H4 → (∀ c, c ∉ ds → H4 c = H3 c) → Q v H4) → tLk ds.length t σ H Q
  | [], H, Q, _, _, h, k => h H Q ⟨fun _ _ => rfl, by simp⟩ fun v H3 s p => k v H3 p H3 s fun _ _ => rfl
  | d :: ds, H, Q, nd, hm, h, k => by
    obtain ⟨u, hu, mu⟩ := hm d List.mem_cons_self
    have nd' := List.nodup_cons.mp nd
    refine ⟨d, u, hu, mu, fun od => ?_⟩
    refine lk_all t σ Post ds _ _ nd'.2 (fun d' hd' => ?_) (fun H2 Q2 lk k2 => h H2 Q2 ⟨fun c hc => ?_, fun d' hd' => ?_⟩ k2) fun v H3 p H4 s4 e4 => ⟨s4 _ _ upd_same, k v H3 p _ (Same.unlock hu s4) fun c hc => ?_⟩
    · rw [upd_ne fun e => nd'.1 (by rw [← e]; exact hd')]; exact hm d' (List.mem_cons_of_mem _ hd')
    · rw [lk.1 c fun z => hc (List.mem_cons_of_mem _ z), upd_ne fun e => hc (by rw [e]; exact List.mem_cons_self)]
    · rcases List.mem_cons.mp hd' with e | e
      · rw [e]; exact ⟨od, u, hu, by rw [lk.1 d nd'.1]; exact upd_same⟩
      · obtain ⟨o2, u2, h1, h2⟩ := lk.2 d' e
        rw [upd_ne fun z => nd'.1 (by rw [← z]; exact e)] at h1
        exact ⟨o2, u2, h1, h2⟩
    · rw [upd_ne fun e => hc (by rw [e]; exact List.mem_cons_self)]
      exact e4 c fun z => hc (List.mem_cons_of_mem _ z)
theorem dedup (as : List Addr) : ∃ ds : List Addr, ds.Nodup ∧ ∀ a, a ∈ ds ↔ a ∈ as := by
  induction as with
  | nil => exact ⟨[], List.nodup_nil, fun _ => Iff.rfl⟩
  | cons x r ih =>
    obtain ⟨ds, nd, h⟩ := ih
    by_cases e : x ∈ ds
    · refine ⟨ds, nd, fun a => ⟨fun z => List.mem_cons_of_mem _ ((h a).mp z), fun z => ?_⟩⟩
      rcases List.mem_cons.mp z with q | q
      · rw [q]; exact e
      · exact (h a).mpr q
    · refine ⟨x :: ds, List.nodup_cons.mpr ⟨e, nd⟩, fun a => ?_⟩
      rw [List.mem_cons, List.mem_cons, h a]
/-- a row with its dict of turns told -/
def RowA (H : Hp) (v : V) (a : Addr) (k : Str) (ts : List (Str × Str)) : Prop := ∃ t, v = .ref t ∧ H t = some (.tup [.str k, .ref a]) ∧ TurnsAt H a ts
theorem rows_addrs {H : Hp} {kvs : List (Key × V)} {bk : Bk} (h : Rows H kvs bk) : ∀ l : List Str, (∀ s ∈ l, s ∈ bk.map (·.1)) → ∃ as : List Addr, (∀ a ∈ as, ∃ ts, TurnsAt H a ts) ∧ ∀ s ∈ l, ∃ v a, valV kvs (.inr s) = some v ∧ a ∈ as ∧ RowA H v a (rowOf bk s).1 (rowOf bk s).2
  | [], _ => ⟨[], by simp, by simp⟩
  | s :: l, hl => by
    obtain ⟨as, h1, h2⟩ := rows_addrs h l fun x hx => hl x (List.mem_cons_of_mem _ hx)
    obtain ⟨v, e, ⟨t, a, ev, ht, ha⟩, _⟩ := h.look (hl s List.mem_cons_self)
    refine ⟨a :: as, fun b hb => ?_, fun x hx => ?_⟩
    · rcases List.mem_cons.mp hb with z | z
      · rw [z]; exact ⟨_, ha⟩
      · exact h1 b z
    · rcases List.mem_cons.mp hx with z | z
      · rw [z]; exact ⟨v, a, e, List.mem_cons_self, t, ev, ht, ha⟩
      · obtain ⟨v', a', h3, h4, h5⟩ := h2 x z
        exact ⟨v', a', h3, List.mem_cons_of_mem _ h4, h5⟩
/-- a book's dict is no dict of turns -/
theorem book_ne {H : Hp} {b a : Addr} {kvs : List (Key × V)} {bk : Bk} {ts : List (Str × Str)} (hb : H b = some (.dK kvs)) (h : Rows H kvs bk) (ne : bk ≠ []) (ha : TurnsAt H a ts) : a ≠ b := fun e => by
  rw [TurnsAt, e, hb] at ha
  have ek : kvs = kT ts := by injection ha with z; injection z
  cases h with
  | nil => exact ne rfl
  | @cons x r kv2 bk2 h1 _ =>
    cases ts with
    | nil => cases ek
    | cons y ys =>
      have e1 : x = (Sum.inr y.1, V.str y.2) := (List.cons.inj ek).1
      obtain ⟨_, t, a', e2, _⟩ := h1
      rw [e1] at e2
      cases e2
theorem Rows.lock {H : Hp} {b : Addr} {kvs : List (Key × V)} {bk : Bk} {o : HO} (hb : H b = some (.dK kvs)) (h : Rows H kvs bk) (ne : bk ≠ []) : Rows (L2.upd H b o) kvs bk := by
  have key : ∀ (kv2 : List (Key × V)) (bk2 : Bk), Rows H kv2 bk2 → Rows (L2.upd H b o) kv2 bk2 := fun kv2 bk2 h2 => by
    unfold Rows at h2 ⊢
    induction h2 with
    | nil => exact .nil
    | cons h1 _ ih =>
      obtain ⟨e, t, a, ev, ht, ha⟩ := h1
      refine .cons ⟨e, t, a, ev, ?_, ?_⟩ ih
      · rw [upd_ne fun z => by rw [z, hb] at ht; cases ht]; exact ht
      · rw [TurnsAt, upd_ne (book_ne hb h ne ha)]; exact ha
  exact key kvs bk h
abbrev sIsBook : Stmt := top 17
structure BWf (bk : Bk) : Prop where
  ne : bk ≠ []
  nd : (bk.map (·.1)).Nodup
  len : bk.length ≤ 60
  rs : ∀ r ∈ bk, Wd r.1 ∧ RForm r.2.1 r.2.2 ∧ ∀ t ∈ r.2.2, t.2 ∈ bk.map (·.1)
  len2 : ∀ r ∈ bk, r.2.2.length ≤ 60
def spIsBook : Sp := fun vs H Q _ => ∃ (b : Addr) (bk : Bk), vs = [.ref b] ∧ BookAt H b bk ∧ BWf bk ∧ ∀ H', Same H H' → Q (.bl true) H'
theorem rowOf_self {bk : Bk} (nd : (bk.map (·.1)).Nodup) {r : RowD} (h : r ∈ bk) : rowOf bk r.1 = r.2 := by
  induction bk with
  | nil => cases h
  | cons x bk ih =>
    have nd' := List.nodup_cons.mp nd
    by_cases e : x.1 = r.1
    · rcases List.mem_cons.mp h with z | z
      · rw [rowOf, List.find?_cons, decide_eq_true e, z]; rfl
      · exact absurd (List.mem_map.mpr ⟨r, z, e.symm⟩) nd'.1
    · have hr : r ∈ bk := by
        rcases List.mem_cons.mp h with z | z
        · exact absurd (by rw [z]) e
        · exact z
      have er : rowOf (x :: bk) r.1 = rowOf bk r.1 := by rw [rowOf, List.find?_cons, decide_eq_false e]; rfl
      rw [er]; exact ih nd'.2 hr
section
variable {P : Program} {w : World} {K : PySem.W.Frag} {mg : Str → Option Value} {base : Heap}
theorem scIb : FnScope ["value", "state", "goal"] ["value"] (defScope sIsBook) := ⟨rfl, rfl, rfl, by decide +kernel, rfl, by decide +kernel, by decide +kernel⟩
theorem ok_isbook {f : Addr} {fd : FuncData} (F : Fun K "is_book" "is_book" sIsBook f fd) (T : Free3 mg) (CN : CIsName P w K mg base) (CR : CIsRow P w K mg base) : FnOk P w K mg base CX0 3 f fd ["value"] spIsBook := by
  refine F.ok scIb (fun vs H Q E h => ?_) (fun cdv A outer s H vs Q E hr h => ?_)
  · obtain ⟨a, bk, rfl, _⟩ := h; rfl
  · obtain ⟨b, bk, rfl, ⟨kvs, hb, hRw⟩, wf, k⟩ := h
    have hu := hu_of hr
    refine ⟨_, pss_cons (ps_if (PW.pt (pw_or (pt_not (pt_val (pe_callB call_isi (by rfl) T.isi (by decide +kernel) (pa_cons (pv 0) (pa_cons (pe_bltn (v := .ty "dict") rfl T.dict (by decide +kernel) rfl) pa_nil))))) (pw_or1 (pt_cmpR op_eq (pe_callB call_lenD (by rfl) T.len PySem.boot_len (pa_cons (pv 0) pa_nil)) pe_int (nomark _))))) (pss_one (ps_ret pe_bl)) pss_nil)
      (pss_cons (ps_if (pt_not (pt_val (pe_callB (cr_all rfl) (by rfl) T.all (by decide +kernel) (pa_cons (pe_lock (pe_lc (own := [("state", 1)]) (g := gName 1) (tt := tYes) (te := tAndV (tCall spIsName [] E0 (tCons (tVar 1) tNil)) (tCall spIsRow [] E0 (tCons (tDGet (tVar 0) (tVar 1)) tNil))) rfl scIb.nd (pi_keys (pv 0))
          (blkOk_by (N := ["value", "state", "goal"]) (sc := defScope sIsBook) (by decide +kernel)) (fun _ _ _ _ _ => pg_name (i := 1) scIb.nd rfl (Or.inl rfl)) (fun _ _ _ _ _ => pts_nil)
          (fun _ _ _ _ _ => pe_and (pe_cal CN (hr.mono (by decide)) rfl (pa_cons (pv 1) pa_nil)) (pe_one (pe_cal CR (hr.mono (by decide)) rfl (pa_cons (pe_dget hu (pv 0) (pv 1) (fun _ _ => rfl)) pa_nil)))))) pa_nil)))) (pss_one (ps_ret pe_bl)) pss_nil)
      (pss_one (ps_ret (pe_callB (cr_all rfl) (by rfl) T.all (by decide +kernel) (pa_cons (pe_lkAny (pe_lc2 (own := [("state", 1), ("goal", 2)]) (vs1 := [2]) (g := gName 1) (tt := tYes) (g1 := gName 2) (tt1 := tYes) (wi1 := iVals (tOp (rIxT K) (tDGet (tVar 0) (tVar 1)) (tC (.int 1)))) (te := tDIn (tVar 2) (tVar 0)) rfl scIb.nd (pi_keys (pv 0))
          (blkOk_by (N := ["value", "state", "goal"]) (sc := defScope sIsBook) (by decide +kernel)) (by decide) (fun _ _ _ _ _ => pg_name (i := 1) scIb.nd rfl (Or.inl rfl)) (fun _ _ _ _ _ => pts_nil)
          (fun _ _ _ _ _ => pi_values (pe_ix ix_tup (pe_dget hu (pv 0) (pv 1) (fun _ _ => rfl)) pe_int (fun _ _ => rfl))) (fun _ _ _ _ _ => pg_name (i := 2) scIb.nd rfl (Or.inl rfl)) (fun _ _ _ _ _ => pts_nil)
          (fun _ _ _ _ _ => pe_cmp (pc_din hu (pv 2) (pv 0)) rfl))) pa_nil))))), ?_⟩
    have lk0 : kvs.length = bk.length := hRw.len
    have lpos : 0 < bk.length := List.length_pos_iff.mpr wf.ne
    have at_row : ∀ {i : Nat} {kk : Key} {v : V}, kvs[i]? = some (kk, v) → ∃ s, kk = .inr s ∧ s ∈ bk.map (·.1) := fun {i kk v} e => by
      have e1 : (kvs.map (·.1))[i]? = some kk := by rw [List.getElem?_map, e]; rfl
      rw [hRw.keys] at e1
      obtain ⟨r, hr, e2⟩ := get_map e1
      exact ⟨r.1, e2, List.mem_map_of_mem (List.mem_of_getElem? hr)⟩
    refine ⟨_, rfl, _, .ty "dict", .type "dict", .type "dict", true, rfl, .ty _, .base (.dK hb), kit_ty (by decide +kernel), _, rfl, ?_⟩
    refine iteF ⟨_, rfl, b, kvs, rfl, hb, rfl, _, rfl, ?_⟩
    have nz : decide (V.int (kvs.length : Int) = V.int 0) = false := decide_eq_false fun e => by
      have : (kvs.length : Int) = 0 := by injection e
      omega
    rw [nz]
    refine iteF ⟨b, _, hb, trivial, fun od => ?_⟩
    have hR1 := hRw.lock (o := .frz od (.dK kvs)) hb wf.ne
    refine ⟨_, rfl, b, od, rfl, .inl ⟨kvs, upd_same, fun D hD => ?_⟩⟩
    have nD : b ≠ D := fun e => by rw [← e, upd_same] at hD; cases hD
    have hD0 := upd_none' hD
    refine lc_it (walk_keys (d := b) (o := od) (kvs := kvs)) (fun i H' => Same (L2.upd H b (.frz od (.dK kvs))) H' ∧ H' D = some (.lst ((List.replicate i true).map V.bl))) ⟨Same.new hD, upd_same⟩ (fun i H' _ z => z.1 _ _ upd_same) ?_ ?_
    · rintro i x H1 H2 hi ⟨sm, hl⟩ ⟨rfl, kk, v0, hkv, rfl⟩
      obtain ⟨s', rfl, hs⟩ := at_row hkv
      obtain ⟨v, e2, hrow, hm⟩ := (hR1.same sm).look hs
      have wr := wf.rs _ hm
      refine ⟨rfl, ?_⟩
      dsimp only [tYes]
      rw [if_pos rfl]
      refine ⟨_, rfl, s', rfl, wr.1, fun H3 s3 => ⟨true, rfl, iteT ⟨_, rfl, _, rfl, b, v, rfl, .inl ⟨kvs, .inr s', .inr ⟨od, s3 _ _ (sm _ _ upd_same)⟩, rfl, e2.symm⟩, v, _, _, rfl, hrow.same s3, wr.2.1, fun H4 s4 => ?_⟩⟩⟩
      refine ⟨_, s4 _ _ (s3 _ _ hl), by rw [List.length_map, List.length_replicate, sizeLine_eq]; have := wf.len; omega, ?_, ?_⟩
      · intro c u e
        rw [upd_ne (ne_of_none e hD)]; exact s4 _ _ (s3 _ _ (sm _ _ e))
      · rw [upd_same, repl_snoc]
    rintro H1 ⟨sm, hl⟩
    refine ⟨sm _ _ upd_same, D, _, rfl, SqL.of (by rw [upd_ne nD.symm]; exact hl), ?_⟩
    rw [all_true]
    refine ⟨_, rfl, ?_⟩
    have s5 : Same H (L2.upd H1 b (.dK kvs)) := Same.unlock hb sm
    have hb5 := s5 _ _ hb
    have hR5 := hRw.same s5
    generalize L2.upd H1 b (.dK kvs) = H5 at s5 hb5 hR5
    clear sm hl hD hD0 hR1
    refine iteF ?_
    obtain ⟨as, ha1, ha2⟩ := rows_addrs hR5 (bk.map (·.1)) fun s hs => hs
    obtain ⟨ds, nds, hds⟩ := dedup as
    have nb : b ∉ ds := fun z => by
      obtain ⟨ts, hts⟩ := ha1 b ((hds b).mp z)
      exact book_ne hb5 hR5 wf.ne hts rfl
    refine ⟨(b :: ds).length, lk_all _ _ (fun v H3 => ∃ D n, v = .ref D ∧ D ∉ b :: ds ∧ H3 D = some (.lst ((List.replicate n true).map V.bl))) (b :: ds) H5 _ (List.nodup_cons.mpr ⟨nb, nds⟩) (fun d hd => ?_) ?_ ?_⟩
    · rcases List.mem_cons.mp hd with e | e
      · rw [e]; exact ⟨_, hb5, trivial⟩
      · obtain ⟨ts, hts⟩ := ha1 d ((hds d).mp e)
        exact ⟨_, hts, trivial⟩
    · intro H2 Q2 lk k2
      obtain ⟨od, u, h1, hb2⟩ := lk.2 b List.mem_cons_self
      rw [hb5] at h1
      cases h1
      refine ⟨_, rfl, b, od, rfl, .inl ⟨kvs, hb2, fun D hD => ?_⟩⟩
      have nDd : D ∉ b :: ds := fun z => by
        obtain ⟨_, _, _, h3⟩ := lk.2 D z
        rw [h3] at hD; cases hD
      refine lp_it (walk_keys (d := b) (o := od) (kvs := kvs)) (fun i H' => Same H2 H' ∧ ∃ n, n ≤ 60 * i ∧ H' D = some (.lst ((List.replicate n true).map V.bl))) ⟨Same.new hD, 0, Nat.le_refl _, upd_same⟩ (fun i H' _ z => z.1 _ _ hb2) ?_ ?_
      · rintro i x H6 H7 hi ⟨sm, n, hn, hl⟩ ⟨rfl, kk, v0, hkv, rfl⟩
        obtain ⟨s', rfl, hs⟩ := at_row hkv
        obtain ⟨v, a, e2, haa, t, rfl, ht, hta⟩ := ha2 s' hs
        obtain ⟨_, _, _, hm⟩ := hR5.look hs
        have wr := wf.rs _ hm
        have l60 : (rowOf bk s').2.length ≤ 60 := wf.len2 _ hm
        have ht2 : H2 t = some (.tup [.str (rowOf bk s').1, .ref a]) := by
          rw [lk.1 t fun z => by
            rcases List.mem_cons.mp z with e | e
            · rw [e, hb5] at ht; cases ht
            · obtain ⟨ts, hts⟩ := ha1 t ((hds t).mp e)
              rw [hts] at ht; cases ht]
          exact ht
        obtain ⟨oa, ua, h3, ha3⟩ := lk.2 a (List.mem_cons_of_mem _ ((hds a).mpr haa))
        rw [hta] at h3
        cases h3
        refine ⟨rfl, ?_⟩
        dsimp only [tYes]
        rw [if_pos rfl]
        refine ⟨_, rfl, _, rfl, b, _, rfl, .inl ⟨kvs, .inr s', .inr ⟨od, sm _ _ hb2⟩, rfl, e2.symm⟩, t, _, _, _, rfl, rfl, SqT.of (sm _ _ ht2), atI_nat (j := 1) rfl, a, oa, kT (rowOf bk s').2, rfl, sm _ _ ha3, ?_⟩
        refine lp_it (walk_values (d := a) (o := oa) (kvs := kT (rowOf bk s').2)) (fun j H' => Same H2 H' ∧ ∃ n, n ≤ 60 * i + j ∧ H' D = some (.lst ((List.replicate n true).map V.bl))) ⟨sm, n, hn, hl⟩ (fun j H' _ z => z.1 _ _ ha3) ?_ ?_
        · rintro j x H8 H9 hj ⟨sm8, n8, hn8, hl8⟩ ⟨rfl, k9, hk9⟩
          rw [kT, List.getElem?_map] at hk9
          obtain ⟨tt, htt, e9⟩ := Option.map_eq_some_iff.mp hk9
          cases e9
          have hg := wr.2.2 tt (List.mem_of_getElem? htt)
          obtain ⟨vg, eg, _⟩ := hR5.look hg
          have lj : j < 60 := by rw [kT, List.length_map] at hj; omega
          have li : i < 60 := by have := wf.len; omega
          refine ⟨rfl, ?_⟩
          rw [if_pos rfl]
          refine ⟨_, rfl, _, rfl, b, _, rfl, .inl ⟨kvs, .inr tt.2, .inr ⟨od, sm8 _ _ hb2⟩, rfl, rfl⟩, _, hl8, by rw [List.length_map, List.length_replicate, sizeLine_eq]; omega, ?_, n8 + 1, by omega, ?_⟩
          · intro c u e
            rw [upd_ne (ne_of_none e hD)]; exact sm8 _ _ e
          · rw [upd_same, eg, ← repl_snoc]; rfl
        · rintro H8 ⟨sm8, n8, hn8, hl8⟩
          refine ⟨sm8, n8, ?_, hl8⟩
          rw [kT, List.length_map] at hn8
          have : (rowOf bk s').2.length ≤ 60 := l60
          omega
      · rintro H6 ⟨sm, n, hn, hl⟩
        exact k2 _ _ sm ⟨D, n, rfl, nDd, hl⟩
    · rintro v H3 ⟨D, n, rfl, nDd, hl⟩ H4 s4 e4
      refine ⟨D, _, rfl, SqL.of (by rw [e4 D nDd]; exact hl), ?_⟩
      rw [all_true]
      exact k H4 (Same.trans s5 s4)
end
end D1
end L2
namespace L2
namespace D1
open PySem PySem.Spec PyProof.Rows
section
variable {P : Program} {w : World} {K : PySem.W.Frag} {mg : Str → Option Value} {base : Heap}
abbrev COrdT (P : Program) (w : World) (K : PySem.W.Frag) (mg : Str → Option Value) (base : Heap) := Cal P w K mg base "ordered_turns" 1 ["turns"] spOrdT
theorem scOb : FnScope ["book", "state"] ["book"] (defScope sOrdB) := ⟨rfl, rfl, rfl, by decide +kernel, rfl, by decide +kernel, by decide +kernel⟩
theorem ok_ordB {f : Addr} {fd : FuncData} (F : Fun K "ordered_book" "ordered_book" sOrdB f fd) (T : Free3 mg) (CT : COrdT P w K mg base) : FnOk P w K mg base CX0 2 f fd ["book"] spOrdB := by
  refine F.ok scOb (fun vs H Q E h => ?_) (fun cdv A outer s H vs Q E hr h => ?_)
  · obtain ⟨a, bk, rfl, _⟩ := h; rfl
  · obtain ⟨b, bk, rfl, ⟨kvs0, hb, hRw⟩, ok, k⟩ := h
    have hu := hu_of hr
    refine ⟨_, pss_one (ps_ret (pe_dc (own := [("state", 1)]) (g := gName 1) (tt := tYes) (tk := tVar 1) (tv := tTup (tCons (tOp (rIxT K) (tDGet (tVar 0) (tVar 1)) (tC (.int 0))) (tCons (tCall spOrdT [] E0 (tCons (tOp (rIxT K) (tDGet (tVar 0) (tVar 1)) (tC (.int 1))) tNil)) tNil))) rfl scOb.nd (pi_list (pe_callB (call_sortedD rfl) (by rfl) T.sorted (by decide +kernel) (pa_cons (pv 0) pa_nil)))
        (blkOk_by (N := ["book", "state"]) (sc := defScope sOrdB) (by decide +kernel)) (fun _ _ _ _ _ => pg_name (i := 1) scOb.nd rfl (Or.inl rfl)) (fun _ _ _ _ _ => pts_nil) (fun _ _ _ _ _ => pv 1)
        (fun _ _ _ _ _ => pe_tup (pa_cons (pe_ix ix_tup (pe_dget hu (pv 0) (pv 1) (fun _ _ => rfl)) pe_int (fun _ _ => rfl)) (pa_cons (pe_cal CT (hr.mono (by decide)) rfl (pa_cons (pe_ix ix_tup (pe_dget hu (pv 0) (pv 1) (fun _ _ => rfl)) pe_int (fun _ _ => rfl)) pa_nil)) pa_nil))))), ?_⟩
    have ek : kvs0.map (·.1) = (bk.map (·.1)).map Sum.inr := by rw [hRw.keys, List.map_map]; rfl
    refine ⟨_, rfl, b, kvs0, bk.map (·.1), rfl, hb, ek, by rw [List.length_map]; exact ok.len, fun ys q pm so hq => ?_⟩
    have ey := srt_of pm so
    have lq : ys.length < 64 := by rw [pm.length_eq, List.length_map]; exact ok.len
    have am : ∀ y ∈ ys, y ∈ bk.map (·.1) := fun y hy => pm.mem_iff.mp hy
    have ndy : ys.Nodup := pm.nodup_iff.mpr ok.nd
    refine ⟨q, rfl, ⟨_, SqL.of upd_same⟩, fun D hD => ?_⟩
    have nqD : q ≠ D := fun e => by rw [← e, upd_same] at hD; cases hD
    have hD0 := upd_none' hD
    refine dc_it (walk_list (K := K) (a := q) (xs := ys.map V.str)) (fun i H' => Same H H' ∧ SL H' q ys ∧ ∃ kvs, H' D = some (.dK kvs) ∧ Rows (cut [D] (newH H H')) kvs ((ys.take i).map fun s => (s, (rowOf bk s).1, ordT (rowOf bk s).2)))
      ⟨fun b u e => by rw [upd_ne (ne_of_none e hD0), upd_ne (ne_of_none e hq)]; exact e, by rw [SL, upd_ne nqD, upd_same], [], upd_same, .nil⟩ (fun i H' _ z => z.2.1.sq) ?_ ?_
    · rintro i v H1 H2 hi ⟨sm, hl, kvs, hk, hR⟩ ⟨rfl, hx⟩
      obtain ⟨z, hz, rfl⟩ := get_map hx
      have hzm := am z (List.mem_of_getElem? hz)
      refine ⟨rfl, ?_⟩
      dsimp only [tYes]
      rw [if_pos rfl]
      have hn : z ∉ ((ys.take i).map fun s => (s, (rowOf bk s).1, ordT (rowOf bk s).2) : Bk).map (·.1) := fun hm => by
        obtain ⟨p1, hp1, e1⟩ := List.mem_map.mp hm
        obtain ⟨p3, hp3, e3⟩ := List.mem_map.mp hp1
        subst e3
        have e1 : p3 = z := e1
        rw [e1] at hp3
        obtain ⟨m, hm1, hm2⟩ := List.mem_take_iff_getElem.mp hp3
        have h1 : ys[m]? = some z := by rw [List.getElem?_eq_getElem (by omega), hm2]
        have := (List.getElem?_inj (by omega) ndy).mp (h1.trans hz.symm)
        omega
      obtain ⟨v, h2, ⟨t, a, rfl, ht, ha⟩, hm⟩ := (hRw.same sm).look hzm
      have rr := ok.rs _ hm
      have hbz : DGet H2 b (V.str z) (some (.ref t)) := .inl ⟨kvs0, .inr z, rd_same hb sm, rfl, h2.symm⟩
      refine ⟨_, rfl, _, rfl, _, rfl, b, _, rfl, hbz, t, _, _, _, rfl, rfl, SqT.of ht, atI_nat (j := 0) rfl, _, rfl, _, rfl, b, _, rfl, hbz, t, _, _, _, rfl, rfl, SqT.of ht, atI_nat (j := 1) rfl, a, _, rfl, ha, rr.1, rr.2, fun H3 R s3 hRn hT => ?_⟩
      refine ⟨by show 2 ≤ sizeLine; decide, fun T1 hT1 => ?_⟩
      have hk3 := Same.new (o := .tup [.str (rowOf bk z).1, .ref R]) hT1 _ _ (s3 _ _ hk)
      have nT1D : T1 ≠ D := fun e => by rw [e, s3 _ _ hk] at hT1; cases hT1
      have nRD : R ≠ D := fun e => by rw [e, hk] at hRn; cases hRn
      have nRT : R ≠ T1 := fun e => by rw [← e, hT] at hT1; cases hT1
      refine ⟨kvs, .inr z, rfl, hk3, ?_, ?_, ?_, _, upd_same, ?_⟩
      · rw [hR.len, List.length_map, List.length_take, sizeLine_eq]; omega
      · intro b u e
        rw [upd_ne (ne_of_none e hD0)]; exact Same.new hT1 _ _ (s3 _ _ (sm _ _ e))
      · rw [SL, upd_ne nqD]; exact Same.new hT1 _ _ (s3 _ _ hl)
      · rw [putK_new (hR.fresh hn), cut_new_upd, take_succ_get hz, List.map_append]
        have oT : H T1 = none := (Same.trans sm s3).free hT1
        have oR : H R = none := sm.free hRn
        refine (hR.same (cut_same (new_same (Same.trans s3 (Same.new hT1))))).app ⟨T1, R, rfl, ?_, ?_⟩
        · rw [cut_out (by simpa using nT1D), new_out oT]; exact upd_same
        · rw [TurnsAt, cut_out (by simpa using nRD), new_out oR, upd_ne nRT]; exact hT
    · rintro H1 ⟨sm, hl, kvs, hk, hR⟩
      refine k H1 D sm hD0 ⟨kvs, by rw [new_out hD0]; exact hk, ?_⟩
      rw [List.length_map, List.take_length, ey] at hR
      exact hR.same cut_le
end
end D1
end L2
namespace L2
namespace D1
open PySem PySem.Spec PyProof.Rows
abbrev sDInit : Stmt := inClass (top 20) 0
abbrev sDEq : Stmt := inClass (top 20) 1
abbrev sDBook : Stmt := inClass (top 20) 2
abbrev sDStart : Stmt := inClass (top 20) 3
abbrev sNeed : Stmt := top 21
theorem kbs : ¬ (("_book" : Str) = "_start") := by decide +kernel
def dflds (b : Addr) (st : Str) : List (Str × V) := putF "_start" (.str st) (putF "_book" (.ref b) [])
theorem dflds_book (b : Addr) (st : Str) : (dflds b st).lookup ("_book" : Str) = some (.ref b) := by
  unfold dflds
  rw [lookup_putF, if_neg kbs, lookup_putF, if_pos rfl]
theorem dflds_start (b : Addr) (st : Str) : (dflds b st).lookup ("_start" : Str) = some (.str st) := by
  unfold dflds
  rw [lookup_putF, if_pos rfl]
theorem dflds_no (b : Addr) (st : Str) {m : Str} (h1 : ¬ m = "_start") (h2 : ¬ m = "_book") : (dflds b st).lookup m = none := by
  unfold dflds
  rw [lookup_putF, if_neg h1, lookup_putF, if_neg h2]
  all_goals rfl
/-- a desk -/
def DeskAt (C : Addr) (H : Hp) (q : Addr) (bk : Bk) (st : Str) : Prop := ∃ dx b, H q = some (.ins C dx (dflds b st)) ∧ BookR H b (ordB bk)
theorem DeskAt.same {C : Addr} {H H' : Hp} {q : Addr} {bk : Bk} {st : Str} (h : DeskAt C H q bk st) (s : Same H H') : DeskAt C H' q bk st := by
  obtain ⟨dx, b, e, r⟩ := h; exact ⟨dx, b, s _ _ e, r.same s⟩
/-- a book and a start that make a desk -/
structure DOk (bk : Bk) (st : Str) : Prop extends BWf bk where
  tk : ∀ r ∈ bk, (r.2.2.map (·.1)).Nodup
  st : st ∈ bk.map (·.1)
theorem DOk.bok {bk : Bk} {st : Str} (h : DOk bk st) : BOk bk := ⟨h.nd, by have := h.len; omega, fun r hr => ⟨h.tk r hr, by have := h.len2 r hr; omega⟩⟩
theorem WF.dok {bk : Bk} {st : Str} {ws : List Str} (h : WF bk st ws) (w : WsOk ws) : DOk bk st := by
  have hw : ∀ x ∈ bk.map (·.1), Wd x := fun x hx => by
    obtain ⟨r, hr, rfl⟩ := List.mem_map.mp hx
    exact (h.rs r hr).1
  have wl := w.hi
  refine { ne := ?_, nd := h.nd, len := ?_, rs := fun r hr => ?_, len2 := fun r hr => ?_, tk := fun r hr => ?_, st := h.st }
  · intro e
    have := h.st
    rw [e] at this; cases this
  · have := h.len; omega
  · obtain ⟨h1, h2⟩ := h.rs r hr
    rcases h2 with ⟨e1, e2⟩ | ⟨e1, e2, e3⟩
    · exact ⟨h1, .inl ⟨e1, e2⟩, by rw [e2]; simp⟩
    · exact ⟨h1, .inr ⟨e1, e2, by have := e3.len; omega, fun t ht => ⟨w.wd _ (e3.ks t ht), hw _ (e3.gs t ht)⟩⟩, fun t ht => e3.gs t ht⟩
  · obtain ⟨h1, h2⟩ := h.rs r hr
    rcases h2 with ⟨e1, e2⟩ | ⟨e1, e2, e3⟩
    · rw [e2]; exact Nat.zero_le _
    · have := e3.len; omega
  · obtain ⟨h1, h2⟩ := h.rs r hr
    rcases h2 with ⟨e1, e2⟩ | ⟨e1, e2, e3⟩
    · rw [e2]; exact List.nodup_nil
    · exact e3.nd
/-- what is asked of the class -/
structure DTxt (K : PySem.W.Frag) (mg : Str → Option Value) (C : Addr) : Prop where
  cl : Cls K C
  nB : NoAttr K C "_book"
  nS : NoAttr K C "_start"
  mgC : mg "Desk" = some (.ref C)
/-- a desk whose book is new -/
def DeskN (C : Addr) (H H' : Hp) (q : Addr) (bk : Bk) (st : Str) : Prop := ∃ dx b, H' q = some (.ins C dx (dflds b st)) ∧ BookR (newH H H') b (ordB bk)
def spDInit (C : Addr) : Sp := fun vs H Q _ => ∃ (q dx b : Addr) (bk : Bk) (st : Str), vs = [.ref q, .ref b, .str st] ∧ H q = some (.ins C dx []) ∧ BookAt H b bk ∧ DOk bk st ∧
  ∀ H', But q H H' → DeskAt C H' q bk st → DeskN C H H' q bk st → Q .non H'
def spDBook (C : Addr) : Sp := fun vs H Q _ => ∃ (q : Addr) (bk : Bk) (st : Str), vs = [.ref q] ∧ DeskAt C H q bk st ∧ DOk bk st ∧ ∀ H' R, Same H H' → H R = none → BookAt H' R (ordB bk) → BookAt (newH H H') R (ordB bk) → Q (.ref R) H'
def spDStart (C : Addr) : Sp := fun vs H Q _ => ∃ (q : Addr) (bk : Bk) (st : Str), vs = [.ref q] ∧ DeskAt C H q bk st ∧ Q (.str st) H
theorem ordB_names (bk : Bk) : (ordB bk).map (·.1) = srt (bk.map (·.1)) := by
  rw [ordB, List.map_map]
  exact List.map_id'' (fun _ => rfl) _
theorem mem_ordB {bk : Bk} (nd : (bk.map (·.1)).Nodup) {r : RowD} : r ∈ ordB bk → ∃ r0 ∈ bk, r.1 = r0.1 ∧ r.2.1 = r0.2.1 ∧ r.2.2 = ordT r0.2.2 := fun h => by
  obtain ⟨s, hs, rfl⟩ := List.mem_map.mp h
  obtain ⟨r0, hr0, e⟩ := List.mem_map.mp ((srt_perm _).mem_iff.mp hs)
  refine ⟨r0, hr0, e.symm, ?_, ?_⟩
  · show (rowOf bk s).1 = _
    rw [← e, rowOf_self nd hr0]
  · show ordT (rowOf bk s).2 = _
    rw [← e, rowOf_self nd hr0]
theorem ordT_nd {ts : List (Str × Str)} (h : (ts.map (·.1)).Nodup) : ((ordT ts).map (·.1)).Nodup := by
  rw [ordT_keys]; exact (srt_perm _).nodup_iff.mpr h
theorem ordT_len (ts : List (Str × Str)) : (ordT ts).length = ts.length := by
  rw [← List.length_map (·.1), ordT_keys, (srt_perm _).length_eq, List.length_map]
theorem ordB_len (bk : Bk) : (ordB bk).length = bk.length := by
  rw [← List.length_map (·.1), ordB_names, (srt_perm _).length_eq, List.length_map]
theorem DOk.obok {bk : Bk} {st : Str} (h : DOk bk st) : BOk (ordB bk) := by
  refine ⟨by rw [ordB_names]; exact (srt_perm _).nodup_iff.mpr h.nd, by rw [ordB_len]; have := h.len; omega, fun r hr => ?_⟩
  obtain ⟨r0, h0, _, _, e⟩ := mem_ordB h.nd hr
  rw [e]
  exact ⟨ordT_nd (h.tk r0 h0), by rw [ordT_len]; have := h.len2 r0 h0; omega⟩
theorem srt_srt (l : List Str) : srt (srt l) = srt l := srt_congr (srt_perm l)
theorem goalT_ordT {ts : List (Str × Str)} {k : Str} (h : k ∈ ts.map (·.1)) : goalT (ordT ts) k = goalT ts k := by
  have hk : k ∈ (ordT ts).map (·.1) := by rw [ordT_keys]; exact (srt_perm _).mem_iff.mpr h
  obtain ⟨t, e, e1, ht⟩ := find_some hk
  obtain ⟨k2, _, rfl⟩ := List.mem_map.mp ht
  have : k2 = k := e1
  subst this
  rw [goalT, e]; rfl
theorem ordT_ordT (ts : List (Str × Str)) : ordT (ordT ts) = ordT ts := by
  show (srt ((ordT ts).map (·.1))).map (fun k => (k, goalT (ordT ts) k)) = _
  rw [ordT_keys, srt_srt]
  refine List.map_congr_left fun k hk => ?_
  rw [goalT_ordT ((srt_perm _).mem_iff.mp hk)]
theorem ordB_ordB {bk : Bk} (nd : (bk.map (·.1)).Nodup) : ordB (ordB bk) = ordB bk := by
  have nd2 : ((ordB bk).map (·.1)).Nodup := by rw [ordB_names]; exact (srt_perm _).nodup_iff.mpr nd
  show (srt ((ordB bk).map (·.1))).map (fun s => (s, (rowOf (ordB bk) s).1, ordT (rowOf (ordB bk) s).2)) = _
  rw [ordB_names, srt_srt]
  refine List.map_congr_left fun s hs => ?_
  have hm : (s, (rowOf bk s).1, ordT (rowOf bk s).2) ∈ ordB bk := List.mem_map.mpr ⟨s, hs, rfl⟩
  have := rowOf_self nd2 hm
  rw [show rowOf (ordB bk) s = ((rowOf bk s).1, ordT (rowOf bk s).2) from this]
  show (s, (rowOf bk s).1, ordT (ordT (rowOf bk s).2)) = _
  rw [ordT_ordT]
theorem updd2 {H : Hp} {a : Addr} {o o' : HO} : L2.upd (L2.upd H a o) a o' = L2.upd H a o' := by
  funext b
  by_cases h : b = a
  · rw [h, upd_same, upd_same]
  · rw [upd_ne h, upd_ne h, upd_ne h]
section
variable {P : Program} {w : World} {K : PySem.W.Frag} {mg : Str → Option Value} {base : Heap}
abbrev CIsBook (P : Program) (w : World) (K : PySem.W.Frag) (mg : Str → Option Value) (base : Heap) := Cal P w K mg base "is_book" 3 ["value"] spIsBook
abbrev CIsState (P : Program) (w : World) (K : PySem.W.Frag) (mg : Str → Option Value) (base : Heap) := Cal P w K mg base "is_state_of" 1 ["book", "value"] spIsState
abbrev COrdB (P : Program) (w : World) (K : PySem.W.Frag) (mg : Str → Option Value) (base : Heap) := Cal P w K mg base "ordered_book" 2 ["book"] spOrdB
theorem scDi : FnScope ["self", "book", "start"] ["self", "book", "start"] (defScope sDInit) := ⟨rfl, rfl, rfl, by decide +kernel, rfl, by decide +kernel, by decide +kernel⟩
theorem ok_dinit {f C : Addr} {fd : FuncData} (F : Fun K "__init__" "Desk.__init__" sDInit f fd) (D : DTxt K mg C) (CB : CIsBook P w K mg base) (CS : CIsState P w K mg base) (CO : COrdB P w K mg base) : FnOk P w K mg base CX0 4 f fd ["self", "book", "start"] (spDInit C) := by
  refine F.ok scDi (fun vs H Q E h => ?_) (fun cdv A outer s H vs Q E hr h => ?_)
  · obtain ⟨q, dx, b, bk, st, rfl, _⟩ := h; rfl
  · obtain ⟨q, dx, b, bk, st, rfl, hq, hb, ok, k⟩ := h
    refine ⟨_, pss_cons (ps_if (pt_not (pt_val (pe_cal CB (hr.mono (by decide)) rfl (pa_cons (pv 1) pa_nil)))) (pss_one ps_never) pss_nil)
      (pss_cons (ps_if (pt_not (pt_val (pe_cal CS (hr.mono (by decide)) rfl (pa_cons (pv 1) (pa_cons (pv 2) pa_nil))))) (pss_one ps_never) pss_nil)
      (pss_cons (ps_fld (pv 0) (pe_cal CO (hr.mono (by decide)) rfl (pa_cons (pv 1) pa_nil)) rfl)
      (pss_one (ps_fld (pv 0) (pv 2) rfl)))), ?_⟩
    refine ⟨_, rfl, b, bk, rfl, hb, ok.toBWf, fun H1 s1 => ⟨_, rfl, iteF ?_⟩⟩
    obtain ⟨kvs, hk1, hR1⟩ := hb.same s1
    obtain ⟨v, ev, _⟩ := hR1.look ok.st
    refine ⟨_, rfl, _, rfl, b, kvs, st, rfl, .inl hk1, by rw [ev]; rfl, ⟨_, rfl, iteF ?_⟩⟩
    refine ⟨_, rfl, b, bk, rfl, (hb.same s1).r, ok.bok, fun H2 R s2 hR hO => ?_⟩
    have s12 := Same.trans s1 s2
    have hq2 := s12 _ _ hq
    have nqR : q ≠ R := ne_of_none (s1 _ _ hq) hR
    refine ⟨_, rfl, q, C, dx, [], rfl, hq2, D.cl, D.nB, (by show 0 < 1000; decide), _, rfl, _, rfl, q, C, dx, _, rfl, upd_same, D.cl, D.nS, (by show 1 < 1000; decide), ?_⟩
    rw [updd2]
    have sN : ∀ o, Same (newH H1 H2) (newH H (L2.upd H2 q o)) := fun o c u e => by
      obtain ⟨n, e⟩ := new_some (new_mono s1 _ _ e)
      rw [new_out n, upd_ne fun z => by rw [z, hq] at n; cases n]; exact e
    refine k _ (fun c u nc e => ?_) ⟨dx, R, upd_same, (hO.same (sN _)).r.same new_le⟩ ⟨dx, R, upd_same, (hO.same (sN _)).r⟩
    rw [upd_ne nc]; exact s12 _ _ e
theorem scDb : FnScope ["self"] ["self"] (defScope sDBook) := ⟨rfl, rfl, rfl, by decide +kernel, rfl, by decide +kernel, by decide +kernel⟩
theorem ok_dbook {f C : Addr} {fd : FuncData} (F : Fun K "book" "Desk.book" sDBook f fd) (D : DTxt K mg C) (CO : COrdB P w K mg base) : FnOk P w K mg base CX0 3 f fd ["self"] (spDBook C) := by
  refine F.ok scDb (fun vs H Q E h => ?_) (fun cdv A outer s H vs Q E hr h => ?_)
  · obtain ⟨q, bk, st, rfl, _⟩ := h; rfl
  · obtain ⟨q, bk, st, rfl, ⟨dx, b, hq, hb⟩, ok, k⟩ := h
    refine ⟨_, pss_one (ps_ret (pe_cal CO (hr.mono (by decide)) rfl (pa_cons (pe_fld (pv 0) rfl) pa_nil))), ?_⟩
    refine ⟨_, rfl, q, C, dx, _, _, rfl, hq, D.cl, D.nB, dflds_book _ _, b, ordB bk, rfl, hb, ok.obok, fun H' R s' hR hO => ?_⟩
    rw [ordB_ordB ok.nd] at hO
    exact k H' R s' hR (hO.same new_le) hO
theorem scDs : FnScope ["self"] ["self"] (defScope sDStart) := ⟨rfl, rfl, rfl, by decide +kernel, rfl, by decide +kernel, by decide +kernel⟩
theorem ok_dstart {f C : Addr} {fd : FuncData} (F : Fun K "start" "Desk.start" sDStart f fd) (D : DTxt K mg C) : FnOk P w K mg base CX0 1 f fd ["self"] (spDStart C) := by
  refine F.ok scDs (fun vs H Q E h => ?_) (fun cdv A outer s H vs Q E hr h => ?_)
  · obtain ⟨q, bk, st, rfl, _⟩ := h; rfl
  · obtain ⟨q, bk, st, rfl, ⟨dx, b, hq, hb⟩, k⟩ := h
    refine ⟨_, pss_one (ps_ret (pe_fld (pv 0) rfl)), ?_⟩
    exact ⟨_, rfl, q, C, dx, _, _, rfl, hq, D.cl, D.nS, dflds_start _ _, k⟩
end
end D1
end L2
namespace L2
namespace D1
open PySem PySem.Spec PyProof.Rows
/-- a method that keeps a promise -/
structure CalM (P : Program) (w : World) (K : PySem.W.Frag) (mg : Str → Option Value) (base : Heap) (C : Addr) (m : Str) (k : Nat) (ps : List Str) (sp : Sp) : Prop where
  ex : ∃ f fd, Meth K C m f ∧ FnOk P w K mg base CX0 k f fd ps sp ∧ Binds K fd ps []
def spNeed (C : Addr) : Sp := fun vs H Q _ => ∃ (q dx : Addr) (fs : List (Str × V)), vs = [.ref q] ∧ H q = some (.ins C dx fs) ∧ Q .non H
/-- a graph's rows -/
def GRows (H : Hp) : List (Key × V) → Bk → Prop := Paired fun kv r => kv.1 = Sum.inr r.1 ∧ ∃ a, kv.2 = .ref a ∧ TurnsAt H a r.2.2
theorem GRows.same {H H' : Hp} {kvs : List (Key × V)} {bk : Bk} (h : GRows H kvs bk) (s : Same H H') : GRows H' kvs bk := by
  unfold GRows at h ⊢
  induction h with
  | nil => exact .nil
  | cons a b ih => obtain ⟨e, c, e2, h3⟩ := a; exact .cons ⟨e, c, e2, h3.same s⟩ ih
theorem GRows.app {H : Hp} {kvs : List (Key × V)} {bk : Bk} {s k : Str} {a : Addr} {ts : List (Str × Str)} (h : GRows H kvs bk) (r : TurnsAt H a ts) : GRows H (kvs ++ [(.inr s, .ref a)]) (bk ++ [(s, k, ts)]) := by
  unfold GRows at h ⊢
  induction h with
  | nil => exact .cons ⟨rfl, a, rfl, r⟩ .nil
  | cons a b ih => exact .cons a ih
theorem GRows.keys {H : Hp} {kvs : List (Key × V)} {bk : Bk} (h : GRows H kvs bk) : kvs.map (·.1) = bk.map fun r => Sum.inr r.1 := by
  unfold GRows at h
  induction h with
  | nil => rfl
  | cons a b ih => rw [List.map_cons, List.map_cons, ih, a.1]
theorem GRows.look {H : Hp} {kvs : List (Key × V)} {bk : Bk} {s : Str} (h : GRows H kvs bk) (m : s ∈ bk.map (·.1)) : ∃ a, valV kvs (.inr s) = some (.ref a) ∧ TurnsAt H a (rowOf bk s).2 := by
  unfold GRows at h
  induction h with
  | nil => cases m
  | @cons x r kvs bk h1 _ ih =>
    obtain ⟨e1, a, e2, h3⟩ := h1
    by_cases e : r.1 = s
    · refine ⟨a, (valV_pos (by rw [e1, e])).trans (congrArg some e2), ?_⟩
      rw [rowOf, List.find?_cons, decide_eq_true e]; exact h3
    · have m' : s ∈ bk.map (·.1) := by
        rcases List.mem_cons.mp m with z | z
        · exact absurd z.symm e
        · exact z
      obtain ⟨a', h4, h5⟩ := ih m'
      have er : rowOf (r :: bk) s = rowOf bk s := by rw [rowOf, List.find?_cons, decide_eq_false e]; rfl
      exact ⟨a', by rw [valV_neg (by rw [e1]; exact fun z => e (Sum.inr.inj z))]; exact h4, by rw [er]; exact h5⟩
def GraphAt (H : Hp) (g : Addr) (bk : Bk) : Prop := ∃ kvs, H g = some (.dK kvs) ∧ GRows H kvs bk
theorem GraphAt.same {H H' : Hp} {g : Addr} {bk : Bk} (h : GraphAt H g bk) (s : Same H H') : GraphAt H' g bk := by
  obtain ⟨kvs, e, r⟩ := h; exact ⟨kvs, s _ _ e, r.same s⟩
theorem rowOf_ord {bk : Bk} (nd : (bk.map (·.1)).Nodup) {s : Str} (h : s ∈ bk.map (·.1)) : rowOf (ordB bk) s = ((rowOf bk s).1, ordT (rowOf bk s).2) := by
  have nd2 : ((ordB bk).map (·.1)).Nodup := by rw [ordB_names]; exact (srt_perm _).nodup_iff.mpr nd
  have hm : (s, (rowOf bk s).1, ordT (rowOf bk s).2) ∈ ordB bk := List.mem_map.mpr ⟨s, (srt_perm _).mem_iff.mpr h, rfl⟩
  exact rowOf_self nd2 hm
theorem row_mem {bk : Bk} {s : Str} (h : s ∈ bk.map (·.1)) : (s, rowOf bk s) ∈ bk := by
  obtain ⟨r, hr, e⟩ := List.mem_map.mp h
  cases z : bk.find? fun r => decide (r.1 = s) with
  | none => exact absurd (decide_eq_true e) (List.find?_eq_none.mp z r hr)
  | some u =>
    have e1 : u.1 = s := of_decide_eq_true (by have := List.find?_some z; exact this)
    have : rowOf bk s = u.2 := by rw [rowOf, z]; rfl
    rw [this, ← e1]
    exact List.mem_of_find?_eq_some z
section
variable {P : Program} {w : World} {K : PySem.W.Frag} {mg : Str → Option Value} {base : Heap}
theorem scNd : FnScope ["desk"] ["desk"] (defScope sNeed) := ⟨rfl, rfl, rfl, by decide +kernel, rfl, by decide +kernel, by decide +kernel⟩
theorem ok_need {f C : Addr} {fd : FuncData} (F : Fun K "need_desk" "need_desk" sNeed f fd) (T : Free3 mg) (D : DTxt K mg C) (c : C8.InsC K C) : FnOk P w K mg base CX0 1 f fd ["desk"] (spNeed C) := by
  refine F.ok scNd (fun vs H Q E h => ?_) (fun cdv A outer s H vs Q E hr h => ?_)
  · obtain ⟨q, dx, fs, rfl, _⟩ := h; rfl
  · obtain ⟨q, dx, fs, rfl, hq, k⟩ := h
    refine ⟨_, pss_one (ps_if (pt_not (pt_val (pe_callB (C8.call_isC c) (by rfl) T.isi (by decide +kernel) (pa_cons (pv 0) (pa_cons (pe_glob (v := .ref C) rfl D.mgC rfl) pa_nil))))) (pss_one ps_never) pss_nil), ?_⟩
    exact ⟨_, rfl, q, dx, fs, rfl, hq, _, rfl, iteF k⟩
end
end D1
end L2
namespace L2
namespace D1
open PySem PySem.Spec PyProof.Rows
theorem Rows.at {H : Hp} {kvs : List (Key × V)} {bk : Bk} (h : Rows H kvs bk) : ∀ {i : Nat} {k : Key} {v : V}, kvs[i]? = some (k, v) → ∃ r, bk[i]? = some r ∧ k = Sum.inr r.1 ∧ RowAt H v r.2.1 r.2.2 := by
  unfold Rows at h
  induction h with
  | nil => intro i k v e; simp at e
  | @cons x r kvs bk h1 _ ih =>
    intro i k v e
    cases i with
    | zero => cases e; exact ⟨r, rfl, h1.1, h1.2⟩
    | succ i => exact ih e
theorem DOk.ond {bk : Bk} {st : Str} (h : DOk bk st) : ((ordB bk).map (·.1)).Nodup := by rw [ordB_names]; exact (srt_perm _).nodup_iff.mpr h.nd
theorem ordB_ne {bk : Bk} (h : bk ≠ []) : ordB bk ≠ [] := fun e => by
  have := ordB_len bk
  rw [e] at this
  exact h (List.length_eq_zero_iff.mp this.symm)
section
variable {P : Program} {w : World} {K : PySem.W.Frag} {mg : Str → Option Value} {base : Heap} {C : Addr}
abbrev CMBook (P : Program) (w : World) (K : PySem.W.Frag) (mg : Str → Option Value) (base : Heap) (C : Addr) := CalM P w K mg base C "book" 3 ["self"] (spDBook C)
abbrev CMStart (P : Program) (w : World) (K : PySem.W.Frag) (mg : Str → Option Value) (base : Heap) (C : Addr) := CalM P w K mg base C "start" 1 ["self"] (spDStart C)
abbrev CNeed (P : Program) (w : World) (K : PySem.W.Frag) (mg : Str → Option Value) (base : Heap) (C : Addr) := Cal P w K mg base "need_desk" 1 ["desk"] (spNeed C)
end
end D1
end L2
namespace L2
namespace D1
open PySem PySem.Spec PyProof.Rows
inductive Leaf : V → Prop
  | non : Leaf .non
  | bl (b : Bool) : Leaf (.bl b)
  | str (x : Str) : Leaf (.str x)
/-- alike data, at most n deep -/
def EqX : Nat → Hp → V → V → Prop
  | 0, _, x, y => Leaf x ∧ y = x
  | n + 1, H, x, y => EqX n H x y ∨ (∃ a b xs ys, x = .ref a ∧ y = .ref b ∧ H a = some (.lst xs) ∧ H b = some (.lst ys) ∧ xs.length ≤ 10000 ∧ Paired (EqX n H) xs ys) ∨
      (∃ a b xs ys, x = .ref a ∧ y = .ref b ∧ H a = some (.tup xs) ∧ H b = some (.tup ys) ∧ xs.length ≤ 10000 ∧ Paired (EqX n H) xs ys) ∨
      (1 ≤ n ∧ ∃ (a b : Addr) (ks ls : List (Key × V)) (ss : List Str), x = .ref a ∧ y = .ref b ∧ H a = some (.dK ks) ∧ H b = some (.dK ls) ∧ ks.map (·.1) = ss.map Sum.inr ∧ ls.map (·.1) = ss.map Sum.inr ∧ ss.Nodup ∧ ss.length ≤ 10000 ∧ Paired (fun p q => EqX n (cut [a] H) p.2 q.2) ks ls)
theorem paired_imp {α β : Type} {R R' : α → β → Prop} (h : ∀ a b, R a b → R' a b) : ∀ {xs : List α} {ys : List β}, Paired R xs ys → Paired R' xs ys
  | _, _, .nil => .nil
  | _, _, .cons a b => .cons (h _ _ a) (paired_imp h b)
theorem paired_at {α β : Type} {R : α → β → Prop} : ∀ {xs : List α} {ys : List β} {i : Nat} {x : α} {y : β}, Paired R xs ys → xs[i]? = some x → ys[i]? = some y → R x y
  | _, _, i, x, y, .nil, h, _ => by simp at h
  | _, _, 0, x, y, .cons a _, h1, h2 => by cases h1; cases h2; exact a
  | _, _, i + 1, x, y, .cons _ b, h1, h2 => paired_at (i := i) b h1 h2
theorem paired_len {α β : Type} {R : α → β → Prop} : ∀ {xs : List α} {ys : List β}, Paired R xs ys → xs.length = ys.length
  | _, _, .nil => rfl
  | _, _, .cons _ b => by rw [List.length_cons, List.length_cons, paired_len b]
theorem EqX.same : ∀ (n : Nat) {H H' : Hp} {x y : V}, Same H H' → EqX n H x y → EqX n H' x y
  | 0, _, _, _, _, _, h => h
  | n + 1, H, H', x, y, s, h => by
    rcases h with h | ⟨a, b, xs, ys, h1, h2, h3, h4, h5, h6⟩ | ⟨a, b, xs, ys, h1, h2, h3, h4, h5, h6⟩ | ⟨h0, a, b, ks, ls, ss, h1, h2, h3, h4, h5, h6, h7, h8, h9⟩
    · exact .inl (EqX.same n s h)
    · exact .inr (.inl ⟨a, b, xs, ys, h1, h2, s _ _ h3, s _ _ h4, h5, paired_imp (fun _ _ => EqX.same n s) h6⟩)
    · exact .inr (.inr (.inl ⟨a, b, xs, ys, h1, h2, s _ _ h3, s _ _ h4, h5, paired_imp (fun _ _ => EqX.same n s) h6⟩))
    · exact .inr (.inr (.inr ⟨h0, a, b, ks, ls, ss, h1, h2, s _ _ h3, s _ _ h4, h5, h6, h7, h8, paired_imp (fun _ _ => EqX.same n (cut_same s)) h9⟩))
theorem EqX.up {H : Hp} {m n : Nat} {x y : V} (h : EqX m H x y) (l : m ≤ n) : EqX n H x y := by
  induction l with
  | refl => exact h
  | step _ ih => exact .inl ih
theorem eqx_str {H : Hp} {n : Nat} (x : Str) : EqX n H (.str x) (.str x) := EqX.up (m := 0) ⟨.str x, rfl⟩ (Nat.zero_le _)
theorem eqx_strs {H : Hp} {n : Nat} : ∀ ss : List Str, Paired (EqX n H) (ss.map V.str) (ss.map V.str)
  | [] => .nil
  | x :: r => .cons (eqx_str x) (eqx_strs r)
abbrev sExact : Stmt := top 56
def spExact (n : Nat) : Sp := fun vs H Q _ => ∃ x y, vs = [x, y] ∧ EqX n H x y ∧ ∀ H', Same H H' → Q (.bl true) H'
def spDeep (n : Nat) : Sp := fun vs H Q _ => ∃ x y, vs = [x, y] ∧ ((∃ a b xs ys, x = .ref a ∧ y = .ref b ∧ H a = some (.lst xs) ∧ H b = some (.lst ys) ∧ xs.length ≤ 10000 ∧ Paired (EqX n H) xs ys) ∨
      (∃ a b xs ys, x = .ref a ∧ y = .ref b ∧ H a = some (.tup xs) ∧ H b = some (.tup ys) ∧ xs.length ≤ 10000 ∧ Paired (EqX n H) xs ys) ∨
      (1 ≤ n ∧ ∃ (a b : Addr) (ks ls : List (Key × V)) (ss : List Str), x = .ref a ∧ y = .ref b ∧ H a = some (.dK ks) ∧ H b = some (.dK ls) ∧ ks.map (·.1) = ss.map Sum.inr ∧ ls.map (·.1) = ss.map Sum.inr ∧ ss.Nodup ∧ ss.length ≤ 10000 ∧ Paired (fun p q => EqX n (cut [a] H) p.2 q.2) ks ls)) ∧ ∀ H', Same H H' → Q (.bl true) H'
theorem fnok_or {P : Program} {w : World} {K : PySem.W.Frag} {mg : Str → Option Value} {base : Heap} {k : Nat} {f : Addr} {fd : FuncData} {ps : List Str} {sp sp1 sp2 : Sp} (h1 : FnOk P w K mg base CX0 k f fd ps sp1) (h2 : FnOk P w K mg base CX0 k f fd ps sp2)
    (h : ∀ vs H Q E, sp vs H Q E → sp1 vs H Q E ∨ sp2 vs H Q E) : FnOk P w K mg base CX0 k f fd ps sp :=
  ⟨fun vs H Q E q => (h vs H Q E q).elim (h1.len vs H Q E) (h2.len vs H Q E), fun A outer s H args us vs Q E hr he hb hv hs => (h _ _ _ _ hs).elim (fun q => h1.run A outer s H args us vs Q E hr he hb hv q) fun q => h2.run A outer s H args us vs Q E hr he hb hv q⟩
theorem val_at {kvs : List (Key × V)} (nd : (kvs.map (·.1)).Nodup) : ∀ {i : Nat} {k : Key} {v : V}, kvs[i]? = some (k, v) → valV kvs k = some v := by
  induction kvs with
  | nil => intro i k v e; simp at e
  | cons p r ih =>
    intro i k v e
    have nd' := List.nodup_cons.mp nd
    cases i with
    | zero => cases e; exact valV_pos (p := (k, v)) rfl
    | succ i =>
      rw [valV_neg fun z => nd'.1 (List.mem_map.mpr ⟨(k, v), List.mem_of_getElem? e, z.symm⟩)]
      exact ih nd'.2 e
theorem inr_nd' {l : List Str} (h : l.Nodup) : (l.map (Sum.inr : Str → Key)).Nodup := by
  induction l with
  | nil => exact List.nodup_nil
  | cons a r ih =>
    have h' := List.nodup_cons.mp h
    refine List.nodup_cons.mpr ⟨fun z => ?_, ih h'.2⟩
    obtain ⟨b, hb, e⟩ := List.mem_map.mp z
    exact h'.1 (by rw [← Sum.inr.inj e]; exact hb)
theorem walk_zipT {K : PySem.W.Frag} {a b : Addr} {xs ys : List V} {n : Nat} (hn : n = min xs.length ys.length) : Walk (RZ.ItzT K a b) n (fun H => SqT K H a xs ∧ SqT K H b ys) (YPair (fun i => xs[i]?) (fun i => ys[i]?)) := by
  subst hn
  refine ⟨fun i H hi q => ?_, fun H q => ⟨xs, ys, q.1, q.2, by omega⟩, fun i H v H' hi q y => ?_⟩
  · have h1 : i < xs.length := by omega
    have h2 : i < ys.length := by omega
    exact ⟨xs, ys, xs[i], ys[i], q.1, q.2, by simp [h1], by simp [h2]⟩
  · obtain ⟨T, x, z, h1, h2, h3, h4, h5⟩ := y
    exact ⟨T, x, z, h1, h2, h3, h4 xs q.1, h5 ys q.2⟩
theorem kitTwo {K : PySem.W.Frag} {t : String} {b1 b2 : Bool} (h1 : kitB t "list" = some b1) (h2 : kitB t "tuple" = some b2) : PySem.W.kitAny K (.type t) [.type "list", .type "tuple"] = some (b1 || b2) := by
  refine kitAny_cons (kit_ty h1) (fun e => ?_) (fun e => by rw [e]; rfl)
  rw [e]
  exact kitAny_cons (kit_ty h2) (fun e2 => by rw [e2]; exact kitAny_nil) (fun e2 => by rw [e2]; rfl)
theorem leaf_ty {x : V} (lx : Leaf x) : ∃ (t : String) (b : Bool), (∀ (K : PySem.W.Frag) (H : Hp), TyX K H x (.type t)) ∧ kitB t "list" = some false ∧ kitB t "tuple" = some false ∧ kitB t "dict" = some false ∧ kitB t "bool" = some b := by
  cases lx with
  | non => exact ⟨"NoneType", _, fun _ _ => .base .non, by decide +kernel, by decide +kernel, by decide +kernel, (by decide +kernel : kitB "NoneType" "bool" = some false)⟩
  | bl v => exact ⟨"bool", _, fun _ _ => .base (.bl v), by decide +kernel, by decide +kernel, by decide +kernel, (by decide +kernel : kitB "bool" "bool" = some true)⟩
  | str v => exact ⟨"str", _, fun _ _ => .base (.str v), by decide +kernel, by decide +kernel, by decide +kernel, (by decide +kernel : kitB "str" "bool" = some false)⟩
section
variable {P : Program} {w : World} {K : PySem.W.Frag} {mg : Str → Option Value} {base : Heap}
theorem scEx : FnScope ["_law_mine", "_law_theirs", "_law_alike", "_law_a", "_law_b", "_law_key"] ["_law_mine", "_law_theirs"] (defScope sExact) := ⟨rfl, rfl, rfl, by decide +kernel, rfl, by decide +kernel, by decide +kernel⟩
theorem ok_exact {f : Addr} {fd : FuncData} (F : Fun K "_law_exact" "_law_exact" sExact f fd) (T : Free3 mg) (gE : mg "_law_exact" = some (.ref f)) (bE : Binds K fd ["_law_mine", "_law_theirs"] []) : ∀ n : Nat, FnOk P w K mg base CX0 (n + 1) f fd ["_law_mine", "_law_theirs"] (spExact n) := by
  intro n
  induction n with
  | zero =>
    refine F.ok scEx (fun vs H Q E h => ?_) (fun cdv A outer s H vs Q E hr h => ?_)
    · obtain ⟨x, y, rfl, _⟩ := h; rfl
    · obtain ⟨x, y, rfl, ⟨lx, e⟩, k⟩ := h
      have e := e.symm
      subst e
      have hu := hu_of hr
      refine ⟨_, pss_cons (ps_if (pt_val (pe_callB call_isiT (by rfl) T.isi (by decide +kernel) (pa_cons (pv 0) (pa_cons (pe_tup (pa_cons (pe_bltn (v := .ty "list") rfl T.list (by decide +kernel) rfl) (pa_cons (pe_bltn (v := .ty "tuple") rfl T.tuple (by decide +kernel) rfl) pa_nil))) pa_nil)))) pss_never pss_nil)
        (pss_cons (ps_if (pt_val (pe_callB call_isi (by rfl) T.isi (by decide +kernel) (pa_cons (pv 0) (pa_cons (pe_bltn (v := .ty "dict") rfl T.dict (by decide +kernel) rfl) pa_nil)))) pss_never pss_nil)
        (pss_one (ps_ret (pe_and (pe_cmpR op_eq (pe_callB call_isi (by rfl) T.isi (by decide +kernel) (pa_cons (pv 0) (pa_cons (pe_bltn (v := .ty "bool") rfl T.bool (by decide +kernel) rfl) pa_nil))) (pe_callB call_isi (by rfl) T.isi (by decide +kernel) (pa_cons (pv 1) (pa_cons (pe_bltn (v := .ty "bool") rfl T.bool (by decide +kernel) rfl) pa_nil))) (nomark _)) (pe_one (pe_cmpR op_eq (pv 0) (pv 1) (nomark _))))))), ?_⟩
      obtain ⟨t, b, ty, e1, e2, e3, e4⟩ := leaf_ty lx
      refine ⟨_, rfl, by show 2 ≤ sizeLine; decide, fun T1 hT1 => ?_⟩
      refine ⟨x, T1, [.ty "list", .ty "tuple"], .type t, [.type "list", .type "tuple"], false, rfl, upd_same, .cons (.ty _) (.cons (.ty _) .nil), ty _ _, kitTwo e1 e2, _, rfl, iteF ?_⟩
      refine ⟨_, rfl, _, .ty "dict", .type t, .type "dict", false, rfl, .ty _, ty _ _, kit_ty e3, _, rfl, iteF ?_⟩
      refine ⟨_, rfl, _, .ty "bool", .type t, .type "bool", b, rfl, .ty _, ty _ _, kit_ty e4, _, rfl, _, .ty "bool", .type t, .type "bool", b, rfl, .ty _, ty _ _, kit_ty e4, rfl, _, rfl, ?_⟩
      rw [decide_eq_true rfl]
      refine iteT ⟨_, rfl, _, rfl, by cases lx <;> rfl, ?_⟩
      rw [decide_eq_true rfl]
      exact k _ (Same.new hT1)
  | succ n ih =>
    have CE : Cal P w K mg base "_law_exact" (n + 1) ["_law_mine", "_law_theirs"] (spExact n) := Cal.of gE F.kp ih bE
    have deep : FnOk P w K mg base CX0 (n + 2) f fd ["_law_mine", "_law_theirs"] (spDeep n) := by
     refine F.ok scEx (fun vs H Q E h => ?_) (fun cdv A outer s H vs Q E hr h => ?_)
     · obtain ⟨x, y, rfl, _⟩ := h; rfl
     · obtain ⟨x, y, rfl, hx, k⟩ := h
       have hu := hu_of hr
       refine ⟨_, pss_cons (ps_if (pt_val (pe_callB call_isiT (by rfl) T.isi (by decide +kernel) (pa_cons (pv 0) (pa_cons (pe_tup (pa_cons (pe_bltn (v := .ty "list") rfl T.list (by decide +kernel) rfl) (pa_cons (pe_bltn (v := .ty "tuple") rfl T.tuple (by decide +kernel) rfl) pa_nil))) pa_nil)))) (pss_cons (ps_set (i := 2) scEx.nd rfl (Or.inl rfl) (pe_and (pe_cmpR op_eq (pe_callB call_isi (by rfl) T.isi (by decide +kernel) (pa_cons (pv 1) (pa_cons (pe_bltn (v := .ty "list") rfl T.list (by decide +kernel) rfl) pa_nil))) (pe_callB call_isi (by rfl) T.isi (by decide +kernel) (pa_cons (pv 0) (pa_cons (pe_bltn (v := .ty "list") rfl T.list (by decide +kernel) rfl) pa_nil))) (nomark _)) (pe_one (pe_cmpR op_eq (pe_callB call_isi (by rfl) T.isi (by decide +kernel) (pa_cons (pv 1) (pa_cons (pe_bltn (v := .ty "tuple") rfl T.tuple (by decide +kernel) rfl) pa_nil))) (pe_callB call_isi (by rfl) T.isi (by decide +kernel) (pa_cons (pv 0) (pa_cons (pe_bltn (v := .ty "tuple") rfl T.tuple (by decide +kernel) rfl) pa_nil))) (nomark _)))))
           (pss_one (ps_ret (pe_and (pv 2) (pe_and (pe_cmpR op_eq (pe_callB call_len_seq (by rfl) T.len PySem.boot_len (pa_cons (pv 0) pa_nil)) (pe_callB call_len_seq (by rfl) T.len PySem.boot_len (pa_cons (pv 1) pa_nil)) (nomark _)) (pe_one (pe_callB (cr_all rfl) (by rfl) T.all (by decide +kernel) (pa_cons (pe_lc (own := [("_law_a", 3), ("_law_b", 4)]) (g := gTup K 2 (gCons (gName 3) (gCons (gName 4) gNil))) (tt := tYes) (te := tCall (spExact n) [] E0 (tCons (tVar 3) (tCons (tVar 4) tNil))) rfl scEx.nd (RZ.pi_zipA (by rfl) T.zip (pa_cons (pv 0) (pa_cons (pv 1) pa_nil)))
             (blkOk_by (N := ["_law_mine", "_law_theirs", "_law_alike", "_law_a", "_law_b", "_law_key"]) (sc := defScope sExact) (by decide +kernel)) (fun _ _ _ _ _ => pg_tup rfl (pgs_cons (pg_name (i := 3) scEx.nd rfl (Or.inl rfl)) (pgs_cons (pg_name (i := 4) scEx.nd rfl (Or.inl rfl)) pgs_nil))) (fun _ _ _ _ _ => pts_nil)
             (fun _ _ _ _ _ => pe_cal CE (hr.mono (by omega)) rfl (pa_cons (pv 3) (pa_cons (pv 4) pa_nil)))) pa_nil)))))))) pss_nil)
         (pss_cons (ps_if (pt_val (pe_callB call_isi (by rfl) T.isi (by decide +kernel) (pa_cons (pv 0) (pa_cons (pe_bltn (v := .ty "dict") rfl T.dict (by decide +kernel) rfl) pa_nil)))) (pss_cons (ps_set (i := 2) scEx.nd rfl (Or.inl rfl) (pe_and (pe_callB call_isi (by rfl) T.isi (by decide +kernel) (pa_cons (pv 1) (pa_cons (pe_bltn (v := .ty "dict") rfl T.dict (by decide +kernel) rfl) pa_nil))) (pe_one (pe_cal CE (hr.mono (by omega)) rfl (pa_cons (pe_callTy (call_listD rfl) (by rfl) T.list (by decide +kernel) (pa_cons (pv 0) pa_nil)) (pa_cons (pe_callTy (call_listD rfl) (by rfl) T.list (by decide +kernel) (pa_cons (pv 1) pa_nil)) pa_nil))))))
           (pss_one (ps_ret (pe_and (pv 2) (pe_one (pe_callB (cr_all rfl) (by rfl) T.all (by decide +kernel) (pa_cons (pe_lock (pe_lc (own := [("_law_key", 5)]) (g := gName 5) (tt := tYes) (te := tCall (spExact n) [] E0 (tCons (tDGet (tVar 0) (tVar 5)) (tCons (tDGet (tVar 1) (tVar 5)) tNil))) rfl scEx.nd (pi_keys (pv 0))
             (blkOk_by (N := ["_law_mine", "_law_theirs", "_law_alike", "_law_a", "_law_b", "_law_key"]) (sc := defScope sExact) (by decide +kernel)) (fun _ _ _ _ _ => pg_name (i := 5) scEx.nd rfl (Or.inl rfl)) (fun _ _ _ _ _ => pts_nil)
             (fun _ _ _ _ _ => pe_cal CE (hr.mono (by omega)) rfl (pa_cons (pe_dget hu (pv 0) (pv 5) (fun _ _ => rfl)) (pa_cons (pe_dget hu (pv 1) (pv 5) (fun _ _ => rfl)) pa_nil))))) pa_nil))))))) pss_nil)
         pss_never), ?_⟩
       rcases hx with ⟨a, b, xs, ys, rfl, rfl, ha, hb, l0, hp⟩ | ⟨a, b, xs, ys, rfl, rfl, ha, hb, l0, hp⟩ | ⟨h1n, a, b, ks, ls, ss, rfl, rfl, ha, hb, e1, e2, nd, l0, hp⟩
       · refine ⟨_, rfl, by show 2 ≤ sizeLine; decide, fun T1 hT1 => ?_⟩
         have ha1 := Same.new (o := .tup [.ty "list", .ty "tuple"]) hT1 _ _ ha
         have hb1 := Same.new (o := .tup [.ty "list", .ty "tuple"]) hT1 _ _ hb
         have hp1 := paired_imp (fun _ _ => EqX.same n (Same.new (o := .tup [.ty "list", .ty "tuple"]) hT1)) hp
         have s1 := Same.new (o := .tup [.ty "list", .ty "tuple"]) hT1
         refine ⟨.ref a, T1, [.ty "list", .ty "tuple"], .type "list", [.type "list", .type "tuple"], true, rfl, upd_same, .cons (.ty _) (.cons (.ty _) .nil), .base (.lst (by assumption)), kitTwo (b1 := true) (b2 := false) (by decide +kernel) (by decide +kernel), _, rfl, iteT ?_⟩
         generalize L2.upd H T1 (.tup [.ty "list", .ty "tuple"]) = H1 at ha1 hb1 hp1 s1
         refine ⟨_, rfl, _, .ty "list", .type "list", .type "list", true, rfl, .ty _, .base (.lst (by assumption)), kit_ty (by decide +kernel), _, rfl, _, .ty "list", .type "list", .type "list", true, rfl, .ty _, .base (.lst (by assumption)), kit_ty (by decide +kernel), rfl, _, rfl, ?_⟩
         refine iteT ⟨_, rfl, _, .ty "tuple", .type "list", .type "tuple", false, rfl, .ty _, .base (.lst (by assumption)), kit_ty (by decide +kernel), _, rfl, _, .ty "tuple", .type "list", .type "tuple", false, rfl, .ty _, .base (.lst (by assumption)), kit_ty (by decide +kernel), rfl, ?_⟩
         refine ⟨_, rfl, _, rfl, iteT ⟨_, rfl, a, xs, rfl, .inl (SqL.of ha1), _, rfl, b, ys, rfl, .inl (SqL.of hb1), rfl, _, rfl, ?_⟩⟩
         have le := paired_len hp
         rw [le, decide_eq_true rfl]
         refine iteT ⟨_, rfl, _, rfl, a, b, xs, ys, rfl, .inl ⟨SqL.of ha1, SqL.of hb1, fun D hD => ?_⟩⟩
         refine lc_it (walk_zip (K := K) (a := a) (b := b) (xs := xs) (ys := ys) (n := xs.length) (by omega)) (fun i H' => Same H1 H' ∧ H' D = some (.lst ((List.replicate i true).map V.bl))) ⟨Same.new hD, upd_same⟩ (fun i H' _ z => ⟨SqL.of (z.1 _ _ ha1), SqL.of (z.1 _ _ hb1)⟩) ?_ ?_
         · rintro i v H2 H3 hi ⟨sm, hl⟩ ⟨T2, x, y, rfl, hT2, rfl, ex, ey⟩
           have exy := paired_at hp1 ex ey
           have nDT : D ≠ T2 := ne_of_none hl hT2
           refine ⟨T2, _, rfl, SqT.of upd_same, rfl, _, _, rfl, _, _, rfl, rfl, rfl, ?_⟩
           dsimp only [tYes]
           rw [if_pos rfl]
           refine ⟨_, rfl, _, rfl, x, y, rfl, EqX.same n (fun c u e => Same.new hT2 _ _ (sm _ _ e)) exy, fun H4 s4 => ?_⟩
           refine ⟨_, s4 _ _ (by rw [upd_ne nDT]; exact hl), by rw [List.length_map, List.length_replicate, sizeLine_eq]; omega, fun c u e => ?_, by rw [upd_same, repl_snoc]⟩
           rw [upd_ne (ne_of_none e hD)]; exact s4 _ _ (Same.new hT2 _ _ (sm _ _ e))
         · rintro H2 ⟨sm, hl⟩
           refine ⟨D, _, rfl, SqL.of hl, ?_⟩
           rw [all_true]
           exact k H2 (Same.trans s1 sm)
       · refine ⟨_, rfl, by show 2 ≤ sizeLine; decide, fun T1 hT1 => ?_⟩
         have ha1 := Same.new (o := .tup [.ty "list", .ty "tuple"]) hT1 _ _ ha
         have hb1 := Same.new (o := .tup [.ty "list", .ty "tuple"]) hT1 _ _ hb
         have hp1 := paired_imp (fun _ _ => EqX.same n (Same.new (o := .tup [.ty "list", .ty "tuple"]) hT1)) hp
         have s1 := Same.new (o := .tup [.ty "list", .ty "tuple"]) hT1
         refine ⟨.ref a, T1, [.ty "list", .ty "tuple"], .type "tuple", [.type "list", .type "tuple"], true, rfl, upd_same, .cons (.ty _) (.cons (.ty _) .nil), .base (.tup (by assumption)), kitTwo (b1 := false) (b2 := true) (by decide +kernel) (by decide +kernel), _, rfl, iteT ?_⟩
         generalize L2.upd H T1 (.tup [.ty "list", .ty "tuple"]) = H1 at ha1 hb1 hp1 s1
         refine ⟨_, rfl, _, .ty "list", .type "tuple", .type "list", false, rfl, .ty _, .base (.tup (by assumption)), kit_ty (by decide +kernel), _, rfl, _, .ty "list", .type "tuple", .type "list", false, rfl, .ty _, .base (.tup (by assumption)), kit_ty (by decide +kernel), rfl, _, rfl, ?_⟩
         refine iteT ⟨_, rfl, _, .ty "tuple", .type "tuple", .type "tuple", true, rfl, .ty _, .base (.tup (by assumption)), kit_ty (by decide +kernel), _, rfl, _, .ty "tuple", .type "tuple", .type "tuple", true, rfl, .ty _, .base (.tup (by assumption)), kit_ty (by decide +kernel), rfl, ?_⟩
         refine ⟨_, rfl, _, rfl, iteT ⟨_, rfl, a, xs, rfl, .inr (SqT.of ha1), _, rfl, b, ys, rfl, .inr (SqT.of hb1), rfl, _, rfl, ?_⟩⟩
         have le := paired_len hp
         rw [le, decide_eq_true rfl]
         refine iteT ⟨_, rfl, _, rfl, a, b, xs, ys, rfl, .inr ⟨SqT.of ha1, SqT.of hb1, fun D hD => ?_⟩⟩
         refine lc_it (walk_zipT (K := K) (a := a) (b := b) (xs := xs) (ys := ys) (n := xs.length) (by omega)) (fun i H' => Same H1 H' ∧ H' D = some (.lst ((List.replicate i true).map V.bl))) ⟨Same.new hD, upd_same⟩ (fun i H' _ z => ⟨SqT.of (z.1 _ _ ha1), SqT.of (z.1 _ _ hb1)⟩) ?_ ?_
         · rintro i v H2 H3 hi ⟨sm, hl⟩ ⟨T2, x, y, rfl, hT2, rfl, ex, ey⟩
           have exy := paired_at hp1 ex ey
           have nDT : D ≠ T2 := ne_of_none hl hT2
           refine ⟨T2, _, rfl, SqT.of upd_same, rfl, _, _, rfl, _, _, rfl, rfl, rfl, ?_⟩
           dsimp only [tYes]
           rw [if_pos rfl]
           refine ⟨_, rfl, _, rfl, x, y, rfl, EqX.same n (fun c u e => Same.new hT2 _ _ (sm _ _ e)) exy, fun H4 s4 => ?_⟩
           refine ⟨_, s4 _ _ (by rw [upd_ne nDT]; exact hl), by rw [List.length_map, List.length_replicate, sizeLine_eq]; omega, fun c u e => ?_, by rw [upd_same, repl_snoc]⟩
           rw [upd_ne (ne_of_none e hD)]; exact s4 _ _ (Same.new hT2 _ _ (sm _ _ e))
         · rintro H2 ⟨sm, hl⟩
           refine ⟨D, _, rfl, SqL.of hl, ?_⟩
           rw [all_true]
           exact k H2 (Same.trans s1 sm)
       · refine ⟨_, rfl, by show 2 ≤ sizeLine; decide, fun T1 hT1 => ?_⟩
         have s1 := Same.new (o := .tup [.ty "list", .ty "tuple"]) hT1
         have ha1 := s1 _ _ ha
         have hb1 := s1 _ _ hb
         have hp1 := paired_imp (fun _ _ => EqX.same n (cut_same s1)) hp
         refine ⟨.ref a, T1, [.ty "list", .ty "tuple"], .type "dict", [.type "list", .type "tuple"], false, rfl, upd_same, .cons (.ty _) (.cons (.ty _) .nil), .base (.dK ha1), kitTwo (b1 := false) (b2 := false) (by decide +kernel) (by decide +kernel), _, rfl, iteF ?_⟩
         generalize L2.upd H T1 (.tup [.ty "list", .ty "tuple"]) = H1 at ha1 hb1 hp1 s1
         refine ⟨_, rfl, _, .ty "dict", .type "dict", .type "dict", true, rfl, .ty _, .base (.dK ha1), kit_ty (by decide +kernel), _, rfl, iteT ?_⟩
         refine ⟨_, rfl, _, .ty "dict", .type "dict", .type "dict", true, rfl, .ty _, .base (.dK hb1), kit_ty (by decide +kernel), _, rfl, iteT ?_⟩
         have eks : ks.map (fun kv => kV kv.1) = ss.map V.str := by
           have : ks.map (fun kv => kV kv.1) = (ks.map (·.1)).map kV := by rw [List.map_map]; rfl
           rw [this, e1, List.map_map]; rfl
         have els : ls.map (fun kv => kV kv.1) = ss.map V.str := by
           have : ls.map (fun kv => kV kv.1) = (ls.map (·.1)).map kV := by rw [List.map_map]; rfl
           rw [this, e2, List.map_map]; rfl
         refine ⟨_, rfl, a, ks, rfl, .inl ha1, fun M1 hM1 => ⟨_, rfl, b, ls, rfl, .inl (Same.new hM1 _ _ hb1), fun M2 hM2 => ?_⟩⟩
         rw [eks, els] at *
         have nM : M1 ≠ M2 := fun e => by rw [← e, upd_same] at hM2; cases hM2
         refine ⟨_, _, rfl, ?_, fun H2 s2 => ?_⟩
         · refine EqX.up (m := 1) (.inr (.inl ⟨M1, M2, ss.map V.str, ss.map V.str, rfl, rfl, by rw [upd_ne nM, upd_same], by rw [upd_same], by rw [List.length_map]; exact l0, ?_⟩)) h1n
           exact paired_imp (fun _ _ z => z) (eqx_strs (n := 0) ss)
         have s12 : Same H1 H2 := fun c u e => s2 _ _ (Same.new hM2 _ _ (Same.new hM1 _ _ e))
         have ha2 := s12 _ _ ha1
         have hb2 := s12 _ _ hb1
         have hp2 := paired_imp (fun _ _ => EqX.same n (cut_same s12)) hp1
         refine ⟨_, rfl, _, rfl, iteT ⟨a, _, ha2, trivial, fun od => ?_⟩⟩
         refine ⟨_, rfl, a, od, rfl, .inl ⟨ks, upd_same, fun D hD => ?_⟩⟩
         have nD : a ≠ D := fun e => by rw [← e, upd_same] at hD; cases hD
         have sL : Same (cut [a] H2) (L2.upd H2 a (.frz od (.dK ks))) := fun c u e => by
           obtain ⟨nc, e⟩ := cut_some e
           rw [upd_ne (by simpa using nc)]; exact e
         have le := paired_len hp
         have lks : ks.length = ss.length := by rw [← List.length_map (·.1), e1, List.length_map]
         refine lc_it (walk_keys (d := a) (o := od) (kvs := ks)) (fun i H' => Same (L2.upd H2 a (.frz od (.dK ks))) H' ∧ H' D = some (.lst ((List.replicate i true).map V.bl))) ⟨Same.new hD, upd_same⟩ (fun i H' _ z => z.1 _ _ upd_same) ?_ ?_
         · rintro i v H3 H4 hi ⟨sm, hl⟩ ⟨rfl, kk, v0, hkv, rfl⟩
           have hli : i < ls.length := by omega
           have hlv := List.getElem?_eq_getElem hli
           have exy := paired_at hp2 hkv hlv
           have ek : (ks.map (·.1))[i]? = some kk := by rw [List.getElem?_map, hkv]; rfl
           have el : (ls.map (·.1))[i]? = some (ls[i].1) := by rw [List.getElem?_map, hlv]; rfl
           rw [e1] at ek
           rw [e2, ek] at el
           have el : kk = ls[i].1 := Option.some.inj el
           have v1 : valV ks kk = some v0 := val_at (by rw [e1]; exact inr_nd' nd) hkv
           have v2 : valV ls kk = some ls[i].2 := val_at (by rw [e2]; exact inr_nd' nd) (by rw [hlv, el])
           have rb : Rd H4 b (.dK ls) := by
             by_cases c : b = a
             · subst c
               rw [ha2] at hb2
               have : ks = ls := by injection hb2 with z; injection z
               rw [← this]
               exact .inr ⟨od, sm _ _ upd_same⟩
             · exact .inl (sm _ _ (by rw [upd_ne c]; exact hb2))
           refine ⟨rfl, ?_⟩
           dsimp only [tYes]
           rw [if_pos rfl]
           refine ⟨_, rfl, _, rfl, a, v0, rfl, .inl ⟨ks, kk, .inr ⟨od, sm _ _ upd_same⟩, rfl, v1.symm⟩, _, rfl, _, rfl, b, _, rfl, .inl ⟨ls, kk, rb, rfl, v2.symm⟩, _, _, rfl, EqX.same n (fun c u e => sm _ _ (sL _ _ e)) exy, fun H5 s5 => ?_⟩
           refine ⟨_, s5 _ _ hl, by rw [List.length_map, List.length_replicate, sizeLine_eq]; omega, fun c u e => ?_, by rw [upd_same, repl_snoc]⟩
           rw [upd_ne (ne_of_none e hD)]; exact s5 _ _ (sm _ _ e)
         · rintro H3 ⟨sm, hl⟩
           refine ⟨sm _ _ upd_same, D, _, rfl, SqL.of (by rw [upd_ne nD.symm]; exact hl), ?_⟩
           rw [all_true]
           exact k _ (Same.trans (Same.trans s1 s12) (Same.unlock ha2 sm))
    exact fnok_or (ih.mono (by omega)) deep fun vs H Q E ⟨x, y, e, h, k⟩ => by
      rcases h with h | h
      · exact .inl ⟨x, y, e, h, k⟩
      · exact .inr ⟨x, y, e, h, k⟩
end
end D1
end L2
namespace L2
namespace D1
open PySem PySem.Spec PyProof.Rows
theorem tree_up {prog : Program} {w : World} {s : Shared} {n : Nat} {v y : Value} {b : Bool} (t : PySem.W.EqTree prog w s n v y b) : PySem.W.EqTree prog w s (n + 1) v y b := by
  induction t with
  | leaf h => exact .leaf fun A hu => h A (by omega)
  | same => exact .same
  | lists h1 h2 h3 h4 _ ih => exact .lists h1 h2 h3 h4 ih
  | listsLen h1 h2 h3 h4 => exact .listsLen h1 h2 h3 h4
  | tuples h1 h2 h3 _ ih => exact .tuples h1 h2 h3 ih
  | dicts h1 h2 h3 h4 h5 _ ih => exact .dicts h1 h2 h3 h4 h5 ih
/-- the values of two dicts with the same keys, by their keys -/
theorem kv_tree {X : Cx} {s : Shared} {n : Nat} {R : V → V → Prop} {ks ls : List (Key × V)} {va vb : List (Key × Value)} (ra : KV ks va) (rb : KV ls vb) (nd : (ls.map (·.1)).Nodup) (e : ks.map (·.1) = ls.map (·.1))
    (h : Paired (fun p q => R p.2 q.2) ks ls) (f : ∀ x y u v, R x y → RelV x u → RelV y v → PySem.W.EqTree X.prog X.w s n u v true) : ∀ k v y, (k, v) ∈ va → valueAt vb k = some y → PySem.W.EqTree X.prog X.w s n v y true := by
  intro k v y hm hv
  obtain ⟨i, hi, e1⟩ := List.getElem_of_mem hm
  have hva : va[i]? = some (k, v) := by rw [List.getElem?_eq_getElem hi, e1]
  have lk : ks.length = va.length := paired_len ra
  have ll : ks.length = ls.length := paired_len h
  have h1 := List.getElem?_eq_getElem (l := ks) (i := i) (by omega)
  have h2 := List.getElem?_eq_getElem (l := ls) (i := i) (by omega)
  have a1 := paired_at (show Paired _ ks va from ra) h1 hva
  have a2 := paired_at h h1 h2
  have ek : (ks.map (·.1))[i]? = some ks[i].1 := by rw [List.getElem?_map, h1]; rfl
  rw [e, List.getElem?_map, h2] at ek
  have ek : ls[i].1 = ks[i].1 := Option.some.inj ek
  have ek2 : ls[i].1 = k := by rw [ek]; exact a1.1
  have v2 : valV ls k = some ls[i].2 := val_at nd (by rw [h2, ← ek2])
  have r := rb.val k
  rw [v2] at r
  obtain ⟨w', ew, rw'⟩ := RelO.some_of r
  rw [hv] at ew
  cases ew
  exact f _ _ _ _ a2 a1.2 rw'
theorem all_some {ls : List (Key × V)} {va vb : List (Key × Value)} (rb : KV ls vb) (h : ∀ p ∈ va, p.1 ∈ ls.map (·.1)) : (va.all fun p => (valueAt vb p.1).isSome && true) = true := by
  refine List.all_eq_true.mpr fun p hp => ?_
  rw [Bool.and_true, ← RelO.isSome_eq (rb.val p.1), ← valV_any]
  obtain ⟨q, hq, e⟩ := List.mem_map.mp (h p hp)
  exact List.any_eq_true.mpr ⟨q, hq, decide_eq_true e⟩
theorem eqx_tree {X : Cx} {pins : List (Addr × Obj)} {σ : L2.St} {s : Shared} : ∀ (n : Nat) {H : Hp} {x y : V} {u v : Value}, Inv X pins σ H s → EqX n H x y → RelV x u → RelV y v → PySem.W.EqTree X.prog X.w s n u v true
  | 0, H, x, y, u, v, I, h, ru, rv => by
    obtain ⟨lx, e⟩ := h
    subst e
    exact .leaf fun A _ => eqAt_same ru rv (by cases lx <;> rfl)
  | n + 1, H, x, y, u, v, I, h, ru, rv => by
    rcases h with h | ⟨a, b, xs, ys, rfl, rfl, h3, h4, h5, h6⟩ | ⟨a, b, xs, ys, rfl, rfl, h3, h4, h5, h6⟩ | ⟨h0, a, b, ks, ls, ss, rfl, rfl, h3, h4, h5, h6, h7, h8, h9⟩
    · exact tree_up (eqx_tree n I h ru rv)
    · cases ru; cases rv
      by_cases hab : a = b
      · subst hab; exact .same
      obtain ⟨its, r, pl, _⟩ := I.list (SqL.of h3)
      obtain ⟨its2, r2, pl2, _⟩ := I.list (SqL.of h4)
      have l1 := r.length
      have l2 := r2.length
      have l3 := paired_len h6
      have t := PySem.W.EqTree.lists (prog := X.prog) (w := X.w) (n := n) (e := fun _ => true) hab pl.isList pl2.isList (by simp only [List.size_toArray]; omega) fun j h1 h2 => by
        simp only [List.size_toArray] at h1 h2
        have e1 : xs[j]? = some xs[j] := List.getElem?_eq_getElem (by omega)
        have e2 : ys[j]? = some ys[j] := List.getElem?_eq_getElem (by omega)
        obtain ⟨u1, q1, p1⟩ := r.get e1
        obtain ⟨u2, q2, p2⟩ := r2.get e2
        have q1 : its.toArray[j] = u1 := by
          have : its[j]? = some its[j] := List.getElem?_eq_getElem h1
          rw [this] at q1; simpa using Option.some.inj q1
        have q2 : its2.toArray[j] = u2 := by
          have : its2[j]? = some its2[j] := List.getElem?_eq_getElem h2
          rw [this] at q2; simpa using Option.some.inj q2
        rw [q1, q2]
        exact eqx_tree n I (paired_at h6 e1 e2) p1 p2
      have e : (List.range its.toArray.size).all (fun _ => true) = true := by simp
      rwa [e] at t
    · cases ru; cases rv
      by_cases hab : a = b
      · subst hab; exact .same
      obtain ⟨its, r, pl, _⟩ := I.tuple (SqT.of h3)
      obtain ⟨its2, r2, pl2, _⟩ := I.tuple (SqT.of h4)
      have l1 := r.length
      have l2 := r2.length
      have l3 := paired_len h6
      have t := PySem.W.EqTree.tuples (prog := X.prog) (w := X.w) (n := n) (e := fun _ => true) hab pl pl2 fun j h1 h2 => by
        simp only [List.size_toArray] at h1 h2
        have e1 : xs[j]? = some xs[j] := List.getElem?_eq_getElem (by omega)
        have e2 : ys[j]? = some ys[j] := List.getElem?_eq_getElem (by omega)
        obtain ⟨u1, q1, p1⟩ := r.get e1
        obtain ⟨u2, q2, p2⟩ := r2.get e2
        have q1 : its.toArray[j] = u1 := by
          have : its[j]? = some its[j] := List.getElem?_eq_getElem h1
          rw [this] at q1; simpa using Option.some.inj q1
        have q2 : its2.toArray[j] = u2 := by
          have : its2[j]? = some its2[j] := List.getElem?_eq_getElem h2
          rw [this] at q2; simpa using Option.some.inj q2
        rw [q1, q2]
        exact eqx_tree n I (paired_at h6 e1 e2) p1 p2
      have e : ((List.range (min its.toArray.size its2.toArray.size)).all (fun _ => true) && its.toArray.size == its2.toArray.size) = true := by
        simp only [List.size_toArray]
        simp; omega
      rwa [e] at t
    · cases ru; cases rv
      by_cases hab : a = b
      · subst hab; exact .same
      obtain ⟨_, ya, va, ra, da⟩ := (show ObjOk X.prog X.w H s.heap a (.dK ks) from I.hok a _ h3)
      obtain ⟨_, yb, vb, rb, db⟩ := (show ObjOk X.prog X.w H s.heap b (.dK ls) from I.hok b _ h4)
      have ndl : (ls.map (·.1)).Nodup := by rw [h6]; exact inr_nd' h7
      have ekl : ks.map (·.1) = ls.map (·.1) := h5.trans h6.symm
      have t := PySem.W.EqTree.dicts (knd := mixKind X.prog X.w) (n := n) (e := fun _ => true) hab ya yb da db (kv_tree ra rb ndl ekl h9 fun x y u v z r1 r2 => eqx_tree n I (EqX.same n cut_le z) r1 r2)
      have l1 : va.length = vb.length := by rw [← paired_len ra, ← paired_len rb]; exact paired_len h9
      have e : (va.length == vb.length && va.all fun p => (valueAt vb p.1).isSome && true) = true := by
        rw [all_some rb, l1]
        · simp
        · intro p hp
          rw [← ekl, KV.keys ra]
          exact List.mem_map_of_mem hp
      rwa [e] at t
/-- == of two alike dicts -/
theorem op_eqDX {X : Cx} (n : Nat) (hu : X.A.units + (n + 1) < cLine) : OpR X (compareOp .Eq) (fun x y H Q => ∃ (a b : Addr) (ks ls : List (Key × V)) (ss : List Str), x = .ref a ∧ y = .ref b ∧ Rd H a (.dK ks) ∧ Rd H b (.dK ls) ∧ ks.map (·.1) = ss.map Sum.inr ∧ ls.map (·.1) = ss.map Sum.inr ∧ ss.Nodup ∧ Paired (fun p q => EqX n H p.2 q.2) ks ls ∧ Q (.bl true) H) := by
  intro pins s σ H x y v u Q I rx ry h
  obtain ⟨a, b, ks, ls, ss, rfl, rfl, h3, h4, h5, h6, h7, h9, q⟩ := h
  obtain rfl : v = Value.ref a := rx
  obtain rfl : u = Value.ref b := ry
  obtain ⟨_, ya, va, ra, da⟩ := dk_rd I.hok h3
  obtain ⟨_, yb, vb, rb, db⟩ := dk_rd I.hok h4
  have ndl : (ls.map (·.1)).Nodup := by rw [h6]; exact inr_nd' h7
  have ekl : ks.map (·.1) = ls.map (·.1) := h5.trans h6.symm
  have l1 : va.length = vb.length := by rw [← paired_len ra, ← paired_len rb]; exact paired_len h9
  have e : (va.length == vb.length && va.all fun p => (valueAt vb p.1).isSome && true) = true := by
    rw [all_some rb, l1]
    · simp
    · intro p hp
      rw [← ekl, KV.keys ra]
      exact List.mem_map_of_mem hp
  exact PySem.W.eq_dictsT (knd := mixKind X.prog X.w) (n := n) (e := fun _ => true) ya yb da db (kv_tree ra rb ndl ekl h9 fun x y u v z r1 r2 => eqx_tree n I z r1 r2) hu (fin_bl I q e.symm)
abbrev CExact (P : Program) (w : World) (K : PySem.W.Frag) (mg : Str → Option Value) (base : Heap) (n : Nat) := Cal P w K mg base "_law_exact" (n + 1) ["_law_mine", "_law_theirs"] (spExact n)
theorem eqx_rows {H : Hp} : ∀ {ks ls : List (Key × V)} {bk : Bk}, Rows H ks bk → Rows H ls bk → (∀ r ∈ bk, (r.2.2.map (·.1)).Nodup ∧ r.2.2.length ≤ 10000) → Paired (fun p q => EqX 3 H p.2 q.2) ks ls
  | _, _, _, .nil, .nil, _ => .nil
  | _, _, _, .cons (b := r) h1 t1, .cons h2 t2, hb => by
    refine .cons ?_ (eqx_rows t1 t2 fun r hr => hb r (List.mem_cons_of_mem _ hr))
    obtain ⟨_, t, a, e1, g1, g2⟩ := h1
    obtain ⟨_, t', a', e1', g1', g2'⟩ := h2
    rw [e1, e1']
    obtain ⟨nd, ll⟩ := hb r List.mem_cons_self
    refine .inr (.inr (.inl ⟨t, t', _, _, rfl, rfl, g1, g1', by show 2 ≤ 10000; decide, .cons (eqx_str _) (.cons ?_ .nil)⟩))
    have ek : (kT r.2.2).map (·.1) = (r.2.2.map (·.1)).map Sum.inr := by rw [kT, List.map_map, List.map_map]; rfl
    refine .inr (.inr (.inr ⟨Nat.le_refl _, a, a', kT r.2.2, kT r.2.2, r.2.2.map (·.1), rfl, rfl, g2, g2', ek, ek, nd, by rw [List.length_map]; exact ll, ?_⟩))
    have : ∀ l : List (Str × Str), Paired (fun (p q : Key × V) => EqX 1 (cut [a] H) p.2 q.2) (kT l) (kT l) := fun l => by
      induction l with
      | nil => exact .nil
      | cons p l ih => exact .cons (eqx_str p.2) ih
    exact this _
theorem rows_cut {H : Hp} {a : Addr} {ks : List (Key × V)} {bk : Bk} (h1 : H a = some (.dK ks)) (r1 : Rows H ks bk) (ne : bk ≠ []) : ∀ {kv2 : List (Key × V)} {bk2 : Bk}, Rows H kv2 bk2 → Rows (cut [a] H) kv2 bk2 := fun {kv2 bk2} h2 => by
  unfold Rows at h2 ⊢
  induction h2 with
  | nil => exact .nil
  | cons g _ ih =>
    obtain ⟨e, t, a', ev, ht, ha⟩ := g
    have n1 : t ≠ a := fun z => by rw [z, h1] at ht; cases ht
    have n2 : a' ≠ a := book_ne h1 r1 ne ha
    exact .cons ⟨e, t, a', ev, by rw [cut_out (by simpa using n1)]; exact ht, by rw [TurnsAt, cut_out (by simpa using n2)]; exact ha⟩ ih
/-- two books that read alike -/
theorem eqx_book {H : Hp} {a b : Addr} {bk : Bk} (ha : BookAt H a bk) (hb : BookAt H b bk) (ok : BOk bk) (ne : bk ≠ []) : EqX 4 H (.ref a) (.ref b) := by
  obtain ⟨ks, h1, r1⟩ := ha
  obtain ⟨ls, h2, r2⟩ := hb
  have e1 : ks.map (·.1) = (bk.map (·.1)).map Sum.inr := by rw [r1.keys, List.map_map]; rfl
  have e2 : ls.map (·.1) = (bk.map (·.1)).map Sum.inr := by rw [r2.keys, List.map_map]; rfl
  have hrs : ∀ r ∈ bk, (r.2.2.map (·.1)).Nodup ∧ r.2.2.length ≤ 10000 := fun r hr => ⟨(ok.rs r hr).1, by have := (ok.rs r hr).2; omega⟩
  refine .inr (.inr (.inr ⟨by decide, a, b, ks, ls, bk.map (·.1), rfl, rfl, h1, h2, e1, e2, ok.nd, by rw [List.length_map]; have := ok.len; omega, ?_⟩))
  exact eqx_rows (rows_cut h1 r1 ne r1) (rows_cut h1 r1 ne r2) hrs
section
variable {P : Program} {w : World} {K : PySem.W.Frag} {mg : Str → Option Value} {base : Heap} {C : Addr}
theorem scDe : FnScope ["self", "other"] ["self", "other"] (defScope sDEq) := ⟨rfl, rfl, rfl, by decide +kernel, rfl, by decide +kernel, by decide +kernel⟩
theorem pair_app {α β : Type} {R : α → β → Prop} {xs : List α} {ys : List β} {x : α} {y : β} (h : Paired R xs ys) (e : R x y) : Paired R (xs ++ [x]) (ys ++ [y]) := by
  induction h with
  | nil => exact .cons e .nil
  | cons a _ ih => exact .cons a ih
theorem unl_at {H : Hp} {b p : Addr} {u o : HO} {od : Obj} {xs : List V} (h : H b = some (.frz od u)) (e : H p = some (.tup xs)) : (L2.upd H b o) p = some (.tup xs) := by
  rw [upd_ne fun z => by rw [z, h] at e; cases e]; exact e
theorem merge_id2 {kvs : List (Key × V)} (nd : (kvs.map (·.1)).Nodup) : mergeK [] kvs = kvs := by
  have h : ∀ (more acc : List (Key × V)), (∀ p ∈ more, p.1 ∉ acc.map (·.1)) → (more.map (·.1)).Nodup → mergeK acc more = acc ++ more := by
    intro more
    induction more with
    | nil => intro acc _ _; exact (List.append_nil _).symm
    | cons p r ih =>
      intro acc h nd
      have nd' := List.nodup_cons.mp nd
      show mergeK (putK acc p.1 p.2) r = _
      rw [D1.putK_new (h p List.mem_cons_self), ih _ ?_ nd'.2, List.append_assoc]
      · rfl
      · intro q hq z
        rw [List.map_append] at z
        rcases List.mem_append.mp z with z | z
        · exact h q (List.mem_cons_of_mem _ hq) z
        · have : q.1 = p.1 := List.mem_singleton.mp z
          exact nd'.1 (by show p.1 ∈ _; rw [← this]; exact List.mem_map_of_mem hq)
  rw [h kvs [] (by simp) nd]; rfl
theorem rows_unl {H : Hp} {b : Addr} {u o : HO} {od : Obj} {kvs : List (Key × V)} {bk : Bk} (hb : H b = some (.frz od u)) (h : Rows H kvs bk) : Rows (L2.upd H b o) kvs bk := by
  unfold Rows at h ⊢
  induction h with
  | nil => exact .nil
  | cons h1 _ ih =>
    obtain ⟨e, t, a, ev, ht, ha⟩ := h1
    refine .cons ⟨e, t, a, ev, ?_, ?_⟩ ih
    · rw [upd_ne fun z => by rw [z, hb] at ht; cases ht]; exact ht
    · rw [TurnsAt, upd_ne fun z => by rw [TurnsAt, z, hb] at ha; cases ha]; exact ha
/-- the law's desk of a world -/
abbrev sLDesk : Stmt := top 63
def spLDesk (C : Addr) : Sp := fun vs H Q _ => ∃ (W : Addr) (bk : Bk) (st : Str), vs = [.ref W] ∧ WorldAt H W bk st ∧ DOk bk st ∧ ∀ H' q, Same H H' → H q = none → DeskAt C H' q bk st → Q (.ref q) H'
abbrev CMInit (P : Program) (w : World) (K : PySem.W.Frag) (mg : Str → Option Value) (base : Heap) (C : Addr) : Prop := ∃ f fd, Mk K C f ∧ FnOk P w K mg base CX0 4 f fd ["self", "book", "start"] (spDInit C) ∧ Binds K fd ["self", "book", "start"] []
theorem scLd : FnScope ["_law_world_here", "_law_state"] ["_law_world_here"] (defScope sLDesk) := ⟨rfl, rfl, rfl, by decide +kernel, rfl, by decide +kernel, by decide +kernel⟩
theorem ok_ldesk {f : Addr} {fd : FuncData} (F : Fun K "_law_desk" "_law_desk" sLDesk f fd) (T : Free3 mg) (D : DTxt K mg C) (MI : CMInit P w K mg base C) : FnOk P w K mg base CX0 6 f fd ["_law_world_here"] (spLDesk C) := by
  obtain ⟨fI, fdI, mI, FI, bI⟩ := MI
  refine F.ok scLd (fun vs H Q E h => ?_) (fun cdv A outer s H vs Q E hr h => ?_)
  · obtain ⟨W, bk, st, rfl, _⟩ := h; rfl
  · obtain ⟨W, bk, st, rfl, ⟨b, hW, ⟨kvs, hb, hR⟩⟩, ok, k⟩ := h
    have hu := hu_of hr
    refine ⟨_, pss_one (ps_ret (pe_make mI FI (hr.mono (by decide)) rfl D.mgC bI .nil pass0 (pa_cons (pe_callTy (call_dictP rfl) (by rfl) T.dict (by decide +kernel) (pa_cons (pe_lock (pe_lc (own := [("_law_state", 1)]) (g := gName 1) (tt := tYes)
        (te := tTup (tCons (tVar 1) (tCons (tTup (tCons (tOp (rIxT K) (tDGet (tOp (rIxL K) (tVar 0) (tC (.int 0))) (tVar 1)) (tC (.int 0))) (tCons (tCB (fun xs H Q => ∃ (a : Addr) (kvs : List (Key × V)), xs = [.ref a] ∧ Rd H a (.dK kvs) ∧ ∀ p, H p = none → Q (.ref p) (L2.upd H p (.dK kvs))) (tCons (tOp (rIxT K) (tDGet (tOp (rIxL K) (tVar 0) (tC (.int 0))) (tVar 1)) (tC (.int 1))) tNil)) tNil))) tNil)))
        rfl scLd.nd (pi_keys (pe_ix ix_list (pv 0) pe_int (fun _ _ => rfl)))
        (blkOk_by (N := ["_law_world_here", "_law_state"]) (sc := defScope sLDesk) (by decide +kernel)) (fun _ _ _ _ _ => pg_name (i := 1) scLd.nd rfl (Or.inl rfl)) (fun _ _ _ _ _ => pts_nil)
        (fun _ _ _ _ _ => pe_tup (pa_cons (pv 1) (pa_cons (pe_tup (pa_cons (pe_ix ix_tup (pe_dget hu (pe_ix ix_list (pv 0) pe_int (fun _ _ => rfl)) (pv 1) (fun _ _ => rfl)) pe_int (fun _ _ => rfl)) (pa_cons (pe_callTy call_dictD (by rfl) T.dict (by decide +kernel) (pa_cons (pe_ix ix_tup (pe_dget hu (pe_ix ix_list (pv 0) pe_int (fun _ _ => rfl)) (pv 1) (fun _ _ => rfl)) pe_int (fun _ _ => rfl)) pa_nil)) pa_nil))) pa_nil))))) pa_nil))
        (pa_cons (pe_ix ix_list (pv 0) pe_int (fun _ _ => rfl)) pa_nil)))), ?_⟩
    have a0 : ∀ {H' : Hp}, Same H H' → ∃ xs, xs = ([.ref b, .str st] : List V) ∧ H' W = some (.lst xs) := fun s => ⟨_, rfl, s _ _ hW⟩
    refine ⟨b, _, hb, trivial, fun od => ?_⟩
    have nWb : W ≠ b := fun e => by rw [e, hb] at hW; cases hW
    have hWL : (L2.upd H b (.frz od (.dK kvs))) W = some (.lst [.ref b, .str st]) := by rw [upd_ne nWb]; exact hW
    have hRL := hR.lock (o := .frz od (.dK kvs)) hb ok.ne
    refine ⟨_, rfl, W, _, _, _, rfl, rfl, SqL.of hWL, atI_nat (j := 0) rfl, b, od, rfl, .inl ⟨kvs, upd_same, fun M hM => ?_⟩⟩
    have nM : b ≠ M := fun e => by rw [← e, upd_same] at hM; cases hM
    have lb := ok.len
    refine lc_it (walk_keys (d := b) (o := od) (kvs := kvs)) (fun i H' => Same (L2.upd H b (.frz od (.dK kvs))) H' ∧ ∃ (ps : List Addr) (kv2 : List (Key × V)), H' M = some (.lst (ps.map V.ref)) ∧ Paired (fun p (kv : Key × V) => (cut [M] H') p = some (.tup [kV kv.1, kv.2])) ps kv2 ∧ Rows (cut [M] H') kv2 (bk.take i)) ⟨Same.new hM, [], [], upd_same, .nil, .nil⟩ (fun i H' _ z => z.1 _ _ upd_same) ?_ ?_
    · rintro i x H2 H3 hi ⟨sm, ps, kv2, hM2, hp, hR2⟩ ⟨rfl, kk, v0, hkv, rfl⟩
      obtain ⟨r, hr', rfl, _⟩ := hR.at hkv
      have hrm : r ∈ bk := List.mem_of_getElem? hr'
      have hs : r.1 ∈ bk.map (·.1) := List.mem_map_of_mem hrm
      obtain ⟨v, ev, ⟨t, a, rfl, ht, ha⟩, _⟩ := (hRL.same sm).look hs
      rw [rowOf_self ok.nd hrm] at ht ha
      have hW3 := SqL.of (K := K) (sm _ _ hWL)
      have hil : i < bk.length := (List.getElem?_eq_some_iff.mp hr').1
      have dg : ∀ {H4 : Hp}, Same H3 H4 → DGet H4 b (V.str r.1) (some (.ref t)) := fun s => .inl ⟨kvs, .inr r.1, .inr ⟨od, s _ _ (sm _ _ upd_same)⟩, rfl, ev.symm⟩
      refine ⟨rfl, ?_⟩
      dsimp only [tYes]
      rw [if_pos rfl]
      refine ⟨_, rfl, _, rfl, W, _, _, _, rfl, rfl, hW3, atI_nat (j := 0) rfl, _, rfl, b, _, rfl, dg (Same.refl _), t, _, _, _, rfl, rfl, SqT.of ht, atI_nat (j := 0) rfl, ?_⟩
      refine ⟨_, rfl, W, _, _, _, rfl, rfl, hW3, atI_nat (j := 0) rfl, _, rfl, b, _, rfl, dg (Same.refl _), t, _, _, _, rfl, rfl, SqT.of ht, atI_nat (j := 1) rfl, a, kT r.2.2, rfl, .inl ha, fun E1 hE1 => ?_⟩
      refine ⟨by show 2 ≤ sizeLine; decide, fun T1 hT1 => ⟨by show 2 ≤ sizeLine; decide, fun T2 hT2 => ?_⟩⟩
      have g1 := Same.new (o := .dK (kT r.2.2)) hE1
      have g2 := Same.new (o := .tup [.str r.2.1, .ref E1]) hT1
      have g3 := Same.new (o := .tup [.str r.1, .ref T1]) hT2
      have g := Same.trans (Same.trans g1 g2) g3
      have nE : E1 ≠ M := fun e => by rw [e, hM2] at hE1; cases hE1
      have nT : T1 ≠ M := fun e => by rw [e, g1 _ _ hM2] at hT1; cases hT1
      have nT2 : T2 ≠ M := fun e => by rw [e, g2 _ _ (g1 _ _ hM2)] at hT2; cases hT2
      have lps : ps.length = kv2.length := paired_len hp
      have lkv : kv2.length = i := by rw [hR2.len, List.length_take]; omega
      refine ⟨_, g _ _ hM2, by rw [List.length_map, lps, lkv, sizeLine_eq]; omega, fun c u e => ?_, ps ++ [T2], kv2 ++ [(.inr r.1, .ref T1)], by rw [upd_same, List.map_append]; rfl, ?_, ?_⟩
      · rw [upd_ne (ne_of_none e hM)]; exact g _ _ (sm _ _ e)
      · rw [cut_upd (by simp)]
        have hp' := paired_imp (R' := fun p (kv : Key × V) => (cut [M] (L2.upd (L2.upd (L2.upd H3 E1 (.dK (kT r.2.2))) T1 (.tup [.str r.2.1, .ref E1])) T2 (.tup [.str r.1, .ref T1]))) p = some (.tup [kV kv.1, kv.2])) (fun p kv e => cut_same g _ _ e) hp
        exact pair_app hp' (by rw [cut_out (by simpa using nT2)]; exact upd_same)
      · rw [cut_upd (by simp), take_succ_get hr']
        refine (hR2.same (cut_same g)).app ⟨T1, E1, rfl, ?_, ?_⟩
        · rw [cut_out (by simpa using nT)]; exact g3 _ _ upd_same
        · rw [TurnsAt, cut_out (by simpa using nE)]; exact g3 _ _ (g2 _ _ upd_same)
    · rintro H2 ⟨sm, ps, kv2, hM2, hp, hR2⟩
      have hl : kvs.length = bk.length := hR.len
      rw [hl, List.take_length] at hR2
      have su := Same.unlock hb sm
      have hp3 : Paired (fun p (kv : Key × V) => SqT K (L2.upd H2 b (.dK kvs)) p [kV kv.1, kv.2]) ps kv2 := paired_imp (fun p kv e => SqT.of (unl_at (sm _ _ upd_same) (cut_le _ _ e))) hp
      refine ⟨sm _ _ upd_same, M, ps, kv2, rfl, SqL.of (by rw [upd_ne nM.symm]; exact hM2), hp3, fun B hB => ?_⟩
      have e1 : kv2.map (·.1) = (bk.map (·.1)).map Sum.inr := by rw [hR2.keys, List.map_map]; rfl
      rw [merge_id2 (by rw [e1]; exact inr_nd' ok.nd)]
      have hR3 : Rows (L2.upd H2 b (.dK kvs)) kv2 bk := rows_unl (sm _ _ upd_same) (hR2.same cut_le)
      have s3 := Same.new (o := .dK kv2) hB
      refine ⟨_, rfl, W, _, _, _, rfl, rfl, SqL.of (s3 _ _ (su _ _ hW)), atI_nat (j := 1) rfl, fun q dx hq hdx ndx => ?_⟩
      have s4 : Same H (L2.upd (L2.upd (L2.upd (L2.upd H2 b (.dK kvs)) B (.dK kv2)) dx (.own q)) q (.ins C dx [])) := fun c u e => by
        have e3 := s3 _ _ (su _ _ e)
        rw [upd_ne (ne_of_none e3 hq), upd_ne (ne_of_none e3 hdx)]; exact e3
      have hq0 : H q = none := (Same.trans su s3).free hq
      refine ⟨q, dx, B, bk, st, rfl, upd_same, ⟨kv2, ?_, ?_⟩, ok, fun H5 b5 hd _ => ⟨rfl, k H5 q (fun c u e => ?_) hq0 hd⟩⟩
      · have z := upd_same (H := L2.upd H2 b (.dK kvs)) (a := B) (o := .dK kv2)
        rw [upd_ne (ne_of_none z hq), upd_ne (ne_of_none z hdx)]; exact z
      · refine (hR3.same s3).same fun c u e => ?_
        rw [upd_ne (ne_of_none e hq), upd_ne (ne_of_none e hdx)]; exact e
      · exact b5 _ _ (ne_of_none e hq0) (s4 _ _ e)
end
end D1
end L2
namespace L2
namespace D2
open PySem PySem.Spec PyProof.Rows D1
/-- an own == that tells r -/
def spEqB (R : Addr → Addr → Bool → Hp → Prop) : Sp := fun vs H Q _ => ∃ a b r, vs = [.ref a, .ref b] ∧ R a b r H ∧ Q (.bl r) H
/-- every object of the class has this ==, and no own != -/
structure NeF (K : PySem.W.Frag) (C f : Addr) : Prop where
  ne : ∀ (h : Heap) (x : Addr) (o : Obj), K.In h → h.get? x = some o → o.cls = .ref C → h.OwnEqNoNe x C f "object" [.type "object"]
def rEqB (C : Addr) (R : Addr → Addr → Bool → Hp → Prop) (w : Bool → Bool) : R2 := fun x y H Q => ∃ a b dx dy fs gs r, x = .ref a ∧ y = .ref b ∧ H a = some (.ins C dx fs) ∧ H b = some (.ins C dy gs) ∧ R a b r H ∧ Q (.bl (w r)) H
section
variable {X : Cx} {n : Nat}
theorem call_eqB {CX : CXT} {f : Addr} {fd : FuncData} {ps : List PySem.Str} {R : Addr → Addr → Bool → Hp → Prop} {E : XK} (F : FnOk X.prog X.w X.K X.mg X.base CX n f fd ps (spEqB R)) (hb : Binds X.K fd ps []) (hx : Passes CX X E)
    {A : Around} (rm : Room n A) (fr : A.frames = X.A.frames) {pins : List (Addr × Obj)} {σ : L2.St} {H : Hp} {s : Shared} (I : Inv X pins σ H s) {a b : Addr} {r : Bool} (hr : R a b r H) :
    wpAny (model X.prog X.w) A (call (.ref f) [.ref a, .ref b]) (fun v s' => v = .bool r ∧ Inv X pins σ H s') X.xe s := by
  have hsp : spEqB R [.ref a, .ref b] H (fun v H' => v = .bl r ∧ H' = H) E := ⟨a, b, r, rfl, hr, rfl, rfl⟩
  have e0 : Env0 X.prog X.w X.K X.mg X.base A X.stack s H := by
    have e := I.env0
    exact ⟨by rw [fr]; exact e.frames, e.mod, e.bs, e.bsz, e.funs, e.frf, e.hok, e.bare⟩
  have hl := F.len _ _ _ _ hsp
  have bn := hb s [.ref a, .ref b] I.kIn (by simpa using hl)
  refine wpAny_call (codeAny_mono (F.run A X.stack s H ⟨[.ref a, .ref b], []⟩ [.ref a, .ref b] [.ref a, .ref b] _ E rm e0 (by simpa using bn) (.cons rfl (.cons rfl .nil)) hsp) fun r' s' hq => ?_)
  match r' with
  | .error e => exact hx pins σ H s e s' I hq
  | .ok (.ret w) =>
    obtain ⟨z, H', I', rz, ez, ex⟩ := I.after hq
    subst ez ex
    cases rz
    exact ⟨rfl, I'⟩
  | .ok .next => exact False.elim hq
  | .ok .brk => exact False.elim hq
  | .ok .cont => exact False.elim hq
theorem op_eqB {CX : CXT} {C f : Addr} {fd : FuncData} {ps : List PySem.Str} {R : Addr → Addr → Bool → Hp → Prop} {E : XK} (F : FnOk X.prog X.w X.K X.mg X.base CX n f fd ps (spEqB R)) (hb : Binds X.K fd ps []) (hx : Passes CX X E)
    (hs : PySem.W.findIn X.K (.ref C) "__eq__" = some (some (.ref f))) (hf : PySem.W.isFn X.K (.ref f) = true) (rm : Room n X.A) : OpR X (compareOp .Eq) (rEqB C R id) := by
  intro pins s σ H x y v u Q I rx ry hq
  obtain ⟨a, b, dx, dy, fs, gs, r, rfl, rfl, ha, hb', hr, q⟩ := hq
  obtain rfl : v = Value.ref a := rx
  obtain rfl : u = Value.ref b := ry
  obtain ⟨mA, J, _⟩ := ins_get I.hok ha
  obtain ⟨mB, J', _⟩ := ins_get I.hok hb'
  obtain ⟨od, J, _⟩ := J.look
  obtain ⟨od', J', _⟩ := J'.look
  obtain ⟨m, hF⟩ := I.fr
  show wpAny (model X.prog X.w) X.A (richCompare .Eq (.ref a) (.ref b)) (EP X pins σ Q) X.xe s
  refine PySem.W.cmp_K (op := .Eq) (tb := .ref C) rm.units0 hF I.ok.mod.kin J J'.type (by simp [PySem.W.notFirst]) hs hf (wpAny_mono (call_eqB F hb hx rm rfl I hr) (fun v' s' hv => ?_) fun _ _ z => z)
  obtain ⟨rfl, I'⟩ := hv
  exact ⟨.bl r, H, I', rfl, q⟩
end
end D2
end L2
namespace L2
namespace D2
open PySem PySem.Spec PyProof.Rows D1
/-- two desks of one book; r: whether they start alike -/
def RD (C : Addr) : Addr → Addr → Bool → Hp → Prop := fun q p r H => ∃ bk bk' st st', DeskAt C H q bk st ∧ DeskAt C H p bk' st' ∧ ordB bk = ordB bk' ∧ DOk bk st ∧ r = decide (st = st')
theorem RD.same {C q p : Addr} {r : Bool} {H H' : Hp} (h : RD C q p r H) (s : Same H H') : RD C q p r H' := by
  obtain ⟨bk, bk', st, st', h1, h2, h3, h4, h5⟩ := h
  exact ⟨bk, bk', st, st', h1.same s, h2.same s, h3, h4, h5⟩
section
variable {P : Program} {w : World} {K : PySem.W.Frag} {mg : Str → Option Value} {base : Heap} {C : Addr}
theorem ok_deqB {f : Addr} {fd : FuncData} (F : Fun K "__eq__" "Desk.__eq__" sDEq f fd) (T : Free3 mg) (D : DTxt K mg C) (c : C8.InsC K C) : FnOk P w K mg base CX0 1 f fd ["self", "other"] (spEqB (RD C)) := by
  refine F.ok scDe (fun vs H Q E h => ?_) (fun cdv A outer s H vs Q E hr h => ?_)
  · obtain ⟨a, b, r, rfl, _⟩ := h; rfl
  · obtain ⟨q, p, r0, rfl, ⟨bk, bk', st, st', ⟨dx, b, hq, hb⟩, ⟨dy, b', hr2, hb'⟩, eo, ok, rfl⟩, k⟩ := h
    rw [← eo] at hb'
    refine ⟨_, pss_one (ps_ret (pe_and (pe_callB (C8.call_isC c) (by rfl) T.isi (by decide +kernel) (pa_cons (pv 1) (pa_cons (pe_glob (v := .ref C) rfl D.mgC rfl) pa_nil))) (pe_and (pe_cmpR (op_eqDX 3 (Nat.lt_of_le_of_lt (Nat.add_le_add_left (by decide : 4 ≤ 64) _) hr.units)) (pe_fld (pv 0) rfl) (pe_fld (pv 1) rfl) (nomark _)) (pe_one (pe_cmpR op_eq (pe_fld (pv 0) rfl) (pe_fld (pv 1) rfl) (nomark _)))))), ?_⟩
    have ob := ok.obok
    obtain ⟨ks, h1, r1⟩ := hb
    obtain ⟨ls, h2, r2⟩ := hb'
    have e1 : ks.map (·.1) = ((ordB bk).map (·.1)).map Sum.inr := by rw [r1.keys, List.map_map]; rfl
    have e2 : ls.map (·.1) = ((ordB bk).map (·.1)).map Sum.inr := by rw [r2.keys, List.map_map]; rfl
    have hrs : ∀ r ∈ ordB bk, (r.2.2.map (·.1)).Nodup ∧ r.2.2.length ≤ 10000 := fun r hr => ⟨(ob.rs r hr).1, by have := (ob.rs r hr).2; omega⟩
    refine ⟨_, rfl, p, dy, _, rfl, hr2, true, rfl, iteT ?_⟩
    refine ⟨_, rfl, q, C, dx, _, _, rfl, hq, D.cl, D.nB, dflds_book _ _, _, rfl, p, C, dy, _, _, rfl, hr2, D.cl, D.nB, dflds_book _ _, ?_⟩
    refine ⟨b, b', ks, ls, _, rfl, rfl, h1, h2, e1, e2, ob.nd, eqx_rows r1 r2 hrs, true, rfl, iteT ?_⟩
    refine ⟨_, rfl, q, C, dx, _, _, rfl, hq, D.cl, D.nS, dflds_start _ _, _, rfl, p, C, dy, _, _, rfl, hr2, D.cl, D.nS, dflds_start _ _, rfl, ?_⟩
    have ed : decide (V.str st = V.str st') = decide (st = st') := by
      by_cases h : st = st'
      · rw [h, decide_eq_true rfl, decide_eq_true rfl]
      · rw [decide_eq_false h, decide_eq_false fun z => h (V.str.inj z)]
    rw [ed]
    exact k
/-- the desk's ==, wherever it is used -/
structure EqD (P : Program) (w : World) (K : PySem.W.Frag) (mg : Str → Option Value) (base : Heap) (C : Addr) : Prop where
  ex : ∃ f fd ps, FnOk P w K mg base CX0 1 f fd ps (spEqB (RD C)) ∧ Binds K fd ps [] ∧ PySem.W.findIn K (.ref C) "__eq__" = some (some (.ref f)) ∧ PySem.W.isFn K (.ref f) = true ∧ NeF K C f
end
section
variable {X : Cx} {C : Addr}
theorem eqD (e : EqD X.prog X.w X.K X.mg X.base C) (rm : Room 1 X.A) : OpR X (compareOp .Eq) (rEqB C (RD C) id) := by
  obtain ⟨f, fd, ps, F, b, hs, hf, _⟩ := e.ex
  exact op_eqB F b pass0 hs hf rm
/-- the fields of two desks -/
theorem rEqB_of {C q p : Addr} {r : Bool} {H : Hp} {w : Bool → Bool} {Q : VK} (h : RD C q p r H) (k : Q (.bl (w r)) H) : rEqB C (RD C) w (.ref q) (.ref p) H Q := by
  obtain ⟨bk, bk', st, st', ⟨dx, b, h1, _⟩, ⟨dy, b', h2, _⟩, _⟩ := id h
  exact ⟨q, p, dx, dy, _, _, r, rfl, rfl, h1, h2, h, k⟩
end
end D2
end L2
namespace L2
namespace D1
open PySem PySem.Spec PyProof.Rows D2
theorem goalT_at {ts : List (Str × Str)} (nd : (ts.map (·.1)).Nodup) {t : Str × Str} (h : t ∈ ts) : goalT ts t.1 = t.2 := by
  obtain ⟨u, e, e1, hu⟩ := find_some (List.mem_map_of_mem (f := (·.1)) h)
  rw [goalT, e]
  show u.2 = t.2
  obtain ⟨i, hi, ei⟩ := List.getElem_of_mem hu
  obtain ⟨j, hj, ej⟩ := List.getElem_of_mem h
  have a1 : (ts.map (·.1))[i]? = some t.1 := by rw [List.getElem?_map, List.getElem?_eq_getElem hi, ei, ← e1]; rfl
  have a2 : (ts.map (·.1))[j]? = some t.1 := by rw [List.getElem?_map, List.getElem?_eq_getElem hj, ej]; rfl
  have := (List.getElem?_inj (by rw [List.length_map]; omega) nd).mp (a1.trans a2.symm)
  subst this
  rw [← ei, ej]
theorem mem_ordT {ts : List (Str × Str)} (nd : (ts.map (·.1)).Nodup) {t : Str × Str} : t ∈ ordT ts ↔ t ∈ ts := by
  constructor
  · intro h
    obtain ⟨k, hk, rfl⟩ := List.mem_map.mp h
    obtain ⟨u, hu, e⟩ := List.mem_map.mp ((srt_perm _).mem_iff.mp hk)
    rw [← e, goalT_at nd hu]; exact hu
  · intro h
    refine List.mem_map.mpr ⟨t.1, (srt_perm _).mem_iff.mpr (List.mem_map_of_mem h), ?_⟩
    rw [goalT_at nd h]
theorem nd_take {ys : List Str} (nd : ys.Nodup) {i : Nat} {z : Str} (h : ys[i]? = some z) : z ∉ ys.take i := fun hm => by
  obtain ⟨m, hm1, hm2⟩ := List.mem_take_iff_getElem.mp hm
  have h1 : ys[m]? = some z := by rw [List.getElem?_eq_getElem (by omega), hm2]
  have := (List.getElem?_inj (by omega) nd).mp (h1.trans h.symm)
  omega
/-- Desk(book, start) -/
theorem make_ok {C : Addr} {H2 : Hp} {B : Addr} {bk : Bk} {st : Str} {Q : VK} {E : XK} (hB : BookAt H2 B bk) (ok : DOk bk st) (k : ∀ H' q, Same H2 H' → H2 q = none → DeskAt C H' q bk st → DeskN C H2 H' q bk st → Q (.ref q) H') (q dx : Addr) (hq : H2 q = none) (hdx : H2 dx = none) :
    spDInit C [.ref q, .ref B, .str st] (L2.upd (L2.upd H2 dx (.own q)) q (.ins C dx [])) (fun v H' => v = .non ∧ Q (.ref q) H') E := by
  have s4 : Same H2 (L2.upd (L2.upd H2 dx (.own q)) q (.ins C dx [])) := fun c u e => by
    rw [upd_ne (ne_of_none e hq), upd_ne (ne_of_none e hdx)]; exact e
  refine ⟨q, dx, B, bk, st, rfl, upd_same, hB.same s4, ok, fun H5 b5 hd ⟨dy, c, e1, h1⟩ => ⟨rfl, k H5 q (fun c u e => ?_) hq hd ⟨dy, c, e1, h1.same (new_mono s4)⟩⟩⟩
  exact b5 _ _ (ne_of_none e hq) (s4 _ _ e)
end D1
end L2
namespace L2
namespace D1
open PySem PySem.Spec PyProof.Rows D2
end D1
end L2
namespace L2
namespace X5
open PySem PySem.Spec PyProof.Rows
section
variable {X : Cx}
/-- d[(..)] = v within a display or a comprehension -/
theorem put_tup {pins : List (Addr × Obj)} {σ : L2.St} {H : Hp} {s : Shared} {E : Value → Shared → Prop} {D b : Addr} {kvs : List (List Key × V)} {k : List Key} {v : V} {r : Value} {Q : Unit → Shared → Prop} (hu : X.A.units < cLine) (I : Inv X pins σ H s) (hD : H D = some (.dT kvs)) (hz : kvs.length < sizeLine)
    (hb : H b = some (.tup (k.map kV))) (rv : RelV v r) (h : ∀ s', Inv X pins σ (upd H D (.dT (putK kvs k v))) s' → Q () s') : wpAny (model X.prog X.w) X.A (dictSet D (.ref b) r) Q E s := by
  obtain ⟨z, lo, xs, rel, dd⟩ := dt_of I.hok hD
  have l1 : (putK kvs k v).length ≤ sizeLine := Nat.le_trans (length_putK kvs k v) hz
  refine wpAny_dictSet_heap (hsz := by rw [← Paired.length rel]; exact z) (knd := tupleKind (mixKind X.prog X.w)) hu (key_of I.hok hb) dd fun h' dd' sb => h _ ?_
  obtain ⟨q, es, ep, e1, e2, e3, e4, _, e5⟩ := dd'
  refine d_write I (by rw [hD]; exact True.intro) sb ⟨q, e1⟩ ⟨l1, lo, _, (rel.put k hb rv).keeps fun c ys ec => ?_, q, es, ep, e1, e2, e3, e4, e5⟩
  rw [upd_ne (ne_of ec hD fun z => nomatch z)]; exact ec
/-- {(..): v for target in iter if ..}: D the new dict -/
def tDcT (wi : TI) (g : TG) (tt : TT) (tk tv : TE) (vs : List Nat) : TE := fun σ H Q => wi σ H fun J H1 => ∀ D, H1 D = none → ∃ W : Nat → Nat → Hp → Prop, (∃ m, W 0 m (upd H1 D (.dT []))) ∧ ∀ i m H, W i m H →
  (J.stop i H ∧ Q (.ref D) H) ∨ (J.go i H ∧ ∃ Nx : Hp → Prop, (∀ H', Nx H' → ∃ m', m' < m ∧ W (i + 1) m' H') ∧ ∀ x H', J.yld i H x H' → g x (wipe σ vs) H' fun σ2 H2 => wipe σ2 vs = wipe σ vs ∧ tt σ2 H2 fun b H3 =>
    if b = true then tk σ2 H3 fun y H4 => tv σ2 H4 fun z H5 => ∃ kvs k b, y = .ref b ∧ H5 b = some (.tup (k.map kV)) ∧ H5 D = some (.dT kvs) ∧ kvs.length < sizeLine ∧ Nx (upd H5 D (.dT (putK kvs k z))) else Nx H3)
abbrev BlkT (X : Cx) (sc : Scope) (q : Cx → Prop) : Prop := ∀ (s : Shared) (H : Hp) (C : Addr) (cl : List (PySem.Str × Addr)) (fp : List Addr), q (X.blk s H sc (compEnvC sc cl C X.env) fp)
theorem coreT {pins : List (Addr × Obj)} {s : Shared} {σ : L2.St} {H : Hp} {Q : VK} {kx vx tg iter : Expr} {ifs : List Expr} {sc : Scope} {own : List (PySem.Str × Nat)} {ps ps' : Pos} {wi : TI} {g : TG} {tt : TT} {tk tv : TE} {use : Option (Value → Sem Unit)} {Qf : Value → Shared → Prop}
    (hu : X.A.units < cLine) (hc : X.calm = true) (hN : X.N.Nodup) (I : Inv X pins σ H s) (hA : PI X tg iter wi) (ok : BlkOk X.N X.env.scope sc own)
    (hg : BlkT X sc fun X => PG X tg g) (ht : BlkT X sc fun X => PTs X ifs tt) (hk : BlkT X sc fun X => PE X kx tk) (he : BlkT X sc fun X => PE X vx tv)
    (hsA : ∀ x, foldedSetIterable iter X.env x = pure x) (h : tDcT wi g tt tk tv (own.map (·.2)) σ H Q)
    (out : ∀ D C s' m H', Inv X pins σ H' s' → Q (.ref D) H' → s'.heap.Ns C m → FpOk X pins H' C → compPost (model X.prog X.w) X.A X.xe use Qf (.ref D) C (.ok .next) s') :
    wpAny (model X.prog X.w) X.A (comprehension (.DictComp kx vx [⟨tg, iter, ifs, 0⟩] sc ps) sc X.env ps' newDict false (eval iter X.env) use) Qf X.xe s := by
  have fr : ∀ y ∈ sc.names, y.2 = .free → ∃ c, X.env.cells.lookup y.1 = some c := fun y hy e => (ok.free y hy e).elim (fun k => I.ok.has _ (.inl k)) (fun k => I.ok.has _ (.inr k))
  refine wpAny_comprehension_free (use := use) rfl hsA (closure_ok fr) ok.kind (fun y hy e => by rw [ok.uniq y hy, e]) (thn (hA.run pins s σ H _ I h) fun xv s1 hx => thn hx fun itv s2 h2 => ?_)
  obtain ⟨it, fp, tn, J, H2, ev, I2, T, st2, f2, q⟩ := h2
  subst ev
  refine wpAny_newObj_type (newEnv_comp ?_)
  generalize hD : s2.heap.objs.size = D
  obtain ⟨W, ⟨m0, w0⟩, turn⟩ := q D (I2.hok.fresh (Nat.le_of_eq hD))
  generalize hs3 : ({ s2 with heap := s2.heap.push { cls := .type "dict", data := .dict #[] } } : Shared) = s3
  have I3 : Inv X pins σ (upd H2 D (.dT [])) s3 := by
    rw [← hs3]; refine I2.laid (t' := s2.toks) (fun b o e => Heap.get?_push_of_some _ e) (Nat.le_of_eq hD) ?_
    rw [← hD]; exact dt_empty s2.heap I2.big
  have h3 : s3.heap = s2.heap.push { cls := .type "dict", data := .dict #[] } := by rw [← hs3]
  have sz : ∀ b ∈ fp, b < s2.heap.objs.size := fun b hb => let ⟨_, e, _⟩ := T.obj _ _ st2 b hb; Heap.lt_size e
  have f3 : ∀ b ∈ fp, FpOk X pins (upd H2 D (.dT [])) b ∧ b < s3.heap.objs.size := fun b hb =>
    ⟨⟨by rw [upd_ne (by rw [← hD]; exact Nat.ne_of_lt (sz b hb))]; exact (f2 b hb).1, (f2 b hb).2⟩, by rw [h3, Heap.size_push]; exact Nat.lt_succ_of_lt (sz b hb)⟩
  have st3 : tn 0 s3.heap := T.keep _ _ _ st2 fun b _ o e => by rw [h3]; exact Heap.get?_push_of_some _ e
  have I4 := block_start I3 ok hN f3
  generalize hH3 : upd H2 D (.dT []) = H3 at I3 I4 w0 f3
  have pg := hg s3 H3 s3.heap.objs.size (cellsFrom (s3.heap.objs.size + 1) sc.names (cloFrom X.env.cells sc.names [])) fp
  have pt := ht s3 H3 s3.heap.objs.size (cellsFrom (s3.heap.objs.size + 1) sc.names (cloFrom X.env.cells sc.names [])) fp
  have pk := hk s3 H3 s3.heap.objs.size (cellsFrom (s3.heap.objs.size + 1) sc.names (cloFrom X.env.cells sc.names [])) fp
  have pe := he s3 H3 s3.heap.objs.size (cellsFrom (s3.heap.objs.size + 1) sc.names (cloFrom X.env.cells sc.names [])) fp
  show codeAny _ _ (.compStart (.DictComp kx vx [⟨tg, iter, ifs, 0⟩] sc ps) 0 (.ref it) (.ref D) (compEnvC sc (cellsFrom (s3.heap.objs.size + 1) sc.names (cloFrom X.env.cells sc.names [])) s3.heap.objs.size X.env)) (compPost (model X.prog X.w) X.A X.xe use Qf (.ref D) s3.heap.objs.size) { s3 with heap := pushCells (s3.heap.push { cls := .type "dict", data := .dict #[] }) sc.names }
  generalize hce : compEnvC sc (cellsFrom (s3.heap.objs.size + 1) sc.names (cloFrom X.env.cells sc.names [])) s3.heap.objs.size X.env = ce at I4 pg pt pk pe ⊢
  have cL : ce.locals = s3.heap.objs.size := by rw [← hce]; rfl
  generalize hs4 : ({ s3 with heap := pushCells (s3.heap.push { cls := .type "dict", data := .dict #[] }) sc.names } : Shared) = s4 at I4 ⊢
  have st4 : tn 0 s4.heap := T.keep _ _ _ st3 fun b _ o e => by rw [← hs4]; exact pushCells_keeps _ _ _ _ (Heap.get?_push_of_some _ e)
  have stat : ∀ {σ' : L2.St} {H' : Hp} {s' : Shared}, Inv (X.blk s3 H3 sc ce fp) [] σ' H' s' → (∀ b ∈ fp, H' b = none) → ∀ b ∈ fp, FpOk (X.blk s3 H3 sc ce fp) [] H' b := fun I' hn b hb =>
    ⟨hn b hb, (I'.ok.exf b hb).1, I'.ok.exfs b hb, .inl hb, fun x c e => (I'.ok.exf b hb).2 x c e, fun p hp => absurd (show p ∈ ([] : List (Addr × Obj)) ++ [] from hp) (by simp)⟩
  have loop : codeAny (model X.prog X.w) X.A (.compLoop (.DictComp kx vx [⟨tg, iter, ifs, 0⟩] sc ps) 0 (.ref it) (.ref D) ce) (compPost (model X.prog X.w) X.A X.xe use Qf (.ref D) s3.heap.objs.size) s4 := by
    refine compLoop_anyD (fun n s' => ∃ i H', Inv (X.blk s3 H3 sc ce fp) [] (wipe σ (own.map (·.2))) H' s' ∧ tn i s'.heap ∧ (∀ b ∈ fp, H' b = none) ∧ W i n H') ?_ m0 ⟨0, H3, I4, st4, fun b hb => (f3 b hb).1.1, w0⟩
    rintro n s5 ⟨i, H5, I5, st5, n5, w5⟩
    rcases turn i n H5 w5 with ⟨stop, qq⟩ | ⟨go, Nx, hNx, step⟩
    · refine thnF (T.done (X.blk s3 H3 sc ce fp) rfl rfl rfl hc i [] s5 _ H5 (fun _ _ => False) I5 (stat I5 n5) st5 stop) fun r s6 ⟨hr, I6⟩ => ?_
      subst hr
      have I7 : Inv X pins σ H5 s6 := I3.call' (ch := fp) I6.os I6.base I6.hok I6.bare fun b hb => ⟨(f3 b hb).1.2.2.2.1, (f3 b hb).1.2.1, (f3 b hb).1.2.2.2.2.1, (f3 b hb).1.2.2.2.2.2⟩
      have nC : H5 s3.heap.objs.size = none := by have z : H5 ce.locals = none := I6.free; rw [cL] at z; exact z
      obtain ⟨m, hn, _⟩ := I6.loc
      have hn : s6.heap.Ns ce.locals m := hn
      rw [cL] at hn
      exact out D s3.heap.objs.size s6 m H5 I7 qq hn (I3.fpOk (Nat.le_refl _) nC)
    · refine thnF (T.item (X.blk s3 H3 sc ce fp) rfl rfl rfl hc i [] s5 _ H5 (fun _ _ => False) I5 (stat I5 n5) st5 go) fun r s6 ⟨u, hr, h6⟩ => ?_
      subst hr
      refine thnF h6 fun _ s7 ⟨x, H7, I7, r7, y7, st7, n7⟩ => ?_
      refine thnF (pg.run _ s7 _ H7 x u _ (I7.pinned (stat I7 n7) (T.obj _ _ st7)) r7 (step x H7 y7)) fun _ s8 ⟨σ8, H8, I8, hw8, q8⟩ => ?_
      have l8 : (wipe σ (own.map (·.2))).length = σ8.length := by rw [← hw8, wipe_length]
      have fin : ∀ {s' : Shared} {H' : Hp}, Inv (X.blk s3 H3 sc ce fp) ([] ++ pinsAt fp s7.heap) σ8 H' s' → Nx H' → ∃ m, m < n ∧ ∃ i H', Inv (X.blk s3 H3 sc ce fp) [] (wipe σ (own.map (·.2))) H' s' ∧ tn i s'.heap ∧ (∀ b ∈ fp, H' b = none) ∧ W i m H' := fun {s' H'} I' nx => by
        obtain ⟨m', hm, w'⟩ := hNx H' nx
        have pin : ∀ b ∈ fp, ∀ o, s7.heap.get? b = some o → s'.heap.get? b = some o ∧ H' b = none := fun b hb o e => let z := I'.pin (b, o) (List.mem_append_right _ (List.mem_append_right _ (mem_pinsAt hb e))); ⟨z.1, z.2.1⟩
        exact ⟨m', hm, i + 1, H', (I'.unpinned (pins := [])).weak l8 (fun j v e => by rw [← hw8] at e; exact (wipe_some e).1), T.keep _ _ _ st7 fun b hb o e => (pin b hb o e).1, fun b hb => let ⟨o, e, _⟩ := T.obj _ _ st7 b hb; (pin b hb o e).2, w'⟩
      refine thnF (pt.run _ s8 σ8 H8 _ I8 q8) fun b s9 ⟨H9, I9, q9⟩ => ?_
      cases b with
      | false =>
        simp only [Bool.false_eq_true, if_false] at q9 ⊢
        exact fin I9 q9
      | true =>
        simp only [if_true] at q9 ⊢
        refine thnF (pk.run _ s9 σ8 H9 _ I9 q9) fun z s10 ⟨yk, H10, I10, r10, q10⟩ => ?_
        refine thnF (pe.run _ s10 σ8 H10 _ I10 q10) fun z2 s11 ⟨yv, H11, I11, r11, kvs, k, c, ek, hc11, hD11, hz11, nx⟩ => ?_
        subst ek
        cases r10
        exact put_tup (X := X.blk s3 H3 sc ce fp) hu I11 hD11 hz11 hc11 r11 fun s12 I12 => fin I12 nx
  exact codeAny_compStart_dict loop (T.self X.A 0 _ _ _ st4 loop)
theorem pe_dcT {kx vx tg iter : Expr} {ifs : List Expr} {sc : Scope} {own : List (PySem.Str × Nat)} {ps : Pos} {wi : TI} {g : TG} {tt : TT} {tk tv : TE} (hu : X.A.units < cLine) (hc : X.calm = true) (hN : X.N.Nodup) (hA : PI X tg iter wi) (ok : BlkOk X.N X.env.scope sc own)
    (hg : BlkT X sc fun X => PG X tg g) (ht : BlkT X sc fun X => PTs X ifs tt) (hk : BlkT X sc fun X => PE X kx tk) (he : BlkT X sc fun X => PE X vx tv) (hsA : ∀ x, foldedSetIterable iter X.env x = pure x := by intro _; rfl) :
    PE X (.DictComp kx vx [⟨tg, iter, ifs, 0⟩] sc ps) (tDcT wi g tt tk tv (own.map (·.2))) := by
  refine ⟨fun pins s σ H Q I h => ?_⟩
  rw [arm_eval_DictComp]
  refine coreT hu hc hN I hA ok hg ht hk he hsA h fun D C s' m H' I' q hn f => ⟨m, hn, fun h'' sb => ?_⟩
  obtain ⟨f0, f1, f2, f3, f4, f5⟩ := f
  exact ⟨.ref D, H', I'.turned (t' := s'.toks) (fun b o hb e => (sb.2 b hb).trans e) f0 f1 f3 f4 f5, rfl, q⟩
theorem dct_it {J : It} {n : Nat} {G : Hp → Prop} {Y : Nat → Hp → V → Hp → Prop} (w : Walk J n G Y) {g : TG} {tt : TT} {tk tv : TE} {vs : List Nat} {σ : L2.St} {H1 : Hp} {D : Addr} {Qd : Hp → Prop} (Pv : Nat → Hp → Prop) (h0 : Pv 0 (L2.upd H1 D (.dT []))) (hG : ∀ i H, i ≤ n → Pv i H → G H)
    (hs : ∀ i x H H', i < n → Pv i H → Y i H x H' → g x (wipe σ vs) H' fun σ2 H2 => wipe σ2 vs = wipe σ vs ∧ tt σ2 H2 fun b H3 =>
      if b = true then tk σ2 H3 fun y H4 => tv σ2 H4 fun z H5 => ∃ kvs k b, y = .ref b ∧ H5 b = some (.tup (k.map kV)) ∧ H5 D = some (.dT kvs) ∧ kvs.length < sizeLine ∧ Pv (i + 1) (L2.upd H5 D (.dT (putK kvs k z))) else Pv (i + 1) H3) (hd : ∀ H, Pv n H → Qd H) :
    ∃ W : Nat → Nat → Hp → Prop, (∃ m, W 0 m (L2.upd H1 D (.dT []))) ∧ ∀ i m H, W i m H →
      (J.stop i H ∧ Qd H) ∨ (J.go i H ∧ ∃ Nx : Hp → Prop, (∀ H', Nx H' → ∃ m', m' < m ∧ W (i + 1) m' H') ∧ ∀ x H', J.yld i H x H' → g x (wipe σ vs) H' fun σ2 H2 => wipe σ2 vs = wipe σ vs ∧ tt σ2 H2 fun b H3 =>
        if b = true then tk σ2 H3 fun y H4 => tv σ2 H4 fun z H5 => ∃ kvs k b, y = .ref b ∧ H5 b = some (.tup (k.map kV)) ∧ H5 D = some (.dT kvs) ∧ kvs.length < sizeLine ∧ Nx (L2.upd H5 D (.dT (putK kvs k z))) else Nx H3) := by
  refine ⟨fun i m H => m = n - i ∧ i ≤ n ∧ Pv i H, ⟨n, by simp, Nat.zero_le _, h0⟩, ?_⟩
  rintro i m H ⟨rfl, hi, p⟩
  have q := hG i H hi p
  by_cases hlt : i < n
  · exact .inr ⟨w.goes i H hlt q, Pv (i + 1), fun H' p' => ⟨n - (i + 1), by omega, rfl, hlt, p'⟩, fun x H' y => hs i x H H' hlt p (w.yields i H x H' hlt q y)⟩
  · obtain rfl : i = n := by omega
    exact .inl ⟨w.stops H q, hd H p⟩
end
end X5
end L2
namespace L2
namespace X6
open PySem PySem.Spec PyProof.Rows D1
/-- two texts in a tuple -/
def TwoT (h : Heap) (v : Value) (y : Str × Str) : Prop := ∃ (a : Addr) (o : Obj) (t u : Tok) (n : Nat), v = .ref a ∧ h.get? a = some o ∧ o.cls = .type "tuple" ∧ o.data = .seq #[.str y.1 t, .str y.2 u] n
theorem TwoT.uniq {h : Heap} {v : Value} {y z : Str × Str} (p : TwoT h v y) (q : TwoT h v z) : y = z := by
  obtain ⟨a, o, t, u, n, e, ho, hc, hd⟩ := p
  obtain ⟨b, o', t', u', n', e', ho', hc', hd'⟩ := q
  rw [e] at e'
  cases e'
  rw [ho] at ho'
  cases ho'
  rw [hd] at hd'
  cases y; cases z
  simp at hd'
  obtain ⟨⟨⟨e1, _⟩, e2, _⟩, _⟩ := hd'
  rw [e1, e2]
theorem TwoT.keeps {h h' : Heap} {v : Value} {y : Str × Str} (p : TwoT h v y) (k : ∀ b o, v = .ref b → h.get? b = some o → o.cls = .type "tuple" → h'.get? b = some o) : TwoT h' v y := by
  obtain ⟨a, o, t, u, n, e, ho, hc, hd⟩ := p
  exact ⟨a, o, t, u, n, e, k a o e ho hc, hc, hd⟩
instance : Nonempty (Str × Str) := ⟨⟨"", ""⟩⟩
def ltPS (p q : Str × Str) : Bool := if p.1 = q.1 then ltCps p.2.cps.toList q.2.cps.toList else ltCps p.1.cps.toList q.1.cps.toList
/-- in order, alike pairs beside one another -/
def lePS (p q : Str × Str) : Prop := ltPS q p = false
theorem lePS_iff {p q : Str × Str} : lePS p q ↔ (p.1 = q.1 ∧ leS p.2 q.2) ∨ (p.1 ≠ q.1 ∧ leS p.1 q.1) := by
  unfold lePS ltPS
  by_cases h : q.1 = p.1
  · rw [if_pos h]
    exact ⟨fun z => .inl ⟨h.symm, z⟩, fun z => z.elim (fun z => z.2) fun z => absurd h.symm z.1⟩
  · rw [if_neg h]
    exact ⟨fun z => .inr ⟨fun e => h e.symm, z⟩, fun z => z.elim (fun z => absurd z.1.symm h) fun z => z.2⟩
theorem leS_anti {a b : Str} (h : leS a b) (g : leS b a) : a = b := tl_ext (leC_anti h g)
theorem lePS_anti {p q : Str × Str} (h : lePS p q) (g : lePS q p) : p = q := by
  rw [lePS_iff] at h g
  rcases h with ⟨h1, h2⟩ | ⟨h1, h2⟩
  · rcases g with ⟨g1, g2⟩ | ⟨g1, g2⟩
    · exact Prod.ext h1 (leS_anti h2 g2)
    · exact absurd h1.symm g1
  · rcases g with ⟨g1, g2⟩ | ⟨g1, g2⟩
    · exact absurd g1.symm h1
    · exact absurd (leS_anti h2 g2) h1
/-- a list of pairs of texts, each a tuple -/
def Prs (H : Hp) (zs : List (Addr × Str × Str)) : Prop := ∀ z ∈ zs, H z.1 = some (.tup [.str z.2.1, .str z.2.2])
theorem Prs.same {H H' : Hp} {zs : List (Addr × Str × Str)} (h : Prs H zs) (s : Same H H') : Prs H' zs := fun z hz => s _ _ (h z hz)
end X6
end L2
namespace L2
namespace X6
open PySem PySem.Spec PyProof.Rows D1
section
variable {X : Cx}
/-- two texts as a key -/
def kP (p : Str × Str) : List Key := [.inr p.1, .inr p.2]
end
end X6
end L2
namespace L2
namespace X5
open PySem PySem.Spec PyProof.Rows
end X5
end L2
namespace L2
namespace X5
open PySem PySem.Spec PyProof.Rows
section
variable {X : Cx}
theorem sw_trueD {kx vx : Expr} {gs : List Comprehension} {scope : Scope} {pos py : Pos} {y : PySem.Str} {l : Nat} {env : Env} (hk : env.scope.kind = .function) (hy : env.scope.names.lookup y = some .local) (hl : (py.line == pos.line) = true)
    (ha : (scope.names.any fun (n, k) => n == y && (k == .local || k == .cell)) = false) : swapsWith (.DictComp kx vx gs scope pos) (some (.Name y py)) l env = pure true := by
  have ky : env.kindOf y = some .local := hy
  have hb : env.blockKind = .function := by unfold Env.blockKind; rw [hk]; rfl
  unfold swapsWith
  simp only [hb, ky, ha, Expr.pos, hl]
  rfl
end
end X5
end L2
namespace L2
namespace D1
open PySem PySem.Spec PyProof.Rows D2
theorem ordB_eq {bk bk' : Bk} (h1 : (bk.map (·.1)).Perm (bk'.map (·.1))) (h2 : ∀ s ∈ bk.map (·.1), (rowOf bk s).1 = (rowOf bk' s).1 ∧ ordT (rowOf bk s).2 = ordT (rowOf bk' s).2) : ordB bk = ordB bk' := by
  unfold ordB
  rw [← srt_congr h1]
  refine List.map_congr_left fun s hs => ?_
  obtain ⟨a, b⟩ := h2 s ((srt_perm _).mem_iff.mp hs)
  rw [a, b]
theorem RForm.ord {k : Str} {ts : List (Str × Str)} (nd : (ts.map (·.1)).Nodup) (h : RForm k ts) : RForm k (ordT ts) := by
  rcases h with ⟨a, b⟩ | ⟨a, b, c, d⟩
  · exact .inl ⟨a, by rw [b]; rfl⟩
  · refine .inr ⟨a, fun e => b ?_, by rw [ordT_len]; exact c, fun t ht => d t ((mem_ordT nd).mp ht)⟩
    have := ordT_len ts
    rw [e] at this
    exact List.length_eq_zero_iff.mp this.symm
theorem DOk.ord {bk : Bk} {st : Str} (h : DOk bk st) : DOk (ordB bk) st := by
  refine ⟨⟨ordB_ne h.ne, h.ond, by rw [ordB_len]; exact h.len, fun r hr => ?_, fun r hr => ?_⟩, fun r hr => ?_, by rw [ordB_names]; exact (srt_perm _).mem_iff.mpr h.st⟩
  · obtain ⟨r0, h0, e1, e2, e3⟩ := mem_ordB h.nd hr
    obtain ⟨a, b, c⟩ := h.rs r0 h0
    rw [e1, e2, e3]
    refine ⟨a, b.ord (h.tk r0 h0), fun t ht => ?_⟩
    rw [ordB_names]
    exact (srt_perm _).mem_iff.mpr (c t ((mem_ordT (h.tk r0 h0)).mp ht))
  · obtain ⟨r0, h0, _, _, e3⟩ := mem_ordB h.nd hr
    rw [e3, ordT_len]; exact h.len2 r0 h0
  · obtain ⟨r0, h0, _, _, e3⟩ := mem_ordB h.nd hr
    rw [e3]; exact ordT_nd (h.tk r0 h0)
end D1
end L2
namespace L2
namespace D1
open PySem PySem.Spec PyProof.Rows D2
theorem rd_lock {H : Hp} {a N : Addr} {o u : HO} {od : Obj} (h : Rd H N o) (ha : H a = some u) (hm : ∀ x y, u ≠ .frz x y) : Rd (L2.upd H a (.frz od u)) N o := by
  by_cases e : N = a
  · subst e
    rcases h with h | ⟨od', h⟩
    · rw [ha] at h; cases h
      exact .inr ⟨od, upd_same⟩
    · rw [ha] at h; exact absurd (Option.some.inj h) (hm _ _)
  · rcases h with h | ⟨od', h⟩
    · exact .inl (by rw [upd_ne e]; exact h)
    · exact .inr ⟨od', by rw [upd_ne e]; exact h⟩
theorem DeskAt.lock {C : Addr} {H : Hp} {q b : Addr} {bk bk' : Bk} {st : Str} {kvs : List (Key × V)} {od : Obj} (h : DeskAt C H q bk st) (hb : H b = some (.dK kvs)) (hR : Rows H kvs bk') (ne : bk' ≠ []) : DeskAt C (L2.upd H b (.frz od (.dK kvs))) q bk st := by
  obtain ⟨dx, c, e, ⟨kv2, e2, r2⟩⟩ := h
  refine ⟨dx, c, by rw [upd_ne fun z => by rw [z, hb] at e; cases e]; exact e, kv2, rd_lock e2 hb (fun _ _ e => by cases e), ?_⟩
  unfold Rows at r2 ⊢
  clear e2 e
  generalize ordB bk = bb at r2
  induction r2 with
  | nil => exact .nil
  | cons h1 _ ih =>
    obtain ⟨e1, t, a, ev, ht, ha⟩ := h1
    refine .cons ⟨e1, t, a, ev, by rw [upd_ne fun z => by rw [z, hb] at ht; cases ht]; exact ht, ?_⟩ ih
    rw [TurnsAt, upd_ne (book_ne hb hR ne ha)]; exact ha
end D1
end L2
namespace L2
namespace D1
open PySem PySem.Spec PyProof.Rows D2
def rKd (K : PySem.W.Frag) (d : Addr) : R2 := fun x y H Q => ∃ (z : Str) (u0 : Value) (v0 : V), x = .ref d ∧ y = .str z ∧ PySem.W.nsIn K d z = some (some u0) ∧ RelV v0 u0 ∧ Q v0 H
/-- D[key], D a dict of the module -/
theorem ix_kd {X : Cx} {d : Addr} {es : Array DictEntry} {n : Nat} (D : KDict X.K X.w d es n) : IxR X (rKd X.K d) := by
  intro e1 e2 pins s σ H x y v u Q I rx ry h hs
  obtain ⟨z, u0, v0, rfl, rfl, e, r, q⟩ := h
  obtain rfl : v = Value.ref d := rx
  obtain ⟨t, rfl⟩ := ry
  exact tail_any (kd_type D I) PySem.F.slot_dict_getitem.lookup (wpAny_getItem_of (PySem.strKind_is X.prog X.w z t) (PySem.W.mapOf_K (prog := X.prog) I.kIn D.at_ D.lit) (PySem.W.find_K D.at_ e) ⟨v0, H, I.tok _, r, q⟩) hs
def flipK (k : Str) : Str := if k = "says" then "hears" else if k = "hears" then "says" else "done"
def turnB (bk : Bk) : Bk := bk.map fun r => (r.1, flipK r.2.1, r.2.2)
theorem turnB_names (bk : Bk) : (turnB bk).map (·.1) = bk.map (·.1) := by rw [turnB, List.map_map]; rfl
theorem flip_kind {k : Str} {ts : List (Str × Str)} (h : RForm k ts) : k = "says" ∨ k = "hears" ∨ k = "done" := by
  rcases h with ⟨a, _⟩ | ⟨a, _⟩
  · exact .inr (.inr a)
  · exact a.elim .inl fun z => .inr (.inl z)
theorem flip_form {k : Str} {ts : List (Str × Str)} (h : RForm k ts) : RForm (flipK k) ts := by
  rcases h with ⟨a, b⟩ | ⟨a, b⟩
  · subst a; exact .inl ⟨by decide +kernel, b⟩
  · rcases a with a | a
    · subst a; exact .inr ⟨.inr (by decide +kernel), b⟩
    · subst a; exact .inr ⟨.inl (by decide +kernel), b⟩
theorem DOk.turn {bk : Bk} {st : Str} (ok : DOk bk st) : DOk (turnB bk) st := by
  have hr : ∀ r ∈ turnB bk, ∃ r0 ∈ bk, r = (r0.1, flipK r0.2.1, r0.2.2) := fun r h => let ⟨r0, a, b⟩ := List.mem_map.mp h; ⟨r0, a, b.symm⟩
  refine ⟨⟨fun e => ok.ne (List.map_eq_nil_iff.mp e), by rw [turnB_names]; exact ok.nd, by rw [turnB, List.length_map]; exact ok.len, fun r h => ?_, fun r h => ?_⟩, fun r h => ?_, by rw [turnB_names]; exact ok.st⟩
  · obtain ⟨r0, h0, rfl⟩ := hr r h
    obtain ⟨a, b, c⟩ := ok.rs r0 h0
    exact ⟨a, flip_form b, by rw [turnB_names]; exact c⟩
  · obtain ⟨r0, h0, rfl⟩ := hr r h; exact ok.len2 r0 h0
  · obtain ⟨r0, h0, rfl⟩ := hr r h; exact ok.tk r0 h0
end D1
end L2
namespace L2
namespace D1
open PySem PySem.Spec PyProof.Rows D2
theorem lay_str {x : Str} (h : Wd x) : PyData.canLay0 (.str x) = true := by
  show (x.cps.all fun c => decide (c < 0x110000)) = true
  rw [← Array.all_toList]
  refine List.all_eq_true.mpr fun c hc => ?_
  have := h.ok c hc
  exact decide_eq_true (by omega)
end D1
end L2
namespace L2
namespace D1
open PySem PySem.Spec PyProof.Rows D2
abbrev Pr := Str × Str
def PAt (H : Hp) (z : Addr) (p : Pr) : Prop := H z = some (.tup [.str p.1, .str p.2])
def PRows (H : Hp) : List (Key × V) → List (Str × Pr) → Prop := Paired fun kv t => kv.1 = Sum.inr t.1 ∧ ∃ z, kv.2 = .ref z ∧ PAt H z t.2
theorem PRows.same {H H' : Hp} {kvs : List (Key × V)} {ts : List (Str × Pr)} (h : PRows H kvs ts) (s : Same H H') : PRows H' kvs ts := paired_imp (fun _ _ ⟨e, z, e1, e2⟩ => ⟨e, z, e1, s _ _ e2⟩) h
theorem PRows.keys {H : Hp} {kvs : List (Key × V)} {ts : List (Str × Pr)} (h : PRows H kvs ts) : kvs.map (·.1) = ts.map fun t => Sum.inr t.1 := by
  unfold PRows at h
  induction h with
  | nil => rfl
  | cons a _ ih => rw [List.map_cons, List.map_cons, ih, a.1]
theorem PRows.len {H : Hp} {kvs : List (Key × V)} {ts : List (Str × Pr)} (h : PRows H kvs ts) : kvs.length = ts.length := paired_len h
/-- a dict of words, each with the pair behind it -/
def PTAt (H : Hp) (a : Addr) (ts : List (Str × Pr)) : Prop := ∃ kvs, H a = some (.dK kvs) ∧ PRows H kvs ts
theorem PTAt.same {H H' : Hp} {a : Addr} {ts : List (Str × Pr)} (h : PTAt H a ts) (s : Same H H') : PTAt H' a ts := let ⟨kvs, e, r⟩ := h; ⟨kvs, s _ _ e, r.same s⟩
theorem kT_at {ts : List (Str × Str)} {i : Nat} {k : Key} {v : V} (h : (kT ts)[i]? = some (k, v)) : ∃ t, ts[i]? = some t ∧ k = Sum.inr t.1 := by
  rw [kT, List.getElem?_map] at h
  obtain ⟨t, ht, e⟩ := Option.map_eq_some_iff.mp h
  cases e
  exact ⟨t, ht, rfl⟩
theorem kT_lt {ts : List (Str × Str)} {i : Nat} {k : Key} {v : V} (h : (kT ts)[i]? = some (k, v)) : i < ts.length := by
  obtain ⟨t, ht, _⟩ := kT_at h
  exact (List.getElem?_eq_some_iff.mp ht).1
theorem all_map {α : Type} (f : α → Bool) (l : List α) : ((l.map f).all id) = l.all f := by
  induction l with
  | nil => rfl
  | cons x r ih => rw [List.map_cons, List.all_cons, List.all_cons, ih]; rfl
end D1
end L2
namespace L2
namespace D1
open PySem PySem.Spec PyProof.Rows D2
def BksAt (H : Hp) (B : Addr) (bk cl : Bk) : Prop := ∃ b1 b2, H B = some (.tup [.ref b1, .ref b2]) ∧ BookAt H b1 bk ∧ BookAt H b2 cl
theorem BksAt.same {H H' : Hp} {B : Addr} {bk cl : Bk} (h : BksAt H B bk cl) (s : Same H H') : BksAt H' B bk cl := let ⟨b1, b2, e, f, g⟩ := h; ⟨b1, b2, s _ _ e, f.same s, g.same s⟩
def findP (ts : List (Str × Pr)) (w : Str) : Option Pr := (ts.find? fun t => decide (t.1 = w)).map (·.2)
theorem PRows.val {H : Hp} : ∀ {kvs : List (Key × V)} {ts : List (Str × Pr)}, PRows H kvs ts → ∀ w, match findP ts w with
    | none => valV kvs (.inr w) = none
    | some q => ∃ z, valV kvs (.inr w) = some (.ref z) ∧ PAt H z q
  | _, _, .nil, w => rfl
  | kv :: kvs, t :: ts, .cons h r, w => by
    obtain ⟨e, z, ez, hz⟩ := h
    have ih := PRows.val (kvs := kvs) (ts := ts) r w
    by_cases c : t.1 = w
    · have : findP (t :: ts) w = some t.2 := by unfold findP; rw [List.find?_cons_of_pos (by exact decide_eq_true c)]; rfl
      rw [this]
      exact ⟨z, by rw [valV_pos (by rw [e, c]), ez], hz⟩
    · have : findP (t :: ts) w = findP ts w := by unfold findP; rw [List.find?_cons_of_neg (by simpa using c)]
      rw [this, valV_neg (fun q => by rw [e] at q; exact c (Sum.inr.inj q))]
      exact ih
end D1
end L2
namespace L2
namespace D1
open PySem PySem.Spec PyProof.Rows D2
def Two (C : Addr) (H : Hp) (q1 q2 : Addr) (bk cl : Bk) (st st' : Str) : Prop := DeskAt C H q1 bk st ∧ DeskAt C H q2 cl st'
theorem Two.same {C : Addr} {H H' : Hp} {q1 q2 : Addr} {bk cl : Bk} {st st' : Str} (h : Two C H q1 q2 bk cl st st') (s : Same H H') : Two C H' q1 q2 bk cl st st' := ⟨h.1.same s, h.2.same s⟩
def spFirstPair (C : Addr) : Sp := fun vs H Q _ => ∃ (q1 q2 : Addr) (bk cl : Bk) (st st' : Str), vs = [.ref q1, .ref q2] ∧ Two C H q1 q2 bk cl st st' ∧ ∀ H' z, Same H H' → H z = none → PAt H' z (st, st') → Q (.ref z) H'
end D1
end L2
namespace L2
namespace D1
open PySem PySem.Spec PyProof.Rows D2 X5 X6
/-- what some way leads to -/
inductive Rn (nx : Pr → List (Str × Pr)) (p : Pr) : Pr → Prop
  | here : Rn nx p p
  | next {q : Pr} {t : Str × Pr} : Rn nx p q → t ∈ nx q → Rn nx p t.2
def FT (ns : List Pr) : List (List Key × V) := ns.map fun n => (kP n, .bl true)
theorem kP_inj {p q : Pr} (h : kP p = kP q) : p = q := by
  have h1 : p.1 = q.1 := Sum.inr.inj (List.cons.inj h).1
  have h2 : p.2 = q.2 := Sum.inr.inj (List.cons.inj (List.cons.inj h).2).1
  exact Prod.ext h1 h2
theorem valT_none {ps : List Pr} {x : Pr} (h : x ∉ ps) {kvs : List (List Key × V)} (e : kvs.map (·.1) = ps.map kP) : valV kvs (kP x) = none := by
  cases c : valV kvs (kP x) with
  | none => rfl
  | some v =>
    have : (kvs.any fun kv => decide (kv.1 = kP x)) = true := by rw [valV_any, c]; rfl
    obtain ⟨kv, hk, e1⟩ := List.any_eq_true.mp this
    have m : kv.1 ∈ ps.map kP := by rw [← e]; exact List.mem_map_of_mem hk
    obtain ⟨q, hq, e2⟩ := List.mem_map.mp m
    rw [of_decide_eq_true e1] at e2
    exact absurd (kP_inj e2 ▸ hq) h
theorem FT_keys (ns : List Pr) : (FT ns).map (·.1) = ns.map kP := by rw [FT, List.map_map]; rfl
theorem FT_put {ns : List Pr} {x : Pr} (h : x ∉ ns) : putK (FT ns) (kP x) (.bl true) = FT (ns ++ [x]) := by
  rw [L2.putK_new _ (valT_none h (FT_keys ns)), FT, FT, List.map_append]; rfl
theorem FT_val (ns : List Pr) (x : Pr) : (valV (FT ns) (kP x)).isSome = decide (x ∈ ns) := by
  by_cases h : x ∈ ns
  · rw [decide_eq_true h, ← valV_any]
    exact List.any_eq_true.mpr ⟨(kP x, .bl true), List.mem_map.mpr ⟨x, h, rfl⟩, decide_eq_true rfl⟩
  · rw [decide_eq_false h, valT_none h (FT_keys ns)]; rfl
def QRows (H : Hp) (nx : Pr → List (Str × Pr)) : List (List Key × V) → List Pr → Prop := Paired fun kv n => kv.1 = kP n ∧ ∃ a, kv.2 = .ref a ∧ PTAt H a (nx n)
theorem QRows.same {H H' : Hp} {nx : Pr → List (Str × Pr)} {kvs : List (List Key × V)} {ns : List Pr} (h : QRows H nx kvs ns) (s : Same H H') : QRows H' nx kvs ns := paired_imp (fun _ _ ⟨e, z, e1, e2⟩ => ⟨e, z, e1, e2.same s⟩) h
theorem QRows.len {H : Hp} {nx : Pr → List (Str × Pr)} {kvs : List (List Key × V)} {ns : List Pr} (h : QRows H nx kvs ns) : kvs.length = ns.length := paired_len h
theorem QRows.keys {H : Hp} {nx : Pr → List (Str × Pr)} {kvs : List (List Key × V)} {ns : List Pr} (h : QRows H nx kvs ns) : kvs.map (·.1) = ns.map kP := by
  unfold QRows at h
  induction h with
  | nil => rfl
  | cons a _ ih => rw [List.map_cons, List.map_cons, ih, a.1]
theorem QRows.look {H : Hp} {nx : Pr → List (Str × Pr)} : ∀ {kvs : List (List Key × V)} {ns : List Pr}, QRows H nx kvs ns → ∀ {x : Pr}, x ∈ ns → ∃ a, valV kvs (kP x) = some (.ref a) ∧ PTAt H a (nx x)
  | _, _, .nil, _, h => nomatch h
  | kv :: kvs, n :: ns, .cons h r, x, hx => by
    obtain ⟨e, a, ea, ha⟩ := h
    by_cases c : n = x
    · subst c; exact ⟨a, by rw [valV_pos e, ea], ha⟩
    · rw [valV_neg (fun q => c (kP_inj (e.symm.trans q)))]
      exact QRows.look r ((List.mem_cons.mp hx).resolve_left fun q => c q.symm)
theorem paired_snoc {α β : Type} {R : α → β → Prop} {a : α} {b : β} : ∀ {l : List α} {m : List β}, Paired R l m → R a b → Paired R (l ++ [a]) (m ++ [b])
  | _, _, .nil, h => .cons h .nil
  | _, _, .cons x r, h => .cons x (paired_snoc r h)
theorem paired_get {α β : Type} {R : α → β → Prop} : ∀ {l : List α} {m : List β}, Paired R l m → ∀ {i : Nat} {a : α}, l[i]? = some a → ∃ b, m[i]? = some b ∧ R a b
  | _, _, .cons x r, 0, a, h => ⟨_, rfl, by rw [← Option.some.inj h]; exact x⟩
  | _, _, .cons x r, i + 1, a, h => paired_get r (i := i) h
/-- the addresses of some pairs -/
def PL (H : Hp) : List Addr → List Pr → Prop := Paired fun z p => PAt H z p
theorem PL.same {H H' : Hp} {zs : List Addr} {ps : List Pr} (h : PL H zs ps) (s : Same H H') : PL H' zs ps := paired_imp (fun _ _ e => s _ _ e) h
def QrAt (H : Hp) (G : Addr) (nx : Pr → List (Str × Pr)) (ns : List Pr) : Prop := ∃ kvs, H G = some (.dT kvs) ∧ QRows H nx kvs ns
theorem QrAt.same {H H' : Hp} {G : Addr} {nx : Pr → List (Str × Pr)} {ns : List Pr} (h : QrAt H G nx ns) (s : Same H H') : QrAt H' G nx ns := let ⟨kvs, e, r⟩ := h; ⟨kvs, s _ _ e, r.same s⟩
def RnAll (nx : Pr → List (Str × Pr)) (p : Pr) (ns : List Pr) : Prop := ns.Nodup ∧ ∀ x, x ∈ ns ↔ Rn nx p x
/-- what is gone through, what is found -/
structure BIp (nx : Pr → List (Str × Pr)) (p : Pr) (gs ns : List Pr) : Prop where
  nd : ns.Nodup
  rc : ∀ x ∈ ns, Rn nx p x
  st : p ∈ ns
  cl : ∀ x ∈ gs, ∀ t ∈ nx x, t.2 ∈ ns
theorem BIp.done {nx : Pr → List (Str × Pr)} {p : Pr} {ns : List Pr} (b : BIp nx p ns ns) : RnAll nx p ns := by
  refine ⟨b.nd, fun x => ⟨b.rc x, fun h => ?_⟩⟩
  induction h with
  | here => exact b.st
  | next _ ht ih => exact b.cl _ ih _ ht
theorem BIp.find {nx : Pr → List (Str × Pr)} {p : Pr} {gs ns : List Pr} (b : BIp nx p gs ns) {x : Pr} (hx : x ∉ ns) (r : Rn nx p x) : BIp nx p gs (ns ++ [x]) :=
  ⟨nodup_app b.nd hx, fun y hy => (List.mem_append.mp hy).elim (b.rc y) fun e => (List.mem_singleton.mp e) ▸ r, List.mem_append_left _ b.st, fun y hy t ht => List.mem_append_left _ (b.cl y hy t ht)⟩
theorem cut_unlock {S : List Addr} {H H' : Hp} {a : Addr} {u f : HO} (ha : a ∉ S) (e : H a = some u) (s : Same (cut S (L2.upd H a f)) (cut S H')) : Same (cut S H) (cut S (L2.upd H' a u)) := fun b o h => by
  obtain ⟨nb, h⟩ := cut_some h
  rw [cut_out nb]
  by_cases c : b = a
  · rw [c] at h ⊢; rw [upd_same, ← h, e]
  · rw [upd_ne c]
    exact (cut_some (s b o (by rw [cut_out nb, upd_ne c]; exact h))).2
theorem not_before {α : Type} {gs ls : List α} (nd : (gs ++ ls).Nodup) {i : Nat} {x : α} (hx : ls[i]? = some x) : x ∉ gs ++ ls.take i := by
  obtain ⟨hi, e⟩ := List.getElem?_eq_some_iff.mp hx
  have e1 : gs ++ ls = (gs ++ ls.take i) ++ (x :: ls.drop (i + 1)) := by
    rw [List.append_assoc, ← e, ← List.drop_eq_getElem_cons hi, List.take_append_drop]
  rw [e1] at nd
  exact fun m => (List.nodup_append.mp nd).2.2 x m x (by simp) rfl
end D1
end L2
namespace L2
namespace Gs
open PySem PySem.Spec PyProof.Rows D1 D2 X5 X6 X7 Kt
abbrev Nd := Str
abbrev KK := Key
abbrev key : Nd → KK := fun s => Sum.inr s
abbrev obj (kvs : List (KK × V)) : HO := .dK kvs
def At (_ : Hp) (v : V) (x : Nd) : Prop := v = .str x
theorem At.same {H H' : Hp} {v : V} {x : Nd} (h : At H v x) (s : Same H H') : At H' v x := h
theorem At.map {H H' : Hp} {v : V} {x : Nd} (h : At H v x) (_ : ∀ z ks, H z = some (.tup ks) → H' z = some (.tup ks)) : At H' v x := h
theorem key_inj {x y : Nd} (h : key x = key y) : x = y := Sum.inr.inj h
/-- some nodes, as values -/
def NL (H : Hp) : List V → List Nd → Prop := Paired fun v x => At H v x
theorem NL.same {H H' : Hp} {vs : List V} {xs : List Nd} (h : NL H vs xs) (s : Same H H') : NL H' vs xs := paired_imp (fun _ _ e => e.same s) h
theorem NL.map {H H' : Hp} {vs : List V} {xs : List Nd} (h : NL H vs xs) (s : ∀ z ks, H z = some (.tup ks) → H' z = some (.tup ks)) : NL H' vs xs := paired_imp (fun _ _ e => e.map s) h
theorem NL.len {H : Hp} {vs : List V} {xs : List Nd} (h : NL H vs xs) : vs.length = xs.length := paired_len h
theorem dget {H : Hp} {D : Addr} {kvs : List (KK × V)} {v : V} {x : Nd} (hD : Rd H D (obj kvs)) (hv : At H v x) : DGet H D v (valV kvs (key x)) := by
  have hv : v = .str x := hv; subst hv; exact .inl ⟨kvs, .inr x, hD, rfl, rfl⟩
theorem dput {H : Hp} {D : Addr} {kvs : List (KK × V)} {v u : V} {x : Nd} (hD : H D = some (obj kvs)) (hv : At H v x) (l : kvs.length < sizeLine) : DPut H D v u (L2.upd H D (obj (putK kvs (key x) u))) := by
  have hv : v = .str x := hv; subst hv; exact DPut.k (k := .inr x) hD l
theorem ddel {H : Hp} {D : Addr} {kvs : List (KK × V)} {v : V} {x : Nd} {td ty : TE} {E : Ends} {σ : St} (hD : H D = some (obj kvs)) (hv : At H v x) (l : (valV kvs (key x)).isSome = true) (k : E.nx σ (L2.upd H D (obj (dropK kvs (key x))))) : sDDel (tC (.ref D)) (tC v) E σ H := by
  have hv : v = .str x := hv; subst hv; exact ⟨D, kvs, .inr x, rfl, hD, rfl, l, k⟩
/-- dicts of True -/
def FTn (ns : List Nd) : List (KK × V) := ns.map fun n => (key n, .bl true)
theorem FTn_keys (ns : List Nd) : (FTn ns).map (·.1) = ns.map key := by rw [FTn, List.map_map]; rfl
theorem val_none {ps : List Nd} {x : Nd} (h : x ∉ ps) {kvs : List (KK × V)} (e : kvs.map (·.1) = ps.map key) : valV kvs (key x) = none := by
  cases c : valV kvs (key x) with
  | none => rfl
  | some v =>
    have : (kvs.any fun kv => decide (kv.1 = key x)) = true := by rw [valV_any, c]; rfl
    obtain ⟨kv, hk, e1⟩ := List.any_eq_true.mp this
    have m : kv.1 ∈ ps.map key := by rw [← e]; exact List.mem_map_of_mem hk
    obtain ⟨q, hq, e2⟩ := List.mem_map.mp m
    rw [of_decide_eq_true e1] at e2
    exact absurd (key_inj e2 ▸ hq) h
theorem val_some {ps : List Nd} {x : Nd} (h : x ∈ ps) {kvs : List (KK × V)} (e : kvs.map (·.1) = ps.map key) : (valV kvs (key x)).isSome = true := by
  rw [← valV_any]
  have m : key x ∈ kvs.map (·.1) := by rw [e]; exact List.mem_map_of_mem h
  obtain ⟨kv, hk, e1⟩ := List.mem_map.mp m
  exact List.any_eq_true.mpr ⟨kv, hk, decide_eq_true e1⟩
theorem val_dec {ps : List Nd} {x : Nd} {kvs : List (KK × V)} (e : kvs.map (·.1) = ps.map key) : (valV kvs (key x)).isSome = decide (x ∈ ps) := by
  by_cases h : x ∈ ps
  · rw [val_some h e, decide_eq_true h]
  · rw [val_none h e, decide_eq_false h]; rfl
theorem FTn_put {ns : List Nd} {x : Nd} (h : x ∉ ns) : putK (FTn ns) (key x) (.bl true) = FTn (ns ++ [x]) := by
  rw [L2.putK_new _ (val_none h (FTn_keys ns)), FTn, FTn, List.map_append]; rfl
theorem FTn_len (ns : List Nd) : (FTn ns).length = ns.length := by rw [FTn, List.length_map]
theorem keys_len {kvs : List (KK × V)} {ns : List Nd} (h : kvs.map (·.1) = ns.map key) : kvs.length = ns.length := by
  have := congrArg List.length h
  rwa [List.length_map, List.length_map] at this
theorem keys_at {kvs : List (KK × V)} {ns : List Nd} (h : kvs.map (·.1) = ns.map key) {i : Nat} {k : KK} {v : V} (e : kvs[i]? = some (k, v)) : ∃ x, ns[i]? = some x ∧ k = key x := by
  have : (kvs.map (·.1))[i]? = some k := by rw [List.getElem?_map, e]; rfl
  rw [h, List.getElem?_map] at this
  obtain ⟨x, hx, ex⟩ := Option.map_eq_some_iff.mp this
  exact ⟨x, hx, ex.symm⟩
/-- a dict of True that takes a node it may have -/
theorem FTn_again {ns : List Nd} {x : Nd} (h : x ∈ ns) : putK (FTn ns) (key x) (.bl true) = FTn ns := by
  unfold putK
  rw [if_pos (by rw [valV_any]; exact val_some h (FTn_keys ns))]
  unfold FTn
  rw [List.map_map]
  refine List.map_congr_left fun n _ => ?_
  show (if key n = key x then (key n, V.bl true) else (key n, .bl true)) = _
  split <;> rfl
section
variable {i j : Nat} {tt : TT} {σ : St} {H : Hp} {D : Addr} {kvs : List (KK × V)} {ns : List Nd}
/-- what a test within a comprehension says -/
def TstAt (tt : TT) (σ : St) (j : Nat) (H0 : Hp) (ns : List Nd) (p : Nd → Bool) : Prop := ∀ (v : V) (x : Nd) (H' : Hp) (Q : Bool → Hp → Prop), x ∈ ns → Same H0 H' → At H' v x → (∀ H'', Same H' H'' → Q (p x) H'') → tt ((σ.set j none).set j (some v)) H' Q
theorem tst_yes {H0 : Hp} : TstAt tYes σ j H0 ns fun _ => true := fun v x H' Q _ _ _ k => k H' (Same.refl _)
/-- [x for x in d if p(x)] -/
theorem lkeys {Q : VK} (hi : σ[i]? = some (some (.ref D))) (hj : j < σ.length) (hD : H D = some (obj kvs)) (hk : kvs.map (·.1) = ns.map key) (l : ns.length ≤ 3600) {p : Nd → Bool}
    (ht : ∀ od, TstAt tt σ j (L2.upd H D (.frz od (obj kvs))) ns p)
    (hq : ∀ H' L vs, Same H H' → H L = none → H' L = some (.lst vs) → NL H' vs (ns.filter p) → Q (.ref L) H') : tLockE (tLc (iKeys (tVar i)) (gName j) tt (tVar j) [j]) σ H Q := by
  refine ⟨D, _, hD, trivial, fun od => ⟨_, hi, D, od, rfl, .inl ⟨kvs, upd_same, fun M hM => ?_⟩⟩⟩
  have nM : M ≠ D := fun e => by rw [e, upd_same] at hM; cases hM
  have lk := keys_len hk
  refine lc_it (walk_keys (d := D) (o := od) (kvs := kvs)) (fun n H' => Same (L2.upd H D (.frz od (obj kvs))) H' ∧ ∃ vs : List V, H' M = some (.lst vs) ∧ NL (cut [M] H') vs ((ns.take n).filter p)) ⟨Same.new hM, [], upd_same, .nil⟩ (fun n H' _ z => z.1 _ _ upd_same) ?_ ?_
  · rintro n xv H2 H3 hn ⟨sm, vs, hM2, hz2⟩ ⟨rfl, k0, v0, hkv, rfl⟩
    obtain ⟨x, hx, ek⟩ := keys_at hk hkv
    have hx : k0 = key x := ek; subst hx; have at1 : At H3 (kV (key x)) x := rfl
    have xm := List.mem_of_getElem? hx
    have lv : vs.length ≤ 3600 := by
      rw [hz2.len]
      have := List.length_filter_le p (ns.take n)
      rw [List.length_take] at this
      omega
    refine ⟨by show ((σ.set j none).set j _).set j none = σ.set j none; rw [List.set_set, List.set_set], ht od _ x _ _ xm sm at1 fun H4 s4 => ?_⟩
    cases c : p x with
    | true =>
      refine iteT ⟨_, by rw [List.getElem?_set_self (by show j < (σ.set j none).length; rw [List.length_set]; exact hj)], vs, s4 _ _ hM2, by rw [sizeLine_eq]; omega, fun c' u e => ?_, vs ++ [_], upd_same, ?_⟩
      · rw [upd_ne (ne_of_none e hM)]; exact s4 _ _ (sm _ _ e)
      · rw [cut_upd (by simp), filt_yes hx c]
        refine paired_snoc (hz2.same (cut_same s4)) ((at1.same s4).map fun z ks e => ?_)
        rw [cut_out (fun m => by rw [List.mem_singleton.mp m, s4 _ _ hM2] at e; cases e)]; exact e
    | false =>
      refine iteF ⟨Same.trans sm s4, vs, s4 _ _ hM2, ?_⟩
      rw [filt_no hx c]; exact hz2.same (cut_same s4)
  · rintro H2 ⟨sm, vs, hM2, hz2⟩
    rw [lk, List.take_length] at hz2
    have fD := sm _ _ upd_same
    have su := Same.unlock hD sm
    have nM0 : H M = none := by rw [upd_ne nM] at hM; exact hM
    refine ⟨fD, hq _ M vs su nM0 (by rw [upd_ne nM]; exact hM2) ((hz2.same cut_le).map fun z ks e => ?_)⟩
    rw [upd_ne (fun q => by rw [q, fD] at e; cases e)]; exact e
/-- {x: w for x in d if p(x)} -/
theorem dkeys {w : V} {E : Ends} {l : Nat} (hi : σ[i]? = some (some (.ref D))) (hj : j < σ.length) (hD : H D = some (obj kvs)) (hk : kvs.map (·.1) = ns.map key) (nd : ns.Nodup) (l3 : ns.length ≤ 3600) {p : Nd → Bool}
    (ht : ∀ od, TstAt tt σ j (L2.upd H D (.frz od (obj kvs))) ns p)
    (hq : ∀ H' R, Same H H' → H R = none → H' R = some (obj ((ns.filter p).map fun x => (key x, w))) → E.nx (σ.set l (some (.ref R))) H') : tLock (tAsg (tDc (iKeys (tVar i)) (gName j) tt (tVar j) (tC w) [j]) (gName l)) E σ H := by
  refine ⟨D, _, hD, trivial, fun od => ⟨_, hi, D, od, rfl, .inl ⟨kvs, upd_same, fun M hM => ?_⟩⟩⟩
  have nM : M ≠ D := fun e => by rw [e, upd_same] at hM; cases hM
  have lk := keys_len hk
  refine dc_it (walk_keys (d := D) (o := od) (kvs := kvs)) (fun n H' => Same (L2.upd H D (.frz od (obj kvs))) H' ∧ H' M = some (obj (((ns.take n).filter p).map fun x => (key x, w)))) ⟨Same.new hM, upd_same⟩ (fun n H' _ z => z.1 _ _ upd_same) ?_ ?_
  · rintro n xv H2 H3 hn ⟨sm, hM2⟩ ⟨rfl, k0, v0, hkv, rfl⟩
    obtain ⟨x, hx, ek⟩ := keys_at hk hkv
    have hx : k0 = key x := ek; subst hx; have at1 : At H3 (kV (key x)) x := rfl
    have xm := List.mem_of_getElem? hx
    have lv : (((ns.take n).filter p).map fun x => (key x, w)).length < sizeLine := by
      rw [List.length_map, sizeLine_eq]
      have := List.length_filter_le p (ns.take n)
      rw [List.length_take] at this
      omega
    refine ⟨by show ((σ.set j none).set j _).set j none = σ.set j none; rw [List.set_set, List.set_set], ht od _ x _ _ xm sm at1 fun H4 s4 => ?_⟩
    cases c : p x with
    | true =>
      refine iteT ⟨_, by rw [List.getElem?_set_self (by show j < (σ.set j none).length; rw [List.length_set]; exact hj)], ?_⟩
      have at2 := at1.same s4
      have hD := s4 _ _ hM2
      have l := lv
      have fresh : valV (((ns.take n).filter p).map fun x => (key x, w)) (key x) = none := val_none (ps := (ns.take n).filter p) (fun m => absurd (List.mem_filter.mp m).1 (by have := not_before (gs := []) (ls := ns) (by simpa using nd) hx; simpa using this)) (by rw [List.map_map]; rfl)
      have kk : Same (L2.upd H D (.frz od (obj kvs))) (L2.upd H4 M (obj (putK (((ns.take n).filter p).map fun x => (key x, w)) (key x) w))) ∧ (L2.upd H4 M (obj (putK (((ns.take n).filter p).map fun x => (key x, w)) (key x) w))) M = some (obj (((ns.take (n + 1)).filter p).map fun x => (key x, w))) := by
        refine ⟨fun c' u e => ?_, ?_⟩
        · rw [upd_ne (ne_of_none e hM)]; exact s4 _ _ (sm _ _ e)
        · rw [upd_same, L2.putK_new _ fresh, filt_yes hx c, List.map_append]; rfl
      have at2 : _ = V.str x := at2; exact ⟨_, key x, at2, hD, l, kk⟩
    | false =>
      refine iteF ⟨Same.trans sm s4, ?_⟩
      rw [filt_no hx c]; exact s4 _ _ hM2
  · rintro H2 ⟨sm, hM2⟩
    rw [lk, List.take_length] at hM2
    have fD := sm _ _ upd_same
    have su := Same.unlock hD sm
    have nM0 : H M = none := by rw [upd_ne nM] at hM; exact hM
    exact ⟨fD, hq _ M su nM0 (by rw [upd_ne nM]; exact hM2)⟩
end
end Gs
end L2
namespace L2
namespace Gs
open PySem PySem.Spec PyProof.Rows D1 D2 X5 X6 X7 Kt
/-- the words that lead on, as a dict -/
def NT (H : Hp) (a : Addr) (ts : List (Str × Nd)) : Prop := ∃ kvs : List (Key × V), H a = some (.dK kvs) ∧ Paired (fun kv t => kv.1 = Sum.inr t.1 ∧ At H kv.2 t.2) kvs ts
theorem NT.same {H H' : Hp} {a : Addr} {ts : List (Str × Nd)} (h : NT H a ts) (s : Same H H') : NT H' a ts := let ⟨kvs, e, p⟩ := h; ⟨kvs, s _ _ e, paired_imp (fun _ _ ⟨e1, e2⟩ => ⟨e1, e2.same s⟩) p⟩
/-- a graph -/
def GRow (H : Hp) (nx : Nd → List (Str × Nd)) : List (KK × V) → List Nd → Prop := Paired fun kv n => kv.1 = key n ∧ ∃ a, kv.2 = .ref a ∧ NT H a (nx n)
def GrAt (H : Hp) (G : Addr) (nx : Nd → List (Str × Nd)) (ns : List Nd) : Prop := ∃ kvs, H G = some (obj kvs) ∧ GRow H nx kvs ns
theorem GRow.same {H H' : Hp} {nx : Nd → List (Str × Nd)} {kvs : List (KK × V)} {ns : List Nd} (h : GRow H nx kvs ns) (s : Same H H') : GRow H' nx kvs ns := paired_imp (fun _ _ ⟨e, a, e1, e2⟩ => ⟨e, a, e1, e2.same s⟩) h
theorem GrAt.same {H H' : Hp} {G : Addr} {nx : Nd → List (Str × Nd)} {ns : List Nd} (h : GrAt H G nx ns) (s : Same H H') : GrAt H' G nx ns := let ⟨kvs, e, r⟩ := h; ⟨kvs, s _ _ e, r.same s⟩
theorem p_keys {R : (KK × V) → Nd → Prop} (h0 : ∀ kv n, R kv n → kv.1 = key n) {kvs : List (KK × V)} {ns : List Nd} (h : Paired R kvs ns) : kvs.map (·.1) = ns.map key := by
  induction h with
  | nil => rfl
  | cons a _ ih => rw [List.map_cons, List.map_cons, ih, h0 _ _ a]
theorem p_look {R : (KK × V) → Nd → Prop} (h0 : ∀ kv n, R kv n → kv.1 = key n) : ∀ {kvs : List (KK × V)} {ns : List Nd}, Paired R kvs ns → ∀ {x : Nd}, x ∈ ns → ∃ v, valV kvs (key x) = some v ∧ R (key x, v) x
  | _, _, .nil, _, h => nomatch h
  | kv :: kvs, n :: ns, .cons h r, x, hx => by
    by_cases c : n = x
    · subst c
      have e := h0 _ _ h
      exact ⟨kv.2, valV_pos e, by rw [← e]; exact h⟩
    · rw [valV_neg (fun q => c (key_inj ((h0 _ _ h).symm.trans q)))]
      exact p_look h0 r ((List.mem_cons.mp hx).resolve_left fun q => c q.symm)
theorem GRow.keys {H : Hp} {nx : Nd → List (Str × Nd)} {kvs : List (KK × V)} {ns : List Nd} (h : GRow H nx kvs ns) : kvs.map (·.1) = ns.map key := p_keys (fun _ _ e => e.1) h
theorem GRow.look {H : Hp} {nx : Nd → List (Str × Nd)} {kvs : List (KK × V)} {ns : List Nd} (h : GRow H nx kvs ns) {x : Nd} (hx : x ∈ ns) : ∃ a, valV kvs (key x) = some (.ref a) ∧ NT H a (nx x) := by
  obtain ⟨v, e, _, a, rfl, q⟩ := p_look (fun _ _ e => e.1) h hx
  exact ⟨a, e, q⟩
/-- the dict of a graph is none of those within -/
theorem GRow.ne {H : Hp} {G R : Addr} {nx : Nd → List (Str × Nd)} {kvs : List (KK × V)} {ns : List Nd} {x : Nd} {kr : List (Key × V)} (hG : H G = some (obj kvs)) (g : GRow H nx kvs ns) (hx : x ∈ ns) (eR : H R = some (.dK kr)) (p : Paired (fun kv t => kv.1 = Sum.inr t.1 ∧ At H kv.2 t.2) kr (nx x)) : R ≠ G := fun e => by
    rw [e, hG] at eR
    have eR : kvs = kr := HO.dK.inj (Option.some.inj eR)
    subst eR
    obtain ⟨v, ev, _, a, ea, _⟩ := p_look (fun _ _ e => e.1) g hx
    have ea : v = V.ref a := ea
    have str : ∀ {k2 : List (Key × V)} {ts : List (Str × Nd)}, Paired (fun kv t => kv.1 = Sum.inr t.1 ∧ At H kv.2 t.2) k2 ts → ∀ {k : Key} {v : V}, valV k2 k = some v → ∃ s, v = .str s := fun {k2 ts} p => by
      induction p with
      | nil => intro k v e; cases e
      | @cons c t k2 ts h _ ih =>
        intro k v e
        by_cases q : c.1 = k
        · rw [valV_pos q] at e; cases e; exact ⟨_, h.2⟩
        · rw [valV_neg q] at e; exact ih e
    obtain ⟨s, es⟩ := str p ev
    rw [ea] at es; cases es
/-- what a node leads to -/
def sc (nx : Nd → List (Str × Nd)) (x : Nd) : List Nd := (nx x).map (·.2)
structure GO (nx : Nd → List (Str × Nd)) (ns : List Nd) : Prop where
  nd : ns.Nodup
  len : ns.length ≤ 3600
  l60 : ∀ x ∈ ns, (nx x).length ≤ 60
  cl : ∀ x ∈ ns, ∀ t ∈ nx x, t.2 ∈ ns
  wn : ∀ x ∈ ns, ((nx x).map (·.1)).Nodup
theorem GO.sc {nx : Nd → List (Str × Nd)} {ns : List Nd} (g : GO nx ns) {x y : Nd} (hx : x ∈ ns) (h : y ∈ sc nx x) : y ∈ ns := by
  obtain ⟨t, ht, rfl⟩ := List.mem_map.mp h
  exact g.cl x hx t ht
/-- those from which one word leads to n -/
def befn (nx : Nd → List (Str × Nd)) (n : Nd) (es : List Nd) : List Nd := es.flatMap fun e => ((nx e).filter fun t => decide (t.2 = n)).map fun _ => e
theorem mem_befn {nx : Nd → List (Str × Nd)} {n e : Nd} {es : List Nd} : e ∈ befn nx n es ↔ e ∈ es ∧ ∃ t ∈ nx e, t.2 = n := by
  unfold befn
  rw [List.mem_flatMap]
  constructor
  · rintro ⟨y, hy, h⟩
    obtain ⟨t, ht, rfl⟩ := List.mem_map.mp h
    obtain ⟨h1, h2⟩ := List.mem_filter.mp ht
    exact ⟨hy, t, h1, of_decide_eq_true h2⟩
  · rintro ⟨hy, t, ht, e1⟩
    exact ⟨e, hy, List.mem_map.mpr ⟨t, List.mem_filter.mpr ⟨ht, decide_eq_true e1⟩, rfl⟩⟩
theorem mem_befs {nx : Nd → List (Str × Nd)} {n e : Nd} {es : List Nd} : e ∈ befn nx n es ↔ e ∈ es ∧ n ∈ sc nx e := by
  rw [mem_befn]
  unfold sc
  rw [List.mem_map]
theorem befn_snoc (nx : Nd → List (Str × Nd)) (n : Nd) (es : List Nd) (e : Nd) : befn nx n (es ++ [e]) = befn nx n es ++ ((nx e).filter fun t => decide (t.2 = n)).map fun _ => e := by
  unfold befn; rw [List.flatMap_append]; simp
theorem befn_len {nx : Nd → List (Str × Nd)} {n : Nd} : ∀ {es : List Nd}, (∀ e ∈ es, (nx e).length ≤ 60) → (befn nx n es).length ≤ 60 * es.length
  | [], _ => by simp [befn]
  | e :: r, h => by
    have ih := befn_len (n := n) (es := r) fun y hy => h y (List.mem_cons_of_mem _ hy)
    have l0 := h e (by simp)
    unfold befn at ih ⊢
    rw [List.flatMap_cons, List.length_append, List.length_map, List.length_cons]
    have := List.length_filter_le (fun t => decide (t.2 = n)) (nx e)
    omega
def BRow (H : Hp) (nx : Nd → List (Str × Nd)) (es : List Nd) : List (KK × V) → List Nd → Prop := Paired fun kv n => kv.1 = key n ∧ ∃ l vs, kv.2 = .ref l ∧ H l = some (.lst vs) ∧ NL H vs (befn nx n es)
def BefAt (H : Hp) (D : Addr) (nx : Nd → List (Str × Nd)) (ns : List Nd) : Prop := ∃ kvs, H D = some (obj kvs) ∧ BRow H nx ns kvs ns
theorem BefAt.same {H H' : Hp} {D : Addr} {nx : Nd → List (Str × Nd)} {ns : List Nd} (h : BefAt H D nx ns) (s : Same H H') : BefAt H' D nx ns := let ⟨kvs, e, r⟩ := h; ⟨kvs, s _ _ e, paired_imp (fun _ _ ⟨e1, l, vs, e2, e3, e4⟩ => ⟨e1, l, vs, e2, s _ _ e3, e4.same s⟩) r⟩
theorem BefAt.look {H : Hp} {D : Addr} {nx : Nd → List (Str × Nd)} {ns : List Nd} (h : BefAt H D nx ns) {v : V} {x : Nd} (hx : x ∈ ns) (hv : At H v x) : ∃ l vs, DGet H D v (some (.ref l)) ∧ H l = some (.lst vs) ∧ NL H vs (befn nx x ns) := by
  obtain ⟨kvs, e, r⟩ := h
  obtain ⟨u, eu, _, l, vs, rfl, hl, hn⟩ := p_look (fun _ _ e => e.1) r hx
  exact ⟨l, vs, by rw [← eu]; exact dget (.inl e) hv, hl, hn⟩
theorem BefAt.look2 {H : Hp} {D : Addr} {nx : Nd → List (Str × Nd)} {ns : List Nd} (h : BefAt H D nx ns) {x : Nd} (hx : x ∈ ns) : ∃ kvs l vs, H D = some (obj kvs) ∧ valV kvs (key x) = some (.ref l) ∧ H l = some (.lst vs) ∧ NL H vs (befn nx x ns) := by
  obtain ⟨kvs, e, r⟩ := h
  obtain ⟨u, eu, _, l, vs, rfl, hl, hn⟩ := p_look (fun _ _ e => e.1) r hx
  exact ⟨kvs, l, vs, e, eu, hl, hn⟩
/-- what is asked -/
def askS : Ask → Str
  | .always => "always"
  | .never => "never"
  | .all => "all"
  | .some => "some"
  | .nearer => "nearer"
theorem askS_eq {a b : Ask} : decide (V.str (askS a) = V.str (askS b)) = decide (a = b) := by
  cases a <;> cases b <;> decide +kernel
def askD (ask : Nd → Ask) (ns : List Nd) : List (KK × V) := ns.map fun n => (key n, .str (askS (ask n)))
def AskAt (H : Hp) (A : Addr) (ask : Nd → Ask) (ns : List Nd) : Prop := H A = some (obj (askD ask ns))
theorem askD_keys (ask : Nd → Ask) (ns : List Nd) : (askD ask ns).map (·.1) = ns.map key := by rw [askD, List.map_map]; rfl
theorem AskAt.look {H : Hp} {A : Addr} {ask : Nd → Ask} {ns : List Nd} (h : Rd H A (obj (askD ask ns))) {v : V} {x : Nd} (hx : x ∈ ns) (hv : At H v x) : DGet H A v (some (.str (askS (ask x)))) := by
  have : valV (askD ask ns) (key x) = some (.str (askS (ask x))) := by
    clear h hv
    induction ns with
    | nil => cases hx
    | cons n r ih =>
      by_cases c : n = x
      · subst c; exact valV_pos rfl
      · show valV ((key n, V.str (askS (ask n))) :: askD ask r) (key x) = _
        rw [valV_neg (fun q => c (key_inj q))]
        exact ih ((List.mem_cons.mp hx).resolve_left fun q => c q.symm)
  rw [← this]; exact dget h hv
/-- what rests, on what -/
def onV (H : Hp) (v : V) : Option Nd → Prop
  | none => v = .non
  | some y => At H v y
def Ents (H : Hp) : List (KK × V) → List (Nd × Option Nd) → Prop := Paired fun kv r => kv.1 = key r.1 ∧ onV H kv.2 r.2
theorem onV.map {H H' : Hp} {v : V} : ∀ {o : Option Nd}, onV H v o → (∀ z ks, H z = some (.tup ks) → H' z = some (.tup ks)) → onV H' v o
  | none, h, _ => h
  | some _, h, s => At.map h s
theorem Ents.map {H H' : Hp} {kvs : List (KK × V)} {rs : List (Nd × Option Nd)} (h : Ents H kvs rs) (s : ∀ z ks, H z = some (.tup ks) → H' z = some (.tup ks)) : Ents H' kvs rs := paired_imp (fun _ _ ⟨e1, e2⟩ => ⟨e1, e2.map s⟩) h
theorem Ents.same {H H' : Hp} {kvs : List (KK × V)} {rs : List (Nd × Option Nd)} (h : Ents H kvs rs) (s : Same H H') : Ents H' kvs rs := h.map fun z ks e => s _ _ e
theorem Ents.keys {H : Hp} {kvs : List (KK × V)} {rs : List (Nd × Option Nd)} (h : Ents H kvs rs) : kvs.map (·.1) = (rs.map (·.1)).map key := by
  unfold Ents at h
  induction h with
  | nil => rfl
  | cons a _ ih => rw [List.map_cons, ih, a.1]; rfl
theorem Ents.len {H : Hp} {kvs : List (KK × V)} {rs : List (Nd × Option Nd)} (h : Ents H kvs rs) : kvs.length = rs.length := paired_len h
theorem Ents.put {H : Hp} {kvs : List (KK × V)} {rs : List (Nd × Option Nd)} (h : Ents H kvs rs) {x y : Nd} {u : V} (n : x ∉ rs.map (·.1)) (hu : At H u y) : Ents H (putK kvs (key x) u) (rs ++ [(x, some y)]) := by
  rw [L2.putK_new _ (val_none n h.keys)]
  exact paired_snoc h ⟨rfl, hu⟩
theorem Ents.look {H : Hp} : ∀ {kvs : List (KK × V)} {rs : List (Nd × Option Nd)}, Ents H kvs rs → (rs.map (·.1)).Nodup → ∀ {x : Nd} {o : Option Nd}, (x, o) ∈ rs → ∃ v, valV kvs (key x) = some v ∧ onV H v o
  | _, _, .nil, _, _, _, h => nomatch h
  | kv :: kvs, r :: rs, .cons h t, nd, x, o, hx => by
    have n := List.nodup_cons.mp nd
    rcases List.mem_cons.mp hx with e | hx
    · subst e; exact ⟨kv.2, valV_pos h.1, h.2⟩
    · have c : r.1 ≠ x := fun e => n.1 (by show r.1 ∈ _; rw [e]; exact List.mem_map_of_mem hx)
      rw [valV_neg (fun q => c (key_inj (h.1.symm.trans q)))]
      exact Ents.look t n.2 hx
theorem Ents.drop {H : Hp} {kvs : List (KK × V)} {rs : List (Nd × Option Nd)} (h : Ents H kvs rs) (x : Nd) : Ents H (dropK kvs (key x)) (rs.filter fun r => decide (r.1 ≠ x)) := by
  unfold Ents at h ⊢
  induction h with
  | nil => exact .nil
  | @cons a r kvs rs h1 _ ih =>
    unfold dropK at ih ⊢
    by_cases c : r.1 = x
    · rw [List.filter_cons_of_neg (by simpa using h1.1.trans (by rw [c])), List.filter_cons_of_neg (by simpa using c)]; exact ih
    · rw [List.filter_cons_of_pos (by simpa using fun q => c (key_inj (h1.1.symm.trans q))), List.filter_cons_of_pos (by simpa using c)]; exact .cons h1 ih
end Gs
end L2
namespace L2
namespace D1
open PySem PySem.Spec PyProof.Rows D2 X5 X6
end D1
end L2
namespace L2
namespace D1
open PySem PySem.Spec PyProof.Rows D2 X5 X6
abbrev sBefore : Stmt := top 14
/-- those from which one word leads to n -/
def befP (nx : Pr → List (Str × Pr)) (n : Pr) (es : List Pr) : List Pr := es.flatMap fun e => ((nx e).filter fun t => decide (t.2 = n)).map fun _ => e
theorem mem_befP {nx : Pr → List (Str × Pr)} {n e : Pr} {es : List Pr} : e ∈ befP nx n es ↔ e ∈ es ∧ ∃ t ∈ nx e, t.2 = n := by
  unfold befP
  rw [List.mem_flatMap]
  constructor
  · rintro ⟨y, hy, h⟩
    obtain ⟨t, ht, rfl⟩ := List.mem_map.mp h
    obtain ⟨h1, h2⟩ := List.mem_filter.mp ht
    exact ⟨hy, t, h1, of_decide_eq_true h2⟩
  · rintro ⟨hy, t, ht, e1⟩
    exact ⟨e, hy, List.mem_map.mpr ⟨t, List.mem_filter.mpr ⟨ht, decide_eq_true e1⟩, rfl⟩⟩
/-- lists of pairs at the addresses ls -/
def LsC (ls : List Addr) (H : Hp) (f : Pr → List Pr) (ns : List Pr) : Prop := ∀ (k : Nat) (l : Addr) (n : Pr), ls[k]? = some l → ns[k]? = some n → ∃ zs : List Addr, H l = some (.lst (zs.map V.ref)) ∧ PL (cut ls H) zs (f n)
theorem nd_idx {α : Type} {l : List α} (nd : l.Nodup) {i j : Nat} {x : α} (h1 : l[i]? = some x) (h2 : l[j]? = some x) : i = j :=
  (List.getElem?_inj (List.getElem?_eq_some_iff.mp h1).1 nd).mp (h1.trans h2.symm)
theorem LsC.put {ls : List Addr} {H : Hp} {f : Pr → List Pr} {ns : List Pr} (h : LsC ls H f ns) (nl : ls.Nodup) (nn : ns.Nodup) {k : Nat} {l z : Addr} {n x : Pr} {zs : List Addr} (hk : ns[k]? = some n) (hl : ls[k]? = some l) (e : H l = some (.lst (zs.map V.ref))) (hz : PAt (cut ls H) z x) :
    LsC ls (L2.upd H l (.lst (zs.map V.ref ++ [.ref z]))) (fun m => if m = n then f m ++ [x] else f m) ns := fun k' l' n' h1 h2 => by
  rw [cut_upd (List.mem_of_getElem? hl)]
  obtain ⟨zs', e', p'⟩ := h k' l' n' h1 h2
  by_cases c : k' = k
  · subst c
    obtain rfl : l = l' := Option.some.inj (hl.symm.trans h1)
    obtain rfl : n = n' := Option.some.inj (hk.symm.trans h2)
    rw [e] at e'
    have e2 : zs.map V.ref = zs'.map V.ref := HO.lst.inj (Option.some.inj e')
    refine ⟨zs' ++ [z], by rw [upd_same, List.map_append, e2]; rfl, ?_⟩
    dsimp only
    rw [if_pos rfl]
    exact paired_snoc p' hz
  · have n1 : l' ≠ l := fun q => c (nd_idx nl h1 (q ▸ hl))
    have n2 : n' ≠ n := fun q => c (nd_idx nn h2 (q ▸ hk))
    refine ⟨zs', by rw [upd_ne n1]; exact e', ?_⟩
    dsimp only
    rw [if_neg n2]
    exact p'
theorem LsC.upd {ls : List Addr} {H : Hp} {f : Pr → List Pr} {ns : List Pr} {R : Addr} {u : HO} (h : LsC ls H f ns) (h1 : ∀ xs, H R ≠ some (.lst xs)) (h2 : ∀ xs, H R ≠ some (.tup xs)) : LsC ls (L2.upd H R u) f ns := fun k l n e1 e2 => by
  obtain ⟨zs, e, p⟩ := h k l n e1 e2
  refine ⟨zs, by rw [upd_ne (fun q => h1 _ (q ▸ e))]; exact e, paired_imp (fun z q hz => ?_) p⟩
  have hz : cut ls H z = _ := hz
  obtain ⟨nz, hz⟩ := cut_some hz
  show cut ls _ z = _
  rw [cut_out nz, upd_ne (fun w => h2 _ (w ▸ hz))]; exact hz
theorem LsC.ext {ls : List Addr} {H : Hp} {f g : Pr → List Pr} {ns : List Pr} (h : LsC ls H f ns) (e : ∀ n ∈ ns, f n = g n) : LsC ls H g ns := fun k l n e1 e2 => by
  obtain ⟨zs, q, p⟩ := h k l n e1 e2
  exact ⟨zs, q, e n (List.mem_of_getElem? e2) ▸ p⟩
section
variable {P : Program} {w : World} {K : PySem.W.Frag} {mg : Str → Option Value} {base : Heap} {C : Addr}
abbrev beN : List Str := ["graph", "before", "node", "goal"]
theorem scBe : FnScope beN ["graph"] (defScope sBefore) := ⟨rfl, rfl, rfl, by decide +kernel, rfl, by decide +kernel, by decide +kernel⟩
end
end D1
end L2
namespace L2
namespace D1
open PySem PySem.Spec PyProof.Rows D2 X5 X6
inductive Wn (nx : Pr → List (Str × Pr)) (q : Pr) : Nat → Pr → Prop
  | zero : Wn nx q 0 q
  | succ {n : Nat} {x : Pr} {t : Str × Pr} : t ∈ nx x → Wn nx q n t.2 → Wn nx q (n + 1) x
def IsD (nx : Pr → List (Str × Pr)) (q x : Pr) (n : Nat) : Prop := Wn nx q n x ∧ ∀ m, m < n → ¬ Wn nx q m x
theorem IsD.uniq {nx : Pr → List (Str × Pr)} {q x : Pr} {n m : Nat} (a : IsD nx q x n) (b : IsD nx q x m) : n = m := by
  rcases Nat.lt_trichotomy n m with h | h | h
  · exact absurd a.1 (b.2 n h)
  · exact h
  · exact absurd b.1 (a.2 m h)
theorem least_of {nx : Pr → List (Str × Pr)} {q x : Pr} : ∀ {n : Nat}, Wn nx q n x → ∃ m, m ≤ n ∧ IsD nx q x m := by
  intro n
  induction n using Nat.strongRecOn with
  | ind n ih =>
    intro h
    by_cases c : ∃ m, m < n ∧ Wn nx q m x
    · obtain ⟨m, hm, w⟩ := c
      obtain ⟨k, hk, d⟩ := ih m hm w
      exact ⟨k, by omega, d⟩
    · exact ⟨n, Nat.le_refl _, h, fun m hm w => c ⟨m, hm, w⟩⟩
theorem IsD.step {nx : Pr → List (Str × Pr)} {q x : Pr} {n : Nat} (d : IsD nx q x (n + 1)) : ∃ t ∈ nx x, IsD nx q t.2 n := by
  obtain ⟨h, l⟩ := d
  cases h with
  | succ ht w => exact ⟨_, ht, w, fun m hm w' => l (m + 1) (by omega) (.succ ht w')⟩
structure Lv (nx : Pr → List (Str × Pr)) (q : Pr) (ns : List Pr) (r : Nat) (ks ls : List Pr) : Prop where
  nd : ks.Nodup
  sub : ∀ x ∈ ks, x ∈ ns
  kd : ∀ x ∈ ns, x ∈ ks ↔ ∃ n, n ≤ r ∧ IsD nx q x n
  ld : ∀ x ∈ ns, x ∈ ls ↔ IsD nx q x r
  ls : ∀ x ∈ ls, x ∈ ks
structure Lj (nx : Pr → List (Str × Pr)) (q : Pr) (ns : List Pr) (r : Nat) (ks0 done es ks cs : List Pr) : Prop where
  nd : ks.Nodup
  sub : ∀ x ∈ ks, x ∈ ns
  old : ∀ x ∈ ks0, x ∈ ks
  new : ∀ x ∈ ks, x ∈ ks0 ∨ x ∈ cs
  cd : ∀ x ∈ cs, x ∈ ks ∧ IsD nx q x (r + 1)
  pr : ∀ y ∈ done, ∀ e ∈ ns, (∃ t ∈ nx e, t.2 = y) → e ∈ ks
  pe : ∀ e ∈ es, e ∈ ks
  len : ks.length = ks0.length + cs.length
theorem Lv.enter {nx : Pr → List (Str × Pr)} {q : Pr} {ns ks ls : List Pr} {r : Nat} (b : Lv nx q ns r ks ls) : Lj nx q ns r ks [] [] ks [] :=
  ⟨b.nd, b.sub, fun _ h => h, fun _ h => .inl h, (fun _ h => by cases h), (fun _ h => by cases h), (fun _ h => by cases h), rfl⟩
theorem Lj.find {nx : Pr → List (Str × Pr)} {q : Pr} {ns ks0 ls done es ks cs : List Pr} {r : Nat} (b : Lj nx q ns r ks0 done es ks cs) (b0 : Lv nx q ns r ks0 ls) {y e : Pr} (hy : IsD nx q y r) (he : e ∈ ns) (ht : ∃ t ∈ nx e, t.2 = y) (n : e ∉ ks) :
    IsD nx q e (r + 1) ∧ Lj nx q ns r ks0 done (es ++ [e]) (ks ++ [e]) (cs ++ [e]) := by
  obtain ⟨t, ht, rfl⟩ := ht
  have d : IsD nx q e (r + 1) := by
    refine ⟨.succ ht hy.1, fun m hm w => ?_⟩
    obtain ⟨k, hk, d⟩ := least_of w
    exact n (b.old _ ((b0.kd e he).mpr ⟨k, by omega, d⟩))
  refine ⟨d, nodup_app b.nd n, ?_, fun x hx => List.mem_append_left _ (b.old x hx), ?_, ?_, fun y hy e' he' ht' => List.mem_append_left _ (b.pr y hy e' he' ht'), ?_, by rw [List.length_append, List.length_append, b.len]; rfl⟩
  · intro x hx
    rcases List.mem_append.mp hx with z | z
    · exact b.sub x z
    · rw [List.mem_singleton.mp z]; exact he
  · intro x hx
    rcases List.mem_append.mp hx with z | z
    · exact (b.new x z).elim .inl fun q => .inr (List.mem_append_left _ q)
    · exact .inr (List.mem_append_right _ z)
  · intro x hx
    rcases List.mem_append.mp hx with z | z
    · exact ⟨List.mem_append_left _ (b.cd x z).1, (b.cd x z).2⟩
    · rw [List.mem_singleton.mp z]; exact ⟨List.mem_append_right _ (List.mem_singleton.mpr rfl), d⟩
  · intro x hx
    rcases List.mem_append.mp hx with z | z
    · exact List.mem_append_left _ (b.pe x z)
    · exact List.mem_append_right _ z
theorem Lj.skip {nx : Pr → List (Str × Pr)} {q : Pr} {ns ks0 done es ks cs : List Pr} {r : Nat} (b : Lj nx q ns r ks0 done es ks cs) {e : Pr} (h : e ∈ ks) : Lj nx q ns r ks0 done (es ++ [e]) ks cs :=
  { b with pe := fun x hx => (List.mem_append.mp hx).elim (b.pe x) fun z => (List.mem_singleton.mp z) ▸ h }
theorem Lj.turn {nx : Pr → List (Str × Pr)} {q : Pr} {ns ks0 done ks cs : List Pr} {r : Nat} {y : Pr} (b : Lj nx q ns r ks0 done (befP nx y ns) ks cs) : Lj nx q ns r ks0 (done ++ [y]) [] ks cs :=
  { b with
    pr := fun x hx e he ht => by
      rcases List.mem_append.mp hx with z | z
      · exact b.pr x z e he ht
      · rw [List.mem_singleton.mp z] at ht
        exact b.pe e (mem_befP.mpr ⟨he, ht⟩)
    pe := fun _ h => by cases h }
theorem Lj.leave {nx : Pr → List (Str × Pr)} {q : Pr} {ns ks0 ls ks cs : List Pr} {r : Nat} (cl : ∀ x ∈ ns, ∀ t ∈ nx x, t.2 ∈ ns) (b0 : Lv nx q ns r ks0 ls) (b : Lj nx q ns r ks0 ls [] ks cs) : Lv nx q ns (r + 1) ks cs := by
  have far : ∀ x ∈ ns, IsD nx q x (r + 1) → x ∈ ks := fun x hx d => by
    obtain ⟨t, ht, dt⟩ := d.step
    exact b.pr t.2 ((b0.ld _ (cl x hx t ht)).mpr dt) x hx ⟨t, ht, rfl⟩
  refine ⟨b.nd, b.sub, fun x hx => ⟨fun h => ?_, ?_⟩, fun x hx => ⟨fun h => (b.cd x h).2, fun d => ?_⟩, fun x hx => (b.cd x hx).1⟩
  · rcases b.new x h with z | z
    · obtain ⟨n, hn, d⟩ := (b0.kd x hx).mp z
      exact ⟨n, by omega, d⟩
    · exact ⟨r + 1, Nat.le_refl _, (b.cd x z).2⟩
  · rintro ⟨n, hn, d⟩
    by_cases c : n = r + 1
    · exact far x hx (c ▸ d)
    · exact b.old _ ((b0.kd x hx).mpr ⟨n, by omega, d⟩)
  · rcases b.new x (far x hx d) with z | z
    · obtain ⟨n, hn, d'⟩ := (b0.kd x hx).mp z
      have := d.uniq d'
      omega
    · exact z
theorem Lv.done {nx : Pr → List (Str × Pr)} {q : Pr} {ns ks : List Pr} {r : Nat} (cl : ∀ x ∈ ns, ∀ t ∈ nx x, t.2 ∈ ns) (b : Lv nx q ns r ks []) : ∀ x ∈ ns, x ∈ ks ↔ ∃ n, IsD nx q x n := by
  have no : ∀ n, r ≤ n → ∀ x ∈ ns, ¬ IsD nx q x n := by
    intro n
    induction n with
    | zero => intro h x hx d; obtain rfl : r = 0 := by omega
              exact absurd ((b.ld x hx).mpr d) (by simp)
    | succ n ih =>
      intro h x hx d
      by_cases c : r = n + 1
      · exact absurd ((b.ld x hx).mpr (c ▸ d)) (by simp)
      · obtain ⟨t, ht, dt⟩ := d.step
        exact ih (by omega) t.2 (cl x hx t ht) dt
  intro x hx
  rw [b.kd x hx]
  constructor
  · rintro ⟨n, _, d⟩; exact ⟨n, d⟩
  · rintro ⟨n, d⟩
    by_cases c : r ≤ n
    · exact absurd d (no n c x hx)
    · exact ⟨n, by omega, d⟩
end D1
end L2
namespace L2
namespace D1
open PySem PySem.Spec PyProof.Rows D2 X5 X6
abbrev sWordsTo : Stmt := top 15
end D1
end L2
namespace L2
namespace Gs
open PySem PySem.Spec PyProof.Rows D1 D2 X5 X6 X7 Kt
inductive WnE (nx : Nd → List (Str × Nd)) (q : Nd → Prop) : Nat → Nd → Prop
  | zero {x : Nd} : q x → WnE nx q 0 x
  | succ {n : Nat} {x : Nd} {t : Str × Nd} : t ∈ nx x → WnE nx q n t.2 → WnE nx q (n + 1) x
def IsDE (nx : Nd → List (Str × Nd)) (q : Nd → Prop) (x : Nd) (n : Nat) : Prop := WnE nx q n x ∧ ∀ m, m < n → ¬ WnE nx q m x
theorem IsDE.uniq {nx : Nd → List (Str × Nd)} {q : Nd → Prop} {x : Nd} {n m : Nat} (a : IsDE nx q x n) (b : IsDE nx q x m) : n = m := by
  rcases Nat.lt_trichotomy n m with h | h | h
  · exact absurd a.1 (b.2 n h)
  · exact h
  · exact absurd b.1 (a.2 m h)
theorem least_ofE {nx : Nd → List (Str × Nd)} {q : Nd → Prop} {x : Nd} : ∀ {n : Nat}, WnE nx q n x → ∃ m, m ≤ n ∧ IsDE nx q x m := by
  intro n
  induction n using Nat.strongRecOn with
  | ind n ih =>
    intro h
    by_cases c : ∃ m, m < n ∧ WnE nx q m x
    · obtain ⟨m, hm, w⟩ := c
      obtain ⟨k, hk, d⟩ := ih m hm w
      exact ⟨k, by omega, d⟩
    · exact ⟨n, Nat.le_refl _, h, fun m hm w => c ⟨m, hm, w⟩⟩
theorem isD_zeroE {nx : Nd → List (Str × Nd)} {q : Nd → Prop} {x : Nd} : IsDE nx q x 0 ↔ q x := by
  constructor
  · rintro ⟨h, _⟩
    cases h with
    | zero h => exact h
  · intro h; exact ⟨.zero h, fun m h => by omega⟩
theorem IsDE.step {nx : Nd → List (Str × Nd)} {q : Nd → Prop} {x : Nd} {n : Nat} (d : IsDE nx q x (n + 1)) : ∃ t ∈ nx x, IsDE nx q t.2 n := by
  obtain ⟨h, l⟩ := d
  cases h with
  | succ ht w => exact ⟨_, ht, w, fun m hm w' => l (m + 1) (by omega) (.succ ht w')⟩
open Classical in
noncomputable def farPE (nx : Nd → List (Str × Nd)) (q : Nd → Prop) (x : Nd) : Option Nat := if h : ∃ n, IsDE nx q x n then some (choose h) else none
theorem farP_someE {nx : Nd → List (Str × Nd)} {q : Nd → Prop} {x : Nd} {n : Nat} : farPE nx q x = some n ↔ IsDE nx q x n := by
  unfold farPE
  by_cases h : ∃ n, IsDE nx q x n
  · rw [dif_pos h]
    have c := Classical.choose_spec h
    constructor
    · intro e; rw [← Option.some.inj e]; exact c
    · intro d; rw [c.uniq d]
  · rw [dif_neg h]
    exact ⟨fun e => (by cases e), fun d => absurd ⟨n, d⟩ h⟩
noncomputable def farVE (nx : Nd → List (Str × Nd)) (q : Nd → Prop) (x : Nd) : Nat := (farPE nx q x).getD 0
theorem farV_ofE {nx : Nd → List (Str × Nd)} {q : Nd → Prop} {x : Nd} {n : Nat} (d : IsDE nx q x n) : farVE nx q x = n := by rw [farVE, farP_someE.mpr d]; rfl
structure LvE (nx : Nd → List (Str × Nd)) (q : Nd → Prop) (ns : List Nd) (r : Nat) (ks ls : List Nd) : Prop where
  nd : ks.Nodup
  sub : ∀ x ∈ ks, x ∈ ns
  kd : ∀ x ∈ ns, x ∈ ks ↔ ∃ n, n ≤ r ∧ IsDE nx q x n
  ld : ∀ x ∈ ns, x ∈ ls ↔ IsDE nx q x r
  ls : ∀ x ∈ ls, x ∈ ks
structure LjE (nx : Nd → List (Str × Nd)) (q : Nd → Prop) (ns : List Nd) (r : Nat) (ks0 done es ks cs : List Nd) : Prop where
  nd : ks.Nodup
  sub : ∀ x ∈ ks, x ∈ ns
  old : ∀ x ∈ ks0, x ∈ ks
  new : ∀ x ∈ ks, x ∈ ks0 ∨ x ∈ cs
  cd : ∀ x ∈ cs, x ∈ ks ∧ IsDE nx q x (r + 1)
  pr : ∀ y ∈ done, ∀ e ∈ ns, (∃ t ∈ nx e, t.2 = y) → e ∈ ks
  pe : ∀ e ∈ es, e ∈ ks
  len : ks.length = ks0.length + cs.length
theorem LvE.begin {nx : Nd → List (Str × Nd)} {q : Nd → Prop} {ns gl : List Nd} (nd : gl.Nodup) (sub : ∀ x ∈ gl, x ∈ ns) (h : ∀ x ∈ ns, x ∈ gl ↔ q x) : LvE nx q ns 0 gl gl := by
  refine ⟨nd, sub, fun x hx => ?_, fun x hx => (h x hx).trans isD_zeroE.symm, fun x hx => hx⟩
  rw [h x hx]
  constructor
  · exact fun z => ⟨0, Nat.le_refl _, isD_zeroE.mpr z⟩
  · rintro ⟨n, hn, d⟩
    obtain rfl : n = 0 := by omega
    exact isD_zeroE.mp d
theorem LvE.enter {nx : Nd → List (Str × Nd)} {q : Nd → Prop} {ns ks ls : List Nd} {r : Nat} (b : LvE nx q ns r ks ls) : LjE nx q ns r ks [] [] ks [] :=
  ⟨b.nd, b.sub, fun _ h => h, fun _ h => .inl h, (fun _ h => by cases h), (fun _ h => by cases h), (fun _ h => by cases h), rfl⟩
theorem LjE.find {nx : Nd → List (Str × Nd)} {q : Nd → Prop} {ns ks0 ls done es ks cs : List Nd} {r : Nat} (b : LjE nx q ns r ks0 done es ks cs) (b0 : LvE nx q ns r ks0 ls) {y e : Nd} (hy : IsDE nx q y r) (he : e ∈ ns) (ht : ∃ t ∈ nx e, t.2 = y) (n : e ∉ ks) :
    IsDE nx q e (r + 1) ∧ LjE nx q ns r ks0 done (es ++ [e]) (ks ++ [e]) (cs ++ [e]) := by
  obtain ⟨t, ht, rfl⟩ := ht
  have d : IsDE nx q e (r + 1) := by
    refine ⟨.succ ht hy.1, fun m hm w => ?_⟩
    obtain ⟨k, hk, d⟩ := least_ofE w
    exact n (b.old _ ((b0.kd e he).mpr ⟨k, by omega, d⟩))
  refine ⟨d, nodup_app b.nd n, ?_, fun x hx => List.mem_append_left _ (b.old x hx), ?_, ?_, fun y hy e' he' ht' => List.mem_append_left _ (b.pr y hy e' he' ht'), ?_, by rw [List.length_append, List.length_append, b.len]; rfl⟩
  · intro x hx
    rcases List.mem_append.mp hx with z | z
    · exact b.sub x z
    · rw [List.mem_singleton.mp z]; exact he
  · intro x hx
    rcases List.mem_append.mp hx with z | z
    · exact (b.new x z).elim .inl fun q => .inr (List.mem_append_left _ q)
    · exact .inr (List.mem_append_right _ z)
  · intro x hx
    rcases List.mem_append.mp hx with z | z
    · exact ⟨List.mem_append_left _ (b.cd x z).1, (b.cd x z).2⟩
    · rw [List.mem_singleton.mp z]; exact ⟨List.mem_append_right _ (List.mem_singleton.mpr rfl), d⟩
  · intro x hx
    rcases List.mem_append.mp hx with z | z
    · exact List.mem_append_left _ (b.pe x z)
    · exact List.mem_append_right _ z
theorem LjE.skip {nx : Nd → List (Str × Nd)} {q : Nd → Prop} {ns ks0 done es ks cs : List Nd} {r : Nat} (b : LjE nx q ns r ks0 done es ks cs) {e : Nd} (h : e ∈ ks) : LjE nx q ns r ks0 done (es ++ [e]) ks cs :=
  { b with pe := fun x hx => (List.mem_append.mp hx).elim (b.pe x) fun z => (List.mem_singleton.mp z) ▸ h }
theorem LjE.turn {nx : Nd → List (Str × Nd)} {q : Nd → Prop} {ns ks0 done ks cs : List Nd} {r : Nat} {y : Nd} (b : LjE nx q ns r ks0 done (befn nx y ns) ks cs) : LjE nx q ns r ks0 (done ++ [y]) [] ks cs :=
  { b with
    pr := fun x hx e he ht => by
      rcases List.mem_append.mp hx with z | z
      · exact b.pr x z e he ht
      · rw [List.mem_singleton.mp z] at ht
        exact b.pe e (mem_befn.mpr ⟨he, ht⟩)
    pe := fun _ h => by cases h }
theorem LjE.leave {nx : Nd → List (Str × Nd)} {q : Nd → Prop} {ns ks0 ls ks cs : List Nd} {r : Nat} (cl : ∀ x ∈ ns, ∀ t ∈ nx x, t.2 ∈ ns) (b0 : LvE nx q ns r ks0 ls) (b : LjE nx q ns r ks0 ls [] ks cs) : LvE nx q ns (r + 1) ks cs := by
  have far : ∀ x ∈ ns, IsDE nx q x (r + 1) → x ∈ ks := fun x hx d => by
    obtain ⟨t, ht, dt⟩ := d.step
    exact b.pr t.2 ((b0.ld _ (cl x hx t ht)).mpr dt) x hx ⟨t, ht, rfl⟩
  refine ⟨b.nd, b.sub, fun x hx => ⟨fun h => ?_, ?_⟩, fun x hx => ⟨fun h => (b.cd x h).2, fun d => ?_⟩, fun x hx => (b.cd x hx).1⟩
  · rcases b.new x h with z | z
    · obtain ⟨n, hn, d⟩ := (b0.kd x hx).mp z
      exact ⟨n, by omega, d⟩
    · exact ⟨r + 1, Nat.le_refl _, (b.cd x z).2⟩
  · rintro ⟨n, hn, d⟩
    by_cases c : n = r + 1
    · exact far x hx (c ▸ d)
    · exact b.old _ ((b0.kd x hx).mpr ⟨n, by omega, d⟩)
  · rcases b.new x (far x hx d) with z | z
    · obtain ⟨n, hn, d'⟩ := (b0.kd x hx).mp z
      have := d.uniq d'
      omega
    · exact z
theorem LvE.done {nx : Nd → List (Str × Nd)} {q : Nd → Prop} {ns ks : List Nd} {r : Nat} (cl : ∀ x ∈ ns, ∀ t ∈ nx x, t.2 ∈ ns) (b : LvE nx q ns r ks []) : ∀ x ∈ ns, x ∈ ks ↔ ∃ n, IsDE nx q x n := by
  have no : ∀ n, r ≤ n → ∀ x ∈ ns, ¬ IsDE nx q x n := by
    intro n
    induction n with
    | zero => intro h x hx d; obtain rfl : r = 0 := by omega
              exact absurd ((b.ld x hx).mpr d) (by simp)
    | succ n ih =>
      intro h x hx d
      by_cases c : r = n + 1
      · exact absurd ((b.ld x hx).mpr (c ▸ d)) (by simp)
      · obtain ⟨t, ht, dt⟩ := d.step
        exact ih (by omega) t.2 (cl x hx t ht) dt
  intro x hx
  rw [b.kd x hx]
  constructor
  · rintro ⟨n, _, d⟩; exact ⟨n, d⟩
  · rintro ⟨n, d⟩
    by_cases c : r ≤ n
    · exact absurd d (no n c x hx)
    · exact ⟨n, by omega, d⟩
end Gs
end L2
namespace L2
namespace X7
open PySem PySem.Spec PyProof.Rows X5
section
variable {X : Cx}
theorem ps_setDcK {i : Nat} {y : PySem.Str} {py : Pos} {kx vx tg iter : Expr} {ifs : List Expr} {sc : Scope} {own : List (PySem.Str × Nat)} {ps spos : Pos} {wi : TI} {g : TG} {tt : TT} {tk tv : TE} (hc : X.calm = true) (hN : X.N.Nodup) (hy : X.N[i]? = some y) (hyl : X.env.scope.names.lookup y = some .local)
    (hsw : swapsWith (.DictComp kx vx [⟨tg, iter, ifs, 0⟩] sc ps) (some (.Name y py)) spos.line X.env = pure true) (hA : PI X tg iter wi) (ok : BlkOk X.N X.env.scope sc own)
    (hg : BlkT X sc fun X => PG X tg g) (ht : BlkT X sc fun X => PTs X ifs tt) (hk : BlkT X sc fun X => PE X kx tk) (he : BlkT X sc fun X => PE X vx tv) (hsA : ∀ x, foldedSetIterable iter X.env x = pure x := by intro _; rfl) :
    PS X (.Assign [.Name y py] (.DictComp kx vx [⟨tg, iter, ifs, 0⟩] sc ps) spos) (tAsg (tDc wi g tt tk tv (own.map (·.2))) (gName i)) := by
  refine ⟨fun pins s σ H D I h => ?_⟩
  rw [exec_Assign_Name_used _ _ _ _ hsw]
  refine wpAny_bind (wpAny_standAt (wpAny_bind ?_))
  show wpAny _ X.A (do let _ ← comprehension (.DictComp kx vx [⟨tg, iter, ifs, 0⟩] sc ps) sc X.env (firstIterPos [⟨tg, iter, ifs, 0⟩] ps) newDict false (eval iter X.env) (some (assign (.Name y py) X.env))) _ _ s
  have h : tDc wi g tt tk tv (own.map (·.2)) σ H (fun x H1 => gName i x σ H1 D.nx) := h
  refine wpAny_bind (thn (dc_core (Qf := fun _ s' => SP X pins D .next s') hc hN I hA ok hg ht hk he hsA h fun L C s' m H' I' q hn f => ?_) fun _ s' hq => wpAny_pure (wpAny_pure hq))
  show wpAny _ _ (assign (.Name y py) X.env (.ref L)) _ _ _
  refine wpAny_assign_Name (store_ok2 (v := V.ref L) I' hN hy (.inl hyl) rfl (fun s2 I2 ⟨a, sb, ha⟩ => ?_) (.inr hyl))
  obtain ⟨f0, f1, f2, f3, f4, f5⟩ := f
  have haC : C ≠ a := by
    rcases ha with z | z
    · rw [z]; exact f1
    · exact fun e => f4 y a z e.symm
  refine ⟨m, hn.sameBut sb haC, fun h3 sb3 => ?_⟩
  exact ⟨_, H', I2.turned (t' := s2.toks) (fun b o hb e => (sb3.2 b hb).trans e) f0 f1 f3 f4 f5, q⟩
end
end X7
end L2
namespace L2
namespace Gs
open PySem PySem.Spec PyProof.Rows D1 D2 X5 X6 X7 Kt
def bKn (ns : List Nd) (ls : List Addr) : List (KK × V) := List.zipWith (fun n l => (key n, V.ref l)) ns ls
theorem bKn_keys : ∀ {ns : List Nd} {ls : List Addr}, ls.length = ns.length → (bKn ns ls).map (·.1) = ns.map key
  | [], [], _ => rfl
  | n :: ns, l :: ls, h => by
    show key n :: (bKn ns ls).map (·.1) = key n :: ns.map key
    rw [bKn_keys (by simpa using h)]
theorem bKn_len {ns : List Nd} {ls : List Addr} (h : ls.length = ns.length) : (bKn ns ls).length = ns.length := by
  unfold bKn; rw [List.length_zipWith, h, Nat.min_self]
theorem bKn_snoc {ns : List Nd} {ls : List Addr} {n : Nd} {l : Addr} (h : ls.length = ns.length) : bKn (ns ++ [n]) (ls ++ [l]) = bKn ns ls ++ [(key n, .ref l)] := by
  unfold bKn; rw [List.zipWith_append h.symm]; rfl
theorem bKn_look : ∀ {ns : List Nd} {ls : List Addr}, ls.length = ns.length → ∀ {n : Nd}, n ∈ ns → ∃ (k : Nat) (l : Addr), ns[k]? = some n ∧ ls[k]? = some l ∧ valV (bKn ns ls) (key n) = some (.ref l)
  | m :: ns, l :: ls, h, n, hn => by
    by_cases c : m = n
    · subst c; exact ⟨0, l, rfl, rfl, valV_pos rfl⟩
    · obtain ⟨k, l', e1, e2, e3⟩ := bKn_look (ns := ns) (ls := ls) (by simpa using h) ((List.mem_cons.mp hn).resolve_left fun q => c q.symm)
      exact ⟨k + 1, l', e1, e2, (valV_neg (fun q => c (key_inj q))).trans e3⟩
/-- lists of nodes at the addresses ls -/
def LsN (ls : List Addr) (H : Hp) (f : Nd → List Nd) (ns : List Nd) : Prop := ∀ (k : Nat) (l : Addr) (n : Nd), ls[k]? = some l → ns[k]? = some n → ∃ vs : List V, H l = some (.lst vs) ∧ NL (cut ls H) vs (f n)
theorem LsN.put {ls : List Addr} {H : Hp} {f : Nd → List Nd} {ns : List Nd} (h : LsN ls H f ns) (nl : ls.Nodup) (nn : ns.Nodup) {k : Nat} {l : Addr} {v : V} {n x : Nd} {vs : List V} (hk : ns[k]? = some n) (hl : ls[k]? = some l) (e : H l = some (.lst vs)) (hz : At (cut ls H) v x) :
    LsN ls (L2.upd H l (.lst (vs ++ [v]))) (fun m => if m = n then f m ++ [x] else f m) ns := fun k' l' n' h1 h2 => by
  rw [cut_upd (List.mem_of_getElem? hl)]
  obtain ⟨zs', e', p'⟩ := h k' l' n' h1 h2
  by_cases c : k' = k
  · subst c
    obtain rfl : l = l' := Option.some.inj (hl.symm.trans h1)
    obtain rfl : n = n' := Option.some.inj (hk.symm.trans h2)
    rw [e] at e'
    have e2 : vs = zs' := HO.lst.inj (Option.some.inj e')
    subst e2
    refine ⟨vs ++ [v], upd_same, ?_⟩
    dsimp only
    rw [if_pos rfl]
    exact paired_snoc p' hz
  · have n1 : l' ≠ l := fun q => c (nd_idx nl h1 (q ▸ hl))
    have n2 : n' ≠ n := fun q => c (nd_idx nn h2 (q ▸ hk))
    refine ⟨zs', by rw [upd_ne n1]; exact e', ?_⟩
    dsimp only
    rw [if_neg n2]
    exact p'
theorem LsN.upd {ls : List Addr} {H : Hp} {f : Nd → List Nd} {ns : List Nd} {R : Addr} {u : HO} (h : LsN ls H f ns) (h1 : ∀ xs, H R ≠ some (.lst xs)) (h2 : ∀ xs, H R ≠ some (.tup xs)) : LsN ls (L2.upd H R u) f ns := fun k l n e1 e2 => by
  obtain ⟨zs, e, p⟩ := h k l n e1 e2
  refine ⟨zs, by rw [upd_ne (fun q => h1 _ (q ▸ e))]; exact e, p.map fun z ks hz => ?_⟩
  obtain ⟨nz, hz⟩ := cut_some hz
  rw [cut_out nz, upd_ne (fun w => h2 _ (w ▸ hz))]; exact hz
theorem LsN.ext {ls : List Addr} {H : Hp} {f g : Nd → List Nd} {ns : List Nd} (h : LsN ls H f ns) (e : ∀ n ∈ ns, f n = g n) : LsN ls H g ns := fun k l n e1 e2 => by
  obtain ⟨zs, q, p⟩ := h k l n e1 e2
  exact ⟨zs, q, e n (List.mem_of_getElem? e2) ▸ p⟩
theorem LsN.bef {ls : List Addr} {H : Hp} {D : Addr} {nx : Nd → List (Str × Nd)} {ns es : List Nd} (h : LsN ls H (fun n => befn nx n es) ns) (hD : H D = some (obj (bKn ns ls))) (ll : ls.length = ns.length) : ∃ kvs, H D = some (obj kvs) ∧ BRow H nx es kvs ns := by
  refine ⟨_, hD, ?_⟩
  clear hD
  have : ∀ (ms : List Nd) (ks : List Addr), ks.length = ms.length → (∀ (k : Nat) (l : Addr) (n : Nd), ks[k]? = some l → ms[k]? = some n → ∃ vs : List V, H l = some (.lst vs) ∧ NL H vs (befn nx n es)) → BRow H nx es (bKn ms ks) ms := by
    intro ms
    induction ms with
    | nil => intro ks e _; obtain rfl := List.length_eq_zero_iff.mp e; exact .nil
    | cons n r ih =>
      intro ks e g
      cases ks with
      | nil => cases e
      | cons l s =>
        refine .cons ?_ (ih s (by simpa using e) fun k l n h1 h2 => g (k + 1) l n h1 h2)
        obtain ⟨vs, h1, h2⟩ := g 0 l n rfl rfl
        exact ⟨rfl, l, vs, rfl, h1, h2⟩
  exact this ns ls ll fun k l n h1 h2 => let ⟨vs, e, p⟩ := h k l n h1 h2; ⟨vs, e, p.same cut_le⟩
def spBefN : Sp := fun vs H Q _ => ∃ (G : Addr) (nx : Nd → List (Str × Nd)) (ns : List Nd), vs = [.ref G] ∧ GrAt H G nx ns ∧ GO nx ns ∧
  ∀ H' D, Same H H' → H D = none → BefAt H' D nx ns → Q (.ref D) H'
section
variable {P : Program} {w : World} {K : PySem.W.Frag} {mg : Str → Option Value} {base : Heap}
theorem ok_befN {f : Addr} {fd : FuncData} (F : Fun K "nodes_before" "nodes_before" sBefore f fd) : FnOk P w K mg base CX0 1 f fd ["graph"] spBefN := by
  refine F.ok scBe (fun vs H Q E h => ?_) (fun cdv A outer s H vs Q E hr h => ?_)
  · obtain ⟨G, nx, ns, rfl, _⟩ := h; rfl
  · obtain ⟨G, nx, ns, rfl, ⟨kvs, hG, hR⟩, ⟨nd, l36, l60, cl, wn⟩, k⟩ := h
    have hu := hu_of hr
    refine ⟨_, pss_cons (ps_lock (X7.ps_setDcK (i := 1) (own := [("node", 2)]) (g := gName 2) (tt := tYes) (tk := tVar 2) (tv := tLst tNil)  rfl scBe.nd rfl rfl (sw_trueD rfl rfl (by rfl) (by decide +kernel)) (pi_keys (pv 0)) (blkOk_by (N := beN) (sc := defScope sBefore) (by decide +kernel))
          (fun _ _ _ _ _ => pg_name (i := 2) scBe.nd rfl (Or.inl rfl)) (fun _ _ _ _ _ => pts_nil) (fun _ _ _ _ _ => pv 2) (fun _ _ _ _ _ => pe_lst pa_nil)))
      (pss_cons (ps_lock (ps_for PassesOwn.never rfl (pi_keys (pv 0)) (pg_name (i := 2) scBe.nd rfl (Or.inl rfl))
        (pss_one (ps_lock (ps_for PassesOwn.never rfl (pi_values (pe_dget hu (pv 0) (pv 2) (fun _ _ => rfl))) (pg_name (i := 3) scBe.nd rfl (Or.inl rfl))
          (pss_one (ps_expr (pe_bm PySem.F.plainAttrs_list PySem.F.slot_list_append PySem.F.type_list_append mt_append (pe_dget hu (pv 1) (pv 3) (fun _ _ => rfl)) (pa_cons (pv 2) pa_nil)))))))))
      (pss_one (ps_ret (pv 1)))), ?_⟩
    refine ⟨G, _, hG, trivial, fun od => ?_⟩
    refine ⟨_, rfl, G, od, rfl, .inl ⟨kvs, upd_same, fun D hD0 => ?_⟩⟩
    have nDG : D ≠ G := fun e => by rw [e, upd_same] at hD0; cases hD0
    have lk : kvs.length = ns.length := keys_len hR.keys
    refine dc_it (walk_keys (d := G) (o := od) (kvs := kvs)) (fun i H' => ∃ ls : List Addr, ls.length = (ns.take i).length ∧ Same (L2.upd H G (.frz od (obj kvs))) H' ∧ H' D = some (obj (bKn (ns.take i) ls)) ∧ (∀ l ∈ ls, H' l = some (.lst []) ∧ H l = none) ∧ ls.Nodup)
      ⟨[], by simp, Same.new hD0, by rw [upd_same, List.take_zero]; rfl, fun l hl => (by cases hl), List.nodup_nil⟩ (fun i H' _ ⟨_, _, z, _⟩ => z _ _ upd_same) ?_ ?_
    · rintro i xv H2 H3 hi ⟨ls, ll, s2, hD2, hls, ndl⟩ ⟨rfl, k0, v0, hkv, rfl⟩
      obtain ⟨x, hn, ek⟩ := keys_at hR.keys hkv
      have hx : k0 = key x := ek; subst hx; have at1 : At H3 (kV (key x)) x := rfl
      refine ⟨rfl, ?_⟩
      dsimp only [tYes]
      rw [if_pos rfl]
      refine ⟨_, rfl, by decide, fun lx hl => ?_⟩
      have nDl : D ≠ lx := ne_of_none hD2 hl
      have nn : x ∉ ns.take i := by have := not_before (gs := []) (ls := ns) (by simpa using nd) hn; simpa using this
      have hln : H lx = none := by have := s2.free hl; exact upd_none' this
      have at2 := at1.same (Same.new (o := .lst []) hl)
      have hD : (L2.upd H3 lx (.lst [])) D = some (obj (bKn (ns.take i) ls)) := by rw [upd_ne nDl]; exact hD2
      have l : (bKn (ns.take i) ls).length < sizeLine := by rw [bKn_len ll, List.length_take, sizeLine_eq]; omega
      have kk : ∃ ls2 : List Addr, ls2.length = (ns.take (i + 1)).length ∧ Same (L2.upd H G (.frz od (obj kvs))) (L2.upd (L2.upd H3 lx (.lst [])) D (obj (putK (bKn (ns.take i) ls) (key x) (.ref lx)))) ∧ (L2.upd (L2.upd H3 lx (.lst [])) D (obj (putK (bKn (ns.take i) ls) (key x) (.ref lx)))) D = some (obj (bKn (ns.take (i + 1)) ls2)) ∧ (∀ l ∈ ls2, (L2.upd (L2.upd H3 lx (.lst [])) D (obj (putK (bKn (ns.take i) ls) (key x) (.ref lx)))) l = some (.lst []) ∧ H l = none) ∧ ls2.Nodup := by
        refine ⟨ls ++ [lx], ?_, ?_, ?_, ?_, ?_⟩
        · rw [take_succ_get hn, List.length_append, List.length_append, ll]; rfl
        · intro b o e
          have n1 : b ≠ lx := ne_of_none e (s2.free hl)
          have n2 : b ≠ D := ne_of_none e hD0
          rw [upd_ne n2, upd_ne n1]; exact s2 _ _ e
        · rw [upd_same, L2.putK_new _ (val_none nn (bKn_keys ll)), take_succ_get hn, bKn_snoc ll]
        · intro l' hl'
          rcases List.mem_append.mp hl' with z | z
          · obtain ⟨h1, h2⟩ := hls l' z
            have n1 : l' ≠ lx := ne_of_none h1 hl
            have n2 : l' ≠ D := fun e => by rw [e, hD2] at h1; cases h1
            exact ⟨by rw [upd_ne n2, upd_ne n1]; exact h1, h2⟩
          · rw [List.mem_singleton.mp z]
            exact ⟨by rw [upd_ne nDl.symm, upd_same], hln⟩
        · exact nodup_app ndl fun m => by have := (hls lx m).1; rw [hl] at this; cases this
      have at2 : _ = V.str x := at2; exact ⟨_, key x, at2, hD, l, kk⟩
    rintro H2 ⟨ls, ll, s2, hD2, hls, ndl⟩
    rw [lk, List.take_length] at ll hD2
    refine ⟨s2 _ _ upd_same, ?_⟩
    have s3 : Same H (L2.upd H2 G (obj kvs)) := Same.unlock hG s2
    have hD3 : (L2.upd H2 G (obj kvs)) D = some (obj (bKn ns ls)) := by rw [upd_ne nDG]; exact hD2
    have hl3 : ∀ l ∈ ls, (L2.upd H2 G (obj kvs)) l = some (.lst []) ∧ H l = none := fun l m => by
      obtain ⟨h1, h2⟩ := hls l m
      have n : l ≠ G := fun e => by rw [e, hG] at h2; cases h2
      exact ⟨by rw [upd_ne n]; exact h1, h2⟩
    have hG3 : (L2.upd H2 G (obj kvs)) G = some (obj kvs) := upd_same
    have hD0 : H D = none := upd_none' hD0
    generalize (L2.upd H2 G (obj kvs)) = H3 at s3 hD3 hl3 hG3
    have nlS : ∀ {b : Addr} {o : HO}, H3 b = some o → (∀ xs, o ≠ .lst xs) → b ∉ ls := fun {b o} e ne m => by
      rw [(hl3 b m).1] at e; exact ne _ (Option.some.inj e).symm
    have nG : G ∉ ls := nlS hG3 fun _ e => by cases e
    have nD : D ∉ ls := nlS hD3 fun _ e => by cases e
    have sc : Same H (cut ls H3) := fun b o e => by
      rw [cut_out fun m => by rw [(hl3 b m).2] at e; cases e]; exact s3 _ _ e
    have hR3 : GRow (cut ls H3) nx kvs ns := hR.same sc
    refine ⟨G, _, hG3, trivial, fun od => ?_⟩
    refine ⟨_, rfl, G, od, rfl, .inl ⟨kvs, upd_same, ?_⟩⟩
    have b0 : ∀ b, b ≠ G → (L2.upd H3 G (.frz od (obj kvs))) b = H3 b := fun b n => upd_ne n
    have L0 : LsN ls H3 (fun n => befn nx n []) ns := fun k l n e1 e2 => ⟨[], (hl3 l (List.mem_of_getElem? e1)).1, .nil⟩
    have ff : ∀ xs, H3 G ≠ some (.lst xs) := fun _ e => by rw [hG3] at e; cases e
    have ft : ∀ xs, H3 G ≠ some (.tup xs) := fun _ e => by rw [hG3] at e; cases e
    refine for_it (walk_keys (d := G) (o := od) (kvs := kvs)) (fun i σ H' => ∃ v2 v3, σ = [some (.ref G), some (.ref D), v2, v3] ∧ Same (cut ls (L2.upd H3 G (.frz od (obj kvs)))) (cut ls H') ∧ LsN ls H' (fun n => befn nx n (ns.take i)) ns)
      ⟨none, none, rfl, Same.refl _, by rw [List.take_zero]; exact L0.upd ff ft⟩
      (fun i σ H' _ ⟨_, _, _, z, _⟩ => (cut_some (z G _ (by rw [cut_out nG, upd_same]))).2) ?_ ?_
    · rintro i xv σ H4 H3' hi ⟨v2, v3, rfl, s4, L4⟩ ⟨rfl, k0, v0, hkv, rfl⟩
      obtain ⟨x, hx, ek⟩ := keys_at hR3.keys hkv
      have hx : k0 = key x := ek; subst hx; have at1 : At H3' (kV (key x)) x := rfl
      have xm : x ∈ ns := List.mem_of_getElem? hx
      obtain ⟨R, vx, kr, eR0, pR0⟩ := hR.look xm
      have nRG : R ≠ G := hR.ne hG xm eR0 pR0
      obtain ⟨nRS, eR3⟩ := cut_some (sc _ _ eR0)
      have pR := paired_imp (fun (kv : Key × V) (t : Str × Nd) (z : kv.1 = Sum.inr t.1 ∧ At H kv.2 t.2) => (⟨z.1, z.2.same sc⟩ : kv.1 = Sum.inr t.1 ∧ At (cut ls H3) kv.2 t.2)) pR0
      have up : ∀ {b : Addr} {o : HO}, b ≠ G → b ∉ ls → H3 b = some o → H3' b = some o := fun {b o} n nb e => (cut_some (s4 b o (by rw [cut_out nb, b0 _ n]; exact e))).2
      have eR5 : H3' R = some (.dK kr) := up nRG nRS eR3
      have eG5 : H3' G = some (.frz od (obj kvs)) := (cut_some (s4 G _ (by rw [cut_out nG, upd_same]))).2
      have eD5 : H3' D = some (obj (bKn ns ls)) := up nDG nD hD3
      have nDR : D ≠ R := fun e => by rw [← e, hD0] at eR0; cases eR0
      refine ⟨R, _, eR5, trivial, fun od2 => ?_⟩
      have e6 : ∀ b, b ≠ R → (L2.upd H3' R (.frz od2 (.dK kr))) b = H3' b := fun b n => upd_ne n
      have at6 : At (L2.upd H3' R (.frz od2 (.dK kr))) (kV (key x)) x := at1.map fun z ks e => by rw [upd_ne fun q => by rw [q, eR5] at e; cases e]; exact e
      have dg : DGet (L2.upd H3' R (.frz od2 (.dK kr))) G (kV (key x)) (some (.ref R)) := by
        rw [← vx]; exact dget (.inr ⟨od, by rw [e6 _ nRG.symm]; exact eG5⟩) at6
      refine ⟨_, rfl, _, rfl, G, _, rfl, dg, R, od2, kr, rfl, upd_same, ?_⟩
      have fr : ∀ xs, H3' R ≠ some (.lst xs) := fun _ e => by rw [eR5] at e; cases e
      have fr2 : ∀ xs, H3' R ≠ some (.tup xs) := fun _ e => by rw [eR5] at e; cases e
      refine for_it (walk_values (d := R) (o := od2) (kvs := kr)) (fun j σ H' => ∃ v3, σ = [some (.ref G), some (.ref D), some (kV (key x)), v3] ∧ Same (cut ls (L2.upd H3' R (.frz od2 (.dK kr)))) (cut ls H') ∧ LsN ls H' (fun n => befn nx n (ns.take i) ++ (((nx x).take j).filter fun t => decide (t.2 = n)).map fun _ => x) ns)
        ⟨v3, rfl, Same.refl _, (L4.upd fr fr2).ext fun n _ => by simp⟩
        (fun j σ H' _ ⟨_, _, z, _⟩ => (cut_some (z R _ (by rw [cut_out nRS, upd_same]))).2) ?_ ?_
      · rintro j v σ H7 H8 hj ⟨v3, rfl, s7, L7⟩ ⟨rfl, kk, hk⟩
        obtain ⟨t, ht, _, hut⟩ := paired_get pR hk
        have hut : At (cut ls H3) v t.2 := hut
        have up7 : ∀ {b : Addr} {o : HO}, b ≠ R → b ∉ ls → H3' b = some o → cut ls H8 b = some o := fun {b o} n nb e => s7 b o (by rw [cut_out nb, e6 _ n]; exact e)
        have hu7 : At H8 v t.2 := hut.map fun z ks e => by
          obtain ⟨nz, e⟩ := cut_some e
          have n1 : z ≠ G := fun q => by rw [q, hG3] at e; cases e
          have n2 : z ≠ R := fun q => by rw [q, eR3] at e; cases e
          exact cut_le _ _ (up7 n2 nz (up n1 nz e))
        have hD7 := cut_le _ _ (up7 nDR nD eD5)
        have tm : t.2 ∈ ns := cl x xm t (List.mem_of_getElem? ht)
        obtain ⟨m, l, e1, e2, e3⟩ := bKn_look ll tm
        obtain ⟨vs, eL, pz⟩ := L7 m l t.2 e2 e1
        have at7 : At (cut ls H8) (kV (key x)) x := at1.map fun z ks e => by
          have nz : z ∉ ls := fun mm => by
            obtain ⟨m2, e4⟩ := List.getElem?_of_mem mm
            obtain ⟨lt2, _⟩ := List.getElem?_eq_some_iff.mp e4
            obtain ⟨zs2, e6', _⟩ := L4 m2 z (ns[m2]'(by omega)) e4 (List.getElem?_eq_getElem (by omega))
            rw [e] at e6'; cases e6'
          exact up7 (fun q => by rw [q, eR5] at e; cases e) nz e
        have lz : vs.length ≤ 216060 := by
          have l1 : vs.length = _ := paired_len pz
          have l2 : (befn nx t.2 (ns.take i)).length ≤ 60 * (ns.take i).length := befn_len fun e he => l60 e (List.mem_of_mem_take he)
          have l3 := List.length_filter_le (fun t' : Str × Nd => decide (t'.2 = t.2)) ((nx x).take j)
          have l4 := l60 x xm
          rw [List.length_append, List.length_map] at l1
          rw [List.length_take] at l2 l3
          omega
        have dg2 : DGet H8 D v (some (.ref l)) := by rw [← e3]; exact dget (.inl hD7) hu7
        refine ⟨_, rfl, _, rfl, D, _, rfl, dg2, .inl ⟨rfl, _, SqL.of eL⟩, _, rfl, l, _, _, rfl, rfl, eL, by rw [sizeLine_eq]; omega, ?_⟩
        refine ⟨_, rfl, by rw [cut_upd (List.mem_of_getElem? e2)]; exact s7, (L7.put ndl nd e1 e2 eL at7).ext fun n _ => ?_⟩
        rw [take_succ_get ht, List.filter_append, List.map_append]
        by_cases c : n = t.2
        · rw [if_pos c, c, List.append_assoc]; simp
        · rw [if_neg c]; simp [Ne.symm c]
      · rintro σ H7 ⟨v3, rfl, s7, L7⟩
        have fR : H7 R = some (.frz od2 (.dK kr)) := (cut_some (s7 R _ (by rw [cut_out nRS, upd_same]))).2
        refine ⟨fR, _, _, rfl, Same.trans s4 (cut_unlock nRS eR5 s7), (L7.upd (fun _ e => by rw [fR] at e; cases e) (fun _ e => by rw [fR] at e; cases e)).ext fun n _ => ?_⟩
        rw [take_succ_get hx, befn_snoc, paired_len pR, List.take_length]
    · rintro σ H4 ⟨v2, v3, rfl, s4, L4⟩
      rw [lk, List.take_length] at L4
      have fG : H4 G = some (.frz od (obj kvs)) := (cut_some (s4 G _ (by rw [cut_out nG, upd_same]))).2
      have un : Same (cut ls H3) (cut ls (L2.upd H4 G (obj kvs))) := cut_unlock nG hG3 s4
      refine ⟨fG, _, rfl, k _ D (Same.trans sc (Same.trans un cut_le)) hD0 ?_⟩
      exact (L4.upd (fun _ e => by rw [fG] at e; cases e) (fun _ e => by rw [fG] at e; cases e)).bef (cut_le _ _ (un _ _ (by rw [cut_out nD]; exact hD3))) ll
end
end Gs
end L2
namespace L2
namespace D1
open PySem PySem.Spec PyProof.Rows D2 X5 X6
theorem PRows.get {H : Hp} : ∀ {kvs : List (Key × V)} {ts : List (Str × Pr)}, PRows H kvs ts → (ts.map (·.1)).Nodup → ∀ {i : Nat} {t : Str × Pr}, ts[i]? = some t → ∃ z, valV kvs (.inr t.1) = some (.ref z) ∧ PAt H z t.2
  | _, _, .nil, _, i, t, e => by cases i <;> cases e
  | kv :: r, t' :: ts, .cons h p, nd, 0, t, e => by
    obtain rfl : t' = t := Option.some.inj e
    obtain ⟨e1, z, e2, e3⟩ := h
    exact ⟨z, by rw [valV_pos e1, e2], e3⟩
  | kv :: r, t' :: ts, .cons h p, nd, i + 1, t, e => by
    have n := List.nodup_cons.mp nd
    have m : t.1 ∈ ts.map (·.1) := List.mem_map.mpr ⟨t, List.mem_of_getElem? (by simpa using e), rfl⟩
    rw [valV_neg (fun q => n.1 (by
      have e0 : t.1 = t'.1 := Sum.inr.inj (q.symm.trans h.1)
      show t'.1 ∈ _
      rw [← e0]; exact m))]
    exact PRows.get p n.2 (i := i) (by simpa using e)
end D1
end L2
namespace L2
namespace D1
open PySem PySem.Spec PyProof.Rows D2 X5 X6
end D1
end L2
namespace L2
namespace D1
open PySem PySem.Spec PyProof.Rows D2 X5 X6
inductive WnE (nx : Pr → List (Str × Pr)) (q : Pr → Prop) : Nat → Pr → Prop
  | zero {x : Pr} : q x → WnE nx q 0 x
  | succ {n : Nat} {x : Pr} {t : Str × Pr} : t ∈ nx x → WnE nx q n t.2 → WnE nx q (n + 1) x
def IsDE (nx : Pr → List (Str × Pr)) (q : Pr → Prop) (x : Pr) (n : Nat) : Prop := WnE nx q n x ∧ ∀ m, m < n → ¬ WnE nx q m x
theorem IsDE.uniq {nx : Pr → List (Str × Pr)} {q : Pr → Prop} {x : Pr} {n m : Nat} (a : IsDE nx q x n) (b : IsDE nx q x m) : n = m := by
  rcases Nat.lt_trichotomy n m with h | h | h
  · exact absurd a.1 (b.2 n h)
  · exact h
  · exact absurd b.1 (a.2 m h)
theorem least_ofE {nx : Pr → List (Str × Pr)} {q : Pr → Prop} {x : Pr} : ∀ {n : Nat}, WnE nx q n x → ∃ m, m ≤ n ∧ IsDE nx q x m := by
  intro n
  induction n using Nat.strongRecOn with
  | ind n ih =>
    intro h
    by_cases c : ∃ m, m < n ∧ WnE nx q m x
    · obtain ⟨m, hm, w⟩ := c
      obtain ⟨k, hk, d⟩ := ih m hm w
      exact ⟨k, by omega, d⟩
    · exact ⟨n, Nat.le_refl _, h, fun m hm w => c ⟨m, hm, w⟩⟩
theorem isD_zeroE {nx : Pr → List (Str × Pr)} {q : Pr → Prop} {x : Pr} : IsDE nx q x 0 ↔ q x := by
  constructor
  · rintro ⟨h, _⟩
    cases h with
    | zero h => exact h
  · intro h; exact ⟨.zero h, fun m h => by omega⟩
theorem IsDE.step {nx : Pr → List (Str × Pr)} {q : Pr → Prop} {x : Pr} {n : Nat} (d : IsDE nx q x (n + 1)) : ∃ t ∈ nx x, IsDE nx q t.2 n := by
  obtain ⟨h, l⟩ := d
  cases h with
  | succ ht w => exact ⟨_, ht, w, fun m hm w' => l (m + 1) (by omega) (.succ ht w')⟩
open Classical in
noncomputable def farPE (nx : Pr → List (Str × Pr)) (q : Pr → Prop) (x : Pr) : Option Nat := if h : ∃ n, IsDE nx q x n then some (choose h) else none
theorem farP_someE {nx : Pr → List (Str × Pr)} {q : Pr → Prop} {x : Pr} {n : Nat} : farPE nx q x = some n ↔ IsDE nx q x n := by
  unfold farPE
  by_cases h : ∃ n, IsDE nx q x n
  · rw [dif_pos h]
    have c := Classical.choose_spec h
    constructor
    · intro e; rw [← Option.some.inj e]; exact c
    · intro d; rw [c.uniq d]
  · rw [dif_neg h]
    exact ⟨fun e => (by cases e), fun d => absurd ⟨n, d⟩ h⟩
noncomputable def farVE (nx : Pr → List (Str × Pr)) (q : Pr → Prop) (x : Pr) : Nat := (farPE nx q x).getD 0
theorem farV_ofE {nx : Pr → List (Str × Pr)} {q : Pr → Prop} {x : Pr} {n : Nat} (d : IsDE nx q x n) : farVE nx q x = n := by rw [farVE, farP_someE.mpr d]; rfl
structure LvE (nx : Pr → List (Str × Pr)) (q : Pr → Prop) (ns : List Pr) (r : Nat) (ks ls : List Pr) : Prop where
  nd : ks.Nodup
  sub : ∀ x ∈ ks, x ∈ ns
  kd : ∀ x ∈ ns, x ∈ ks ↔ ∃ n, n ≤ r ∧ IsDE nx q x n
  ld : ∀ x ∈ ns, x ∈ ls ↔ IsDE nx q x r
  ls : ∀ x ∈ ls, x ∈ ks
structure LjE (nx : Pr → List (Str × Pr)) (q : Pr → Prop) (ns : List Pr) (r : Nat) (ks0 done es ks cs : List Pr) : Prop where
  nd : ks.Nodup
  sub : ∀ x ∈ ks, x ∈ ns
  old : ∀ x ∈ ks0, x ∈ ks
  new : ∀ x ∈ ks, x ∈ ks0 ∨ x ∈ cs
  cd : ∀ x ∈ cs, x ∈ ks ∧ IsDE nx q x (r + 1)
  pr : ∀ y ∈ done, ∀ e ∈ ns, (∃ t ∈ nx e, t.2 = y) → e ∈ ks
  pe : ∀ e ∈ es, e ∈ ks
  len : ks.length = ks0.length + cs.length
theorem LvE.begin {nx : Pr → List (Str × Pr)} {q : Pr → Prop} {ns gl : List Pr} (nd : gl.Nodup) (sub : ∀ x ∈ gl, x ∈ ns) (h : ∀ x ∈ ns, x ∈ gl ↔ q x) : LvE nx q ns 0 gl gl := by
  refine ⟨nd, sub, fun x hx => ?_, fun x hx => (h x hx).trans isD_zeroE.symm, fun x hx => hx⟩
  rw [h x hx]
  constructor
  · exact fun z => ⟨0, Nat.le_refl _, isD_zeroE.mpr z⟩
  · rintro ⟨n, hn, d⟩
    obtain rfl : n = 0 := by omega
    exact isD_zeroE.mp d
theorem LvE.enter {nx : Pr → List (Str × Pr)} {q : Pr → Prop} {ns ks ls : List Pr} {r : Nat} (b : LvE nx q ns r ks ls) : LjE nx q ns r ks [] [] ks [] :=
  ⟨b.nd, b.sub, fun _ h => h, fun _ h => .inl h, (fun _ h => by cases h), (fun _ h => by cases h), (fun _ h => by cases h), rfl⟩
theorem LjE.find {nx : Pr → List (Str × Pr)} {q : Pr → Prop} {ns ks0 ls done es ks cs : List Pr} {r : Nat} (b : LjE nx q ns r ks0 done es ks cs) (b0 : LvE nx q ns r ks0 ls) {y e : Pr} (hy : IsDE nx q y r) (he : e ∈ ns) (ht : ∃ t ∈ nx e, t.2 = y) (n : e ∉ ks) :
    IsDE nx q e (r + 1) ∧ LjE nx q ns r ks0 done (es ++ [e]) (ks ++ [e]) (cs ++ [e]) := by
  obtain ⟨t, ht, rfl⟩ := ht
  have d : IsDE nx q e (r + 1) := by
    refine ⟨.succ ht hy.1, fun m hm w => ?_⟩
    obtain ⟨k, hk, d⟩ := least_ofE w
    exact n (b.old _ ((b0.kd e he).mpr ⟨k, by omega, d⟩))
  refine ⟨d, nodup_app b.nd n, ?_, fun x hx => List.mem_append_left _ (b.old x hx), ?_, ?_, fun y hy e' he' ht' => List.mem_append_left _ (b.pr y hy e' he' ht'), ?_, by rw [List.length_append, List.length_append, b.len]; rfl⟩
  · intro x hx
    rcases List.mem_append.mp hx with z | z
    · exact b.sub x z
    · rw [List.mem_singleton.mp z]; exact he
  · intro x hx
    rcases List.mem_append.mp hx with z | z
    · exact (b.new x z).elim .inl fun q => .inr (List.mem_append_left _ q)
    · exact .inr (List.mem_append_right _ z)
  · intro x hx
    rcases List.mem_append.mp hx with z | z
    · exact ⟨List.mem_append_left _ (b.cd x z).1, (b.cd x z).2⟩
    · rw [List.mem_singleton.mp z]; exact ⟨List.mem_append_right _ (List.mem_singleton.mpr rfl), d⟩
  · intro x hx
    rcases List.mem_append.mp hx with z | z
    · exact List.mem_append_left _ (b.pe x z)
    · exact List.mem_append_right _ z
theorem LjE.skip {nx : Pr → List (Str × Pr)} {q : Pr → Prop} {ns ks0 done es ks cs : List Pr} {r : Nat} (b : LjE nx q ns r ks0 done es ks cs) {e : Pr} (h : e ∈ ks) : LjE nx q ns r ks0 done (es ++ [e]) ks cs :=
  { b with pe := fun x hx => (List.mem_append.mp hx).elim (b.pe x) fun z => (List.mem_singleton.mp z) ▸ h }
theorem LjE.turn {nx : Pr → List (Str × Pr)} {q : Pr → Prop} {ns ks0 done ks cs : List Pr} {r : Nat} {y : Pr} (b : LjE nx q ns r ks0 done (befP nx y ns) ks cs) : LjE nx q ns r ks0 (done ++ [y]) [] ks cs :=
  { b with
    pr := fun x hx e he ht => by
      rcases List.mem_append.mp hx with z | z
      · exact b.pr x z e he ht
      · rw [List.mem_singleton.mp z] at ht
        exact b.pe e (mem_befP.mpr ⟨he, ht⟩)
    pe := fun _ h => by cases h }
theorem LjE.leave {nx : Pr → List (Str × Pr)} {q : Pr → Prop} {ns ks0 ls ks cs : List Pr} {r : Nat} (cl : ∀ x ∈ ns, ∀ t ∈ nx x, t.2 ∈ ns) (b0 : LvE nx q ns r ks0 ls) (b : LjE nx q ns r ks0 ls [] ks cs) : LvE nx q ns (r + 1) ks cs := by
  have far : ∀ x ∈ ns, IsDE nx q x (r + 1) → x ∈ ks := fun x hx d => by
    obtain ⟨t, ht, dt⟩ := d.step
    exact b.pr t.2 ((b0.ld _ (cl x hx t ht)).mpr dt) x hx ⟨t, ht, rfl⟩
  refine ⟨b.nd, b.sub, fun x hx => ⟨fun h => ?_, ?_⟩, fun x hx => ⟨fun h => (b.cd x h).2, fun d => ?_⟩, fun x hx => (b.cd x hx).1⟩
  · rcases b.new x h with z | z
    · obtain ⟨n, hn, d⟩ := (b0.kd x hx).mp z
      exact ⟨n, by omega, d⟩
    · exact ⟨r + 1, Nat.le_refl _, (b.cd x z).2⟩
  · rintro ⟨n, hn, d⟩
    by_cases c : n = r + 1
    · exact far x hx (c ▸ d)
    · exact b.old _ ((b0.kd x hx).mpr ⟨n, by omega, d⟩)
  · rcases b.new x (far x hx d) with z | z
    · obtain ⟨n, hn, d'⟩ := (b0.kd x hx).mp z
      have := d.uniq d'
      omega
    · exact z
theorem LvE.done {nx : Pr → List (Str × Pr)} {q : Pr → Prop} {ns ks : List Pr} {r : Nat} (cl : ∀ x ∈ ns, ∀ t ∈ nx x, t.2 ∈ ns) (b : LvE nx q ns r ks []) : ∀ x ∈ ns, x ∈ ks ↔ ∃ n, IsDE nx q x n := by
  have no : ∀ n, r ≤ n → ∀ x ∈ ns, ¬ IsDE nx q x n := by
    intro n
    induction n with
    | zero => intro h x hx d; obtain rfl : r = 0 := by omega
              exact absurd ((b.ld x hx).mpr d) (by simp)
    | succ n ih =>
      intro h x hx d
      by_cases c : r = n + 1
      · exact absurd ((b.ld x hx).mpr (c ▸ d)) (by simp)
      · obtain ⟨t, ht, dt⟩ := d.step
        exact ih (by omega) t.2 (cl x hx t ht) dt
  intro x hx
  rw [b.kd x hx]
  constructor
  · rintro ⟨n, _, d⟩; exact ⟨n, d⟩
  · rintro ⟨n, d⟩
    by_cases c : r ≤ n
    · exact absurd d (no n c x hx)
    · exact ⟨n, by omega, d⟩
end D1
end L2
namespace L2
namespace D1
open PySem PySem.Spec PyProof.Rows D2 X5 X6
end D1
end L2
namespace L2
namespace Gs
open PySem PySem.Spec PyProof.Rows D1 D2 X5 X6 X7 Kt
noncomputable def iKn (nx : Nd → List (Str × Nd)) (q : Nd → Prop) (ks : List Nd) : List (KK × V) := ks.map fun x => (key x, .int (farVE nx q x))
theorem iKn_keys (nx : Nd → List (Str × Nd)) (q : Nd → Prop) (ks : List Nd) : (iKn nx q ks).map (·.1) = ks.map key := by rw [iKn, List.map_map]; rfl
theorem iKn_val {nx : Nd → List (Str × Nd)} {q : Nd → Prop} {ks : List Nd} {x : Nd} (h : x ∈ ks) : valV (iKn nx q ks) (key x) = some (.int (farVE nx q x)) := by
  induction ks with
  | nil => cases h
  | cons y r ih =>
    by_cases c : y = x
    · subst c; exact valV_pos rfl
    · exact (valV_neg (fun e => c (key_inj e))).trans (ih ((List.mem_cons.mp h).resolve_left fun e => c e.symm))
theorem iKn_put {nx : Nd → List (Str × Nd)} {q : Nd → Prop} {ks : List Nd} {x : Nd} (h : x ∉ ks) : putK (iKn nx q ks) (key x) (.int (farVE nx q x)) = iKn nx q (ks ++ [x]) := by
  rw [L2.putK_new _ (val_none h (iKn_keys nx q ks)), iKn, iKn, List.map_append]; rfl
def spWordsN : Sp := fun vs H Q _ => ∃ (G L : Addr) (nx : Nd → List (Str × Nd)) (ns gl : List Nd) (us : List V) (q : Nd → Prop), vs = [.ref G, .ref L] ∧ GrAt H G nx ns ∧ GO nx ns ∧
  H L = some (.lst us) ∧ NL H us gl ∧ gl.Nodup ∧ (∀ x ∈ gl, x ∈ ns) ∧ (∀ x ∈ ns, x ∈ gl ↔ q x) ∧
  ∀ H' D ks, Same H H' → H D = none → H' D = some (obj (iKn nx q ks)) → ks.length ≤ 3600 → (∀ x ∈ ns, x ∈ ks ↔ ∃ n, IsDE nx q x n) → ks.Nodup → (∀ x ∈ ks, x ∈ ns) → Q (.ref D) H'
section
variable {P : Program} {w : World} {K : PySem.W.Frag} {mg : Str → Option Value} {base : Heap} {C : Addr}
abbrev CBefN (P : Program) (w : World) (K : PySem.W.Frag) (mg : Str → Option Value) (base : Heap) := Cal P w K mg base "nodes_before" 1 ["graph"] spBefN
abbrev wtNN : List Str := ["graph", "goals", "before", "least", "layer", "coming", "node", "earlier", "goal"]
theorem scWtN : FnScope wtNN ["graph", "goals"] (defScope sWordsTo) := ⟨rfl, rfl, rfl, by decide +kernel, rfl, by decide +kernel, by decide +kernel⟩
theorem ok_wordsN {f : Addr} {fd : FuncData} (F : Fun K "words_to" "words_to" sWordsTo f fd) (T : Free3 mg) (CB : CBefN P w K mg base) : FnOk P w K mg base CX0 2 f fd ["graph", "goals"] spWordsN := by
  refine F.ok scWtN (fun vs H Q E h => ?_) (fun cdv A outer s H vs Q E hr h => ?_)
  · obtain ⟨G, L, nx, ns, gl, ys, q, rfl, _⟩ := h; rfl
  · obtain ⟨G, L, nx, ns, gl, ys, q, rfl, hG, go, hL, hy, gnd, gsub, ghd, k⟩ := h
    have hu := hu_of hr
    have l36 := go.len
    have cl := go.cl
    refine ⟨_, pss_cons (ps_set (i := 2) scWtN.nd rfl (Or.inl rfl) (pe_cal CB (hr.mono (by decide)) rfl (pa_cons (pv 0) pa_nil)))
      (pss_cons (X7.ps_setDcK (i := 3) (own := [("goal", 8)]) (g := gName 8) (tt := tYes) (tk := tVar 8) (tv := tC (.int 0))  rfl scWtN.nd rfl rfl (sw_trueD rfl rfl (by rfl) (by decide +kernel)) (pi_list (pv 1)) (blkOk_by (N := wtNN) (sc := defScope sWordsTo) (by decide +kernel))
          (fun _ _ _ _ _ => pg_name (i := 8) scWtN.nd rfl (Or.inl rfl)) (fun _ _ _ _ _ => pts_nil) (fun _ _ _ _ _ => pv 8) (fun _ _ _ _ _ => pe_int))
      (pss_cons (ps_set (i := 4) scWtN.nd rfl (Or.inl rfl) (pe_callTy call_list_of (by rfl) T.list (by decide +kernel) (pa_cons (pv 1) pa_nil)))
      (pss_cons (ps_while PassesOwn.never (pt_truth (pv 4) (fun _ => rfl))
        (pss_cons (ps_set (i := 5) scWtN.nd rfl (Or.inl rfl) (pe_lst pa_nil))
        (pss_cons (ps_for PassesOwn.never rfl (pi_list (pv 4)) (pg_name (i := 6) scWtN.nd rfl (Or.inl rfl))
          (pss_one (ps_for PassesOwn.never rfl (pi_list (pe_dget hu (pv 2) (pv 6) (fun _ _ => rfl))) (pg_name (i := 7) scWtN.nd rfl (Or.inl rfl))
            (pss_one (ps_if (pt_cmp (pc_dnotin hu (pv 7) (pv 3)) rfl)
              (pss_cons (ps_dput hu (pv 3) (pv 7) (pe_op op_add (pe_dget hu (pv 3) (pv 6) (fun _ _ => rfl)) pe_int) rfl)
              (pss_one (ps_expr (pe_bm PySem.F.plainAttrs_list PySem.F.slot_list_append PySem.F.type_list_append mt_append (pv 5) (pa_cons (pv 7) pa_nil))))) pss_nil)))))
        (pss_one (ps_set (i := 4) scWtN.nd rfl (Or.inl rfl) (pv 5))))))
      (pss_one (ps_ret (pv 3)))))), ?_⟩
    refine ⟨_, rfl, G, nx, ns, rfl, hG, go, fun H1 D s1 nD hBf => ?_⟩
    have b00 : LvE nx q ns 0 gl gl := LvE.begin gnd gsub ghd
    have hL1 := s1 _ _ hL
    have hy1 := hy.same s1
    have lyl : ys.length = gl.length := paired_len hy
    have lg : gl.length ≤ 3600 := Nat.le_trans (pigeon gl ns gnd gsub) l36
    refine ⟨_, rfl, L, rfl, ⟨_, SqL.of hL1⟩, fun M hM => ?_⟩
    refine dc_it (walk_list (a := L) (xs := ys)) (fun i H' => H' = L2.upd H1 M (obj (iKn nx q (gl.take i)))) (by rw [List.take_zero]; rfl) (fun i H' _ e => by rw [e]; exact SqL.of (by rw [upd_ne (ne_of_none hL1 hM)]; exact hL1)) ?_ ?_
    · rintro i xv H2 H3 hi rfl ⟨rfl, hxv⟩
      obtain ⟨x, hx0, hax⟩ := paired_get hy1 hxv
      refine ⟨rfl, ?_⟩
      dsimp only [tYes]
      rw [if_pos rfl]
      have nn : x ∉ gl.take i := by have := not_before (gs := []) (ls := gl) (by simpa using b00.nd) hx0; simpa using this
      have e0 : V.int 0 = .int (farVE nx q x) := by rw [farV_ofE ((b00.ld x (b00.sub _ (List.mem_of_getElem? hx0))).mp (List.mem_of_getElem? hx0))]; rfl
      refine ⟨_, rfl, ?_⟩
      have at2 : At (L2.upd H1 M (obj (iKn nx q (gl.take i)))) xv x := hax.map fun z ks e => by rw [upd_ne (ne_of_none e hM)]; exact e
      have hD : (L2.upd H1 M (obj (iKn nx q (gl.take i)))) M = some (obj (iKn nx q (gl.take i))) := upd_same
      have l : (iKn nx q (gl.take i)).length < sizeLine := by rw [iKn, List.length_map, List.length_take, sizeLine_eq]; omega
      have kk : L2.upd (L2.upd H1 M (obj (iKn nx q (gl.take i)))) M (obj (putK (iKn nx q (gl.take i)) (key x) (.int 0))) = L2.upd H1 M (obj (iKn nx q (gl.take (i + 1)))) := by
        rw [updd2, e0, iKn_put nn, take_succ_get hx0]
      have at2 : _ = V.str x := at2; exact ⟨_, key x, at2, hD, l, kk⟩
    rintro H2 rfl
    rw [lyl, List.take_length]
    have hL2 : (L2.upd H1 M (obj (iKn nx q gl))) L = some (.lst ys) := by rw [upd_ne (ne_of_none hL1 hM)]; exact hL1
    refine ⟨_, rfl, L, _, rfl, .inl (SqL.of hL2), fun L0 hL0 => ?_⟩
    have nML : M ≠ L0 := fun e => by rw [← e, upd_same] at hL0; cases hL0
    have hL0' : H1 L0 = none := upd_none' hL0
    have sS : Same H1 (cut [M, L0] (L2.upd (L2.upd H1 M (obj (iKn nx q gl))) L0 (.lst ys))) := fun b o e => by
      have n1 : b ≠ M := ne_of_none e hM
      have n2 : b ≠ L0 := ne_of_none e hL0'
      rw [cut_out (by simp [n1, n2]), upd_ne n2, upd_ne n1]; exact e
    have hM0 : H M = none := s1.free hM
    refine ⟨fun m σ H' => ∃ (r : Nat) (ks ls0 : List Nd) (zs : List V) (Lr : Addr) (v5 v6 v7 : Option V), σ = [some (.ref G), some (.ref L), some (.ref D), some (.ref M), some (.ref Lr), v5, v6, v7, none] ∧ Same H1 (cut [M, Lr] H') ∧ H1 Lr = none ∧ H' M = some (obj (iKn nx q ks)) ∧ H' Lr = some (.lst zs) ∧
        NL (cut [M, Lr] H') zs ls0 ∧ LvE nx q ns r ks ls0 ∧ m = 2 * (3601 - ks.length) + (if ls0 = [] then 0 else 1),
      ⟨_, 0, gl, gl, ys, L0, none, none, none, rfl, sS, hL0', by rw [upd_ne nML, upd_same], upd_same, hy1.same sS, b00, rfl⟩, ?_⟩
    rintro m σ H3 ⟨r, ks0, ls0, zs, Lr, v5, v6, v7, rfl, s3, nL, hM3, hL3, hz3, b0, rfl⟩
    refine ⟨_, rfl, _, .inl ⟨_, SqL.of hL3, rfl⟩, ?_⟩
    have lz : zs.length = ls0.length := paired_len hz3
    have lk0 : ks0.length ≤ 3600 := Nat.le_trans (pigeon ks0 ns b0.nd b0.sub) l36
    by_cases hls : ls0 = []
    · subst hls
      have : zs = [] := List.length_eq_zero_iff.mp lz
      subst this
      exact (if_neg (by decide)).mpr ⟨_, rfl, k H3 M ks0 (Same.trans s1 (Same.trans s3 cut_le)) hM0 hM3 lk0 (b0.done cl) b0.nd b0.sub⟩
    have npos : zs.isEmpty = false := by
      cases zs with
      | nil => exact absurd (List.length_eq_zero_iff.mp lz.symm) hls
      | cons _ _ => rfl
    refine (if_pos (by rw [npos]; rfl)).mpr ⟨_, fun σ' H' h => h, ?_⟩
    refine ⟨by decide, fun C0 hC0 => ?_⟩
    have nMC : M ≠ C0 := ne_of_none hM3 hC0
    have nLC : Lr ≠ C0 := ne_of_none hL3 hC0
    have nMLr : M ≠ Lr := fun e => by rw [e, hL3] at hM3; cases hM3
    have nC : H1 C0 = none := (Same.trans s3 cut_le).free hC0
    have sC : Same (cut [M, Lr] H3) (cut [M, Lr, C0] (L2.upd H3 C0 (.lst []))) := fun b o e => by
      obtain ⟨nb, e⟩ := cut_some e
      have n : b ≠ C0 := ne_of_none e hC0
      rw [cut_out (fun m => by
        rcases List.mem_cons.mp m with q | m
        · exact nb (by simp [q])
        rcases List.mem_cons.mp m with q | m
        · exact nb (by simp [q])
        · exact n (List.mem_singleton.mp m)), upd_ne n]
      exact e
    have hL4 : (L2.upd H3 C0 (.lst [])) Lr = some (.lst zs) := by rw [upd_ne nLC]; exact hL3
    refine ⟨_, rfl, Lr, rfl, ⟨_, SqL.of hL4⟩, ?_⟩
    refine for_list (K := K) (a := Lr) (xs := zs) (fun i σ H' => ∃ (ks cs : List Nd) (us : List V) (v6 v7 : Option V), σ = [some (.ref G), some (.ref L), some (.ref D), some (.ref M), some (.ref Lr), some (.ref C0), v6, v7, none] ∧ Same H1 (cut [M, Lr, C0] H') ∧ H' M = some (obj (iKn nx q ks)) ∧ H' Lr = some (.lst zs) ∧ H' C0 = some (.lst us) ∧
        NL (cut [M, Lr, C0] H') zs ls0 ∧ NL (cut [M, Lr, C0] H') us cs ∧ LjE nx q ns r ks0 (ls0.take i) [] ks cs)
      ⟨ks0, [], [], v6, v7, rfl, Same.trans s3 sC, by rw [upd_ne nMC]; exact hM3, hL4, upd_same, hz3.same sC, .nil, by rw [List.take_zero]; exact b0.enter⟩
      (fun i σ H' _ ⟨_, _, _, _, _, _, _, _, z, _⟩ => SqL.of z) ?_ ?_
    · rintro i v σ H5 hv ⟨ks, cs, us, v6, v7, rfl, s5, hM5, hL5, hC5, hz5, hu5, b5⟩
      obtain ⟨x, hx, hax⟩ := paired_get hz5 hv
      have xl : x ∈ ls0 := List.mem_of_getElem? hx
      have xm : x ∈ ns := b0.sub x (b0.ls x xl)
      have xd : IsDE nx q x r := (b0.ld x xm).mp xl
      obtain ⟨bkv, l, bs, hD5, e3, hl5, pb⟩ := (hBf.same s5).look2 xm
      have dgl : DGet H5 D v (some (.ref l)) := by rw [← e3]; exact dget (.inl (cut_le _ _ hD5)) (hax.same cut_le)
      refine ⟨_, rfl, _, rfl, D, _, rfl, dgl, l, rfl, ⟨_, SqL.of (cut_le _ _ hl5)⟩, ?_⟩
      have lb : bs.length = (befn nx x ns).length := paired_len pb
      refine for_list (K := K) (a := l) (xs := bs) (fun j σ H' => ∃ (ks cs : List Nd) (us : List V) (v7 : Option V), σ = [some (.ref G), some (.ref L), some (.ref D), some (.ref M), some (.ref Lr), some (.ref C0), some v, v7, none] ∧ Same (cut [M, Lr, C0] H5) (cut [M, Lr, C0] H') ∧ H' M = some (obj (iKn nx q ks)) ∧ H' Lr = some (.lst zs) ∧ H' C0 = some (.lst us) ∧
          NL (cut [M, Lr, C0] H') zs ls0 ∧ NL (cut [M, Lr, C0] H') us cs ∧ LjE nx q ns r ks0 (ls0.take i) ((befn nx x ns).take j) ks cs)
        ⟨ks, cs, us, v7, rfl, Same.refl _, hM5, hL5, hC5, hz5, hu5, by rw [List.take_zero]; exact b5⟩
        (fun j σ H' _ ⟨_, _, _, _, _, z, _⟩ => SqL.of (cut_le _ _ (z _ _ hl5))) ?_ ?_
      · rintro j v2 σ H7 hv7 ⟨ks, cs, us, v7, rfl, s7, hM7, hL7, hC7, hz7, hu7, b7⟩
        obtain ⟨e, he, hae⟩ := paired_get pb hv7
        obtain ⟨en, et⟩ := mem_befn.mp (List.mem_of_getElem? he)
        have hzuc : At (cut [M, Lr, C0] H7) v2 e := At.same hae s7
        have hzu7 : At H7 v2 e := hzuc.same cut_le
        have hax7 : At H7 v x := (hax.same s7).same cut_le
        have lk : ks.length ≤ 3600 := Nat.le_trans (pigeon ks ns b7.nd b7.sub) l36
        refine ⟨_, rfl, _, rfl, M, _, rfl, dget (.inl hM7) hzu7, _, rfl, ?_⟩
        rw [val_dec (iKn_keys nx q ks)]
        by_cases c : e ∈ ks
        · rw [decide_eq_true c]
          exact iteF ⟨ks, cs, us, _, rfl, s7, hM7, hL7, hC7, hz7, hu7, by rw [take_succ_get he]; exact b7.skip c⟩
        · rw [decide_eq_false c]
          obtain ⟨ed, b9⟩ := b7.find b0 xd en et c
          have gx : DGet H7 M v (some (.int (farVE nx q x))) := by
            rw [← iKn_val (b7.old x (b0.ls x xl))]
            exact dget (.inl hM7) hax7
          have ev : V.int ((farVE nx q x : Int) + 1) = .int (farVE nx q e) := by rw [farV_ofE xd, farV_ofE ed]; rfl
          have dp : DPut H7 M v2 (.int ((farVE nx q x : Int) + 1)) (L2.upd H7 M (obj (iKn nx q (ks ++ [e])))) := by
            rw [ev, ← iKn_put c]
            exact dput hM7 hzu7 (by rw [iKn, List.length_map, sizeLine_eq]; omega)
          refine iteT ⟨_, rfl, _, rfl, M, _, rfl, gx, _, _, rfl, rfl, _, rfl, _, rfl, M, _, rfl, dp, ?_⟩
          have hC9 : (L2.upd H7 M (obj (iKn nx q (ks ++ [e])))) C0 = some (.lst us) := by rw [upd_ne nMC.symm]; exact hC7
          have lus : us.length = cs.length := paired_len hu7
          have lcs := b7.len
          refine ⟨_, rfl, .inl ⟨rfl, _, SqL.of hC9⟩, _, rfl, C0, _, _, rfl, rfl, hC9, by rw [sizeLine_eq]; omega, ?_⟩
          have cc : cut [M, Lr, C0] (L2.upd (L2.upd H7 M (obj (iKn nx q (ks ++ [e])))) C0 (.lst (us ++ [v2]))) = cut [M, Lr, C0] H7 := by rw [cut_upd (by simp), cut_upd (by simp)]
          exact ⟨ks ++ [e], cs ++ [e], us ++ [v2], _, rfl, by rw [cc]; exact s7, by rw [upd_ne nMC, upd_same], by rw [upd_ne nLC, upd_ne nMLr.symm]; exact hL7, upd_same, by rw [cc]; exact hz7, by rw [cc]; exact paired_snoc hu7 hzuc, by rw [take_succ_get he]; exact b9⟩
      · rintro σ H7 ⟨ks, cs, us, v7, rfl, s7, hM7, hL7, hC7, hz7, hu7, b7⟩
        rw [lb, List.take_length] at b7
        exact ⟨ks, cs, us, _, _, rfl, Same.trans s5 s7, hM7, hL7, hC7, hz7, hu7, by rw [take_succ_get hx]; exact b7.turn⟩
    · rintro σ H5 ⟨ks, cs, us, v6, v7, rfl, s5, hM5, hL5, hC5, hz5, hu5, b5⟩
      rw [lz, List.take_length] at b5
      have mo : Same (cut [M, Lr, C0] H5) (cut [M, C0] H5) := cut_mono fun b hb => by
        rcases List.mem_cons.mp hb with e | hb
        · simp [e]
        · simp [List.mem_singleton.mp hb]
      refine ⟨_, rfl, _, ?_, r + 1, ks, cs, us, C0, _, _, _, rfl, Same.trans s5 mo, nC, hM5, hC5, hu5.same mo, b5.leave cl b0, rfl⟩
      have l1 : ks.length ≤ 3600 := Nat.le_trans (pigeon ks ns b5.nd b5.sub) l36
      have l2 := b5.len
      rw [if_neg hls]
      by_cases h : cs = []
      · rw [if_pos h]; rw [h, List.length_nil] at l2; omega
      · rw [if_neg h]
        have : 0 < cs.length := List.length_pos_iff.mpr h
        omega
end
end Gs
end L2
namespace L2
namespace Gs
open PySem PySem.Spec PyProof.Rows D1 D2 X5 X6 X7 Kt
abbrev sLet : Stmt := top 31
theorem cut_notr {S : List Addr} {H : Hp} {z : Addr} {ks : List V} (h : H z = some (.tup ks)) (s : ∀ q ∈ S, ∀ ys, H q ≠ some (.tup ys)) : cut S H z = some (.tup ks) := by
  rw [cut_out fun m => s z m _ h]; exact h
def spLet : Sp := fun vs H Q _ => ∃ (Bf R W L : Addr) (nx : Nd → List (Str × Nd)) (ns ws lay : List Nd) (rs : List (Nd × Option Nd)) (kvs : List (KK × V)) (us : List V), vs = [.ref Bf, .ref R, .ref W, .ref L] ∧ GO nx ns ∧ BefAt (cut [R] H) Bf nx ns ∧ H R = some (obj kvs) ∧ Ents (cut [R] H) kvs rs ∧
  (cut [R] H) W = some (obj (FTn ws)) ∧ (cut [R] H) L = some (.lst us) ∧ NL (cut [R] H) us lay ∧ (rs.map (·.1)).Nodup ∧ (∀ r ∈ rs, r.1 ∈ ns) ∧ (∀ w ∈ ws, w ∈ ns) ∧ (∀ y ∈ lay, y ∈ ns) ∧
  ∀ H' kvs' new, Same (cut [R] H) (cut [R] H') → H' R = some (obj kvs') → Ents (cut [R] H') kvs' (rs ++ new) → LetI (sc nx) rs new ws lay [] → Q .non H'
section
variable {P : Program} {w : World} {K : PySem.W.Frag} {mg : Str → Option Value} {base : Heap} {C : Addr}
abbrev leN : List Str := ["before", "rests", "waiting", "layer", "coming", "node", "earlier"]
theorem scLe : FnScope leN ["before", "rests", "waiting", "layer"] (defScope sLet) := ⟨rfl, rfl, rfl, by decide +kernel, rfl, by decide +kernel, by decide +kernel⟩
theorem ok_let {f : Addr} {fd : FuncData} (F : Fun K "let_rest" "let_rest" sLet f fd) : FnOk P w K mg base CX0 1 f fd ["before", "rests", "waiting", "layer"] spLet := by
  refine F.ok scLe (fun vs H Q E h => ?_) (fun cdv A outer s H vs Q E hr h => ?_)
  · obtain ⟨Bf, R, W, L, nx, ns, ws, lay, rs, kvs, us, rfl, _⟩ := h; rfl
  · obtain ⟨Bf, R, W, L, nx, ns, ws, lay, rs, kvs, us, rfl, go, hBf, hR, hE, hW, hL, hU, rnd, rin, win, lin, k⟩ := h
    have hu := hu_of hr
    refine ⟨_, pss_one (ps_while PassesOwn.never (pt_truth (pv 3) (fun _ => rfl))
      (pss_cons (ps_set (i := 4) scLe.nd rfl (Or.inl rfl) (pe_lst pa_nil))
      (pss_cons (ps_for PassesOwn.never rfl (pi_list (pv 3)) (pg_name (i := 5) scLe.nd rfl (Or.inl rfl))
        (pss_one (ps_for PassesOwn.never rfl (pi_list (pe_dget hu (pv 0) (pv 5) (fun _ _ => rfl))) (pg_name (i := 6) scLe.nd rfl (Or.inl rfl))
          (pss_one (ps_if (PW.pt (pw_and (pt_cmp (pc_din hu (pv 6) (pv 2)) rfl) (pw_and1 (pt_cmp (pc_dnotin hu (pv 6) (pv 1)) rfl))))
            (pss_cons (ps_dput hu (pv 1) (pv 6) (pv 5) rfl)
            (pss_one (ps_expr (pe_bm PySem.F.plainAttrs_list PySem.F.slot_list_append PySem.F.type_list_append mt_append (pv 4) (pa_cons (pv 6) pa_nil))))) pss_nil)))))
      (pss_one (ps_set (i := 3) scLe.nd rfl (Or.inl rfl) (pv 4)))))), ?_⟩
    have lenb : ∀ {new : List (Nd × Option Nd)} {cur : List Nd}, LetR (sc nx) rs new ws lay → (rs ++ new).length ≤ 3600 := fun {new cur} h => by
      rw [← List.length_map (·.1)]
      refine Nat.le_trans (pigeon _ ns h.nd fun x hx => ?_) go.len
      rw [List.map_append] at hx
      rcases List.mem_append.mp hx with m | m
      · obtain ⟨r, hr, rfl⟩ := List.mem_map.mp m; exact rin r hr
      · obtain ⟨r, hr, rfl⟩ := List.mem_map.mp m; exact win _ (h.nw r hr)
    refine ⟨fun m σ H' => ∃ (new : List (Nd × Option Nd)) (cur : List Nd) (kv : List (KK × V)) (zs : List V) (Lr : Addr) (v4 v5 v6 : Option V), σ = [some (.ref Bf), some (.ref R), some (.ref W), some (.ref Lr), v4, v5, v6] ∧ Same (cut [R] H) (cut [R] H') ∧ H' R = some (obj kv) ∧ Ents (cut [R] H') kv (rs ++ new) ∧ (cut [R] H') Lr = some (.lst zs) ∧
        NL (cut [R] H') zs cur ∧ LetI (sc nx) rs new ws lay cur ∧ m = 2 * (3601 - (rs ++ new).length) + (if cur = [] then 0 else 1),
      ⟨_, [], lay, kvs, us, L, none, none, none, rfl, Same.refl _, hR, by simpa using hE, hL, hU, LetI.begin rnd, rfl⟩, ?_⟩
    rintro m σ H3 ⟨new0, cur, kv0, zs, Lr, v4, v5, v6, rfl, s3, hR3, hE3, hL3, hz3, b0, rfl⟩
    refine ⟨_, rfl, _, .inl ⟨_, SqL.of (cut_le _ _ hL3), rfl⟩, ?_⟩
    have lz : zs.length = cur.length := paired_len hz3
    have l0 := lenb (cur := cur) b0.toLetR
    have cin : ∀ y ∈ cur, y ∈ ns := fun y hy => by
      rcases b0.cu y hy with q | q
      · exact lin y q
      · obtain ⟨e, he, rfl⟩ := List.mem_map.mp q
        exact win _ (b0.nw e he)
    by_cases hls : cur = []
    · subst hls
      have : zs = [] := List.length_eq_zero_iff.mp lz
      subst this
      exact (if_neg (by decide)).mpr (k H3 kv0 new0 s3 hR3 hE3 b0)
    have npos : zs.isEmpty = false := by
      cases zs with
      | nil => exact absurd (List.length_eq_zero_iff.mp lz.symm) hls
      | cons _ _ => rfl
    refine (if_pos (by rw [npos]; rfl)).mpr ⟨_, fun σ' H' h => h, ?_⟩
    refine ⟨by decide, fun C0 hC0 => ?_⟩
    have nRC : R ≠ C0 := ne_of_none hR3 hC0
    obtain ⟨nLR, hL30⟩ := cut_some hL3
    have nLC : Lr ≠ C0 := ne_of_none hL30 hC0
    have nLRr : Lr ≠ R := fun e => nLR (by simp [e])
    have sC : Same (cut [R] H3) (cut [R, C0] (L2.upd H3 C0 (.lst []))) := fun b o e => by
      obtain ⟨nb, e⟩ := cut_some e
      have n : b ≠ C0 := ne_of_none e hC0
      rw [cut_out (fun m => by
        rcases List.mem_cons.mp m with q | m
        · exact nb (by simp [q])
        · exact n (List.mem_singleton.mp m)), upd_ne n]
      exact e
    have hL4 : (L2.upd H3 C0 (.lst [])) Lr = some (.lst zs) := by rw [upd_ne nLC]; exact hL30
    refine ⟨_, rfl, Lr, rfl, ⟨_, SqL.of hL4⟩, ?_⟩
    refine for_list (K := K) (a := Lr) (xs := zs) (fun i σ H' => ∃ (new : List (Nd × Option Nd)) (cs : List Nd) (kv : List (KK × V)) (us : List V) (v5 v6 : Option V), σ = [some (.ref Bf), some (.ref R), some (.ref W), some (.ref Lr), some (.ref C0), v5, v6] ∧ Same (cut [R] H3) (cut [R, C0] H') ∧ H' R = some (obj kv) ∧ Ents (cut [R, C0] H') kv (rs ++ new) ∧ H' C0 = some (.lst us) ∧
        NL (cut [R, C0] H') us cs ∧ LetJ (sc nx) rs new ws lay cur (cur.take i) [] cs ∧ new.length = new0.length + cs.length)
      ⟨new0, [], kv0, [], v5, v6, rfl, sC, by rw [upd_ne nRC]; exact hR3, hE3.same sC, upd_same, .nil, by rw [List.take_zero]; exact b0.enter, rfl⟩
      (fun i σ H' _ ⟨_, _, _, _, _, _, _, z, _⟩ => SqL.of (cut_le _ _ (z _ _ hL3))) ?_ ?_
    · rintro i v σ H5 hv ⟨new, cs, kv, us, v5, v6, rfl, s5, hR5, hE5, hC5, hu5, b5, q5⟩
      obtain ⟨x, hx, hax0⟩ := paired_get hz3 hv
      have hax : At (cut [R, C0] H5) v x := At.same hax0 s5
      have xl : x ∈ cur := List.mem_of_getElem? hx
      have xm := cin x xl
      obtain ⟨bkv, l, bs, hD5, e3, hl5, pb⟩ := ((hBf.same s3).same s5).look2 xm
      have hW5 := s5 _ _ (s3 _ _ hW)
      have dgl : DGet H5 Bf v (some (.ref l)) := by rw [← e3]; exact dget (.inl (cut_le _ _ hD5)) (hax.same cut_le)
      refine ⟨_, rfl, _, rfl, Bf, _, rfl, dgl, l, rfl, ⟨_, SqL.of (cut_le _ _ hl5)⟩, ?_⟩
      have lb : bs.length = (befn nx x ns).length := paired_len pb
      refine for_list (K := K) (a := l) (xs := bs) (fun j σ H' => ∃ (new : List (Nd × Option Nd)) (cs : List Nd) (kv : List (KK × V)) (us : List V) (v6 : Option V), σ = [some (.ref Bf), some (.ref R), some (.ref W), some (.ref Lr), some (.ref C0), some v, v6] ∧ Same (cut [R, C0] H5) (cut [R, C0] H') ∧ H' R = some (obj kv) ∧ Ents (cut [R, C0] H') kv (rs ++ new) ∧ H' C0 = some (.lst us) ∧
          NL (cut [R, C0] H') us cs ∧ LetJ (sc nx) rs new ws lay cur (cur.take i) ((befn nx x ns).take j) cs ∧ new.length = new0.length + cs.length)
        ⟨new, cs, kv, us, v6, rfl, Same.refl _, hR5, hE5, hC5, hu5, by rw [List.take_zero]; exact b5, q5⟩
        (fun j σ H' _ ⟨_, _, _, _, _, _, z, _⟩ => SqL.of (cut_le _ _ (z _ _ hl5))) ?_ ?_
      · rintro j v2 σ H7 hv7 ⟨new, cs, kv, us, v6, rfl, s7, hR7, hE7, hC7, hu7, b7, q7⟩
        obtain ⟨e, he, hae⟩ := paired_get pb hv7
        obtain ⟨en, et⟩ := mem_befs.mp (List.mem_of_getElem? he)
        have hzuc : At (cut [R, C0] H7) v2 e := At.same hae s7
        have hzu7 : At H7 v2 e := hzuc.same cut_le
        have haxc : At (cut [R, C0] H7) v x := hax.same s7
        have lk := lenb (cur := cur) b7.toLetR
        have hW7 := cut_le _ _ (s7 _ _ hW5)
        refine ⟨_, rfl, _, rfl, W, _, rfl, dget (.inl hW7) hzu7, _, rfl, ?_⟩
        rw [val_dec (FTn_keys ws)]
        by_cases c1 : e ∈ ws
        · rw [decide_eq_true c1]
          refine iteT ⟨_, rfl, _, rfl, R, _, rfl, dget (.inl hR7) hzu7, _, rfl, ?_⟩
          rw [val_dec hE7.keys]
          by_cases c : e ∈ (rs ++ new).map (·.1)
          · rw [decide_eq_true c]
            exact iteF ⟨new, cs, kv, us, _, rfl, s7, hR7, hE7, hC7, hu7, by rw [take_succ_get he]; exact b7.skip fun _ => c, q7⟩
          · rw [decide_eq_false c]
            refine iteT ⟨_, rfl, _, rfl, _, rfl, R, _, rfl, dput hR7 hzu7 (by rw [hE7.len, sizeLine_eq]; omega), ?_⟩
            have hC9 : (L2.upd H7 R (obj (putK kv (key e) v))) C0 = some (.lst us) := by rw [upd_ne nRC.symm]; exact hC7
            have lus : us.length = cs.length := paired_len hu7
            have lcs : cs.length ≤ 3600 := by
              have := b7.cd
              rw [List.length_append] at lk
              omega
            refine ⟨_, rfl, .inl ⟨rfl, _, SqL.of hC9⟩, _, rfl, C0, _, _, rfl, rfl, hC9, by rw [sizeLine_eq]; omega, ?_⟩
            have cc : cut [R, C0] (L2.upd (L2.upd H7 R (obj (putK kv (key e) v))) C0 (.lst (us ++ [v2]))) = cut [R, C0] H7 := by rw [cut_upd (by simp), cut_upd (by simp)]
            refine ⟨new ++ [(e, some x)], cs ++ [e], _, us ++ [v2], _, rfl, by rw [cc]; exact s7, by rw [upd_ne nRC, upd_same], ?_, upd_same, by rw [cc]; exact paired_snoc hu7 hzuc, by rw [take_succ_get he]; exact b7.find c1 c et xl, by rw [List.length_append, List.length_append, q7]; simp; omega⟩
            rw [cc, ← List.append_assoc]
            exact hE7.put c haxc
        · rw [decide_eq_false c1]
          exact iteF ⟨new, cs, kv, us, _, rfl, s7, hR7, hE7, hC7, hu7, by rw [take_succ_get he]; exact b7.skip fun h => absurd h c1, q7⟩
      · rintro σ H7 ⟨new, cs, kv, us, v6, rfl, s7, hR7, hE7, hC7, hu7, b7, q7⟩
        rw [lb, List.take_length] at b7
        exact ⟨new, cs, kv, us, _, _, rfl, Same.trans s5 s7, hR7, hE7, hC7, hu7, by rw [take_succ_get hx]; exact b7.turn fun w hw hy => mem_befs.mpr ⟨win w hw, hy⟩, q7⟩
    · rintro σ H5 ⟨new, cs, kv, us, v5, v6, rfl, s5, hR5, hE5, hC5, hu5, b5, q5⟩
      rw [lz, List.take_length] at b5
      have mo : Same (cut [R, C0] H5) (cut [R] H5) := cut_mono fun b hb => by simp [List.mem_singleton.mp hb]
      refine ⟨_, rfl, _, ?_, new, cs, kv, us, C0, _, _, _, rfl, Same.trans s3 (Same.trans s5 mo), hR5, hE5.same mo, by rw [cut_out (by simpa using nRC.symm)]; exact hC5, hu5.same mo, b5.leave, rfl⟩
      have l1 := lenb (cur := cur) b5.toLetR
      rw [if_neg hls]
      rw [List.length_append] at l1 ⊢
      rw [List.length_append]
      by_cases h : cs = []
      · rw [if_pos h]; rw [h, List.length_nil] at q5; omega
      · rw [if_neg h]
        have : 0 < cs.length := List.length_pos_iff.mpr h
        omega
end
end Gs
end L2
namespace L2
namespace D1
open PySem PySem.Spec PyProof.Rows D2 X5 X6
section
variable {P : Program} {w : World} {K : PySem.W.Frag} {mg : Str → Option Value} {base : Heap} {C : Addr}
abbrev CFirst (P : Program) (w : World) (K : PySem.W.Frag) (mg : Str → Option Value) (base : Heap) (C : Addr) := Cal P w K mg base "first_pair" 2 ["one", "other"] (spFirstPair C)
end
end D1
end L2
namespace L2
namespace D1
open PySem PySem.Spec PyProof.Rows D2 X5 X6
end D1
end L2
namespace L2
namespace D1
open PySem PySem.Spec PyProof.Rows D2 X5 X6
end D1
end L2
namespace L2
namespace D1
open PySem PySem.Spec PyProof.Rows D2 X5 X6
end D1
end L2
namespace L2
namespace Gs
open PySem PySem.Spec PyProof.Rows D1 D2 X5 X6 X7 Kt
theorem Same.put {H H' : Hp} {F : Addr} {o : HO} (s : Same H H') (n : H F = none) : Same H (L2.upd H' F o) := fun b u e => by rw [upd_ne (ne_of_none e n)]; exact s _ _ e
def dN (x : Nd) : PyData := .str x
theorem dN_dp {K : PySem.W.Frag} {H : Hp} {v : V} {x : Nd} (h : At H v x) : Dp K H v (dN x) := by
  have h : v = .str x := h; subst h; exact .str _
theorem dN_eq (x y : Nd) : PyData.eqv (dN x) (dN y) = decide (x = y) := by
  unfold dN
  simp [PyData.eqv]; rfl
theorem dN_non (x : Nd) : PyData.eqv .none (dN x) = false := by
  unfold dN
  simp [PyData.eqv]
theorem kat_nl {H : Hp} : ∀ {kvs : List (KK × V)} {ns : List Nd}, kvs.map (·.1) = ns.map key → NL H (kvs.map fun kv => kV kv.1) ns
  | [], [], _ => .nil
  | [], _ :: _, h => nomatch h
  | _ :: _, [], h => nomatch h
  | kv :: kvs, n :: ns, h => .cons (by have h1 : kv.1 = key n := (List.cons.inj h).1; show kV kv.1 = V.str n; rw [h1]; rfl) (kat_nl (List.cons.inj h).2)
/-- list(d) -/
def rListN : List V → Hp → VK → Prop := fun xs H Q => ∃ a kvs ns, xs = [.ref a] ∧ Rd H a (obj kvs) ∧ kvs.map (·.1) = ns.map key ∧ ∀ H' p vs, Same H H' → H p = none → H' p = some (.lst vs) → NL H vs ns → Q (.ref p) H'
theorem call_listN {X : Cx} (hc : X.calm = true) : CallR X (.type "list") rListN := fun pins s σ H xs us Q I r ⟨a, kvs, ns, e, hd, hk, q⟩ =>
  call_listD hc pins s σ H xs us Q I r ⟨a, kvs, e, hd, fun p hp => q _ p _ (Same.new hp) hp upd_same (kat_nl hk)⟩
/-- what needs all behind it -/
def needs (a : Ask) : Bool := decide (a = .all) || decide (a = .nearer)
abbrev sDropped : Stmt := top 33
def DropAt (nx : Nd → List (Str × Nd)) (ask : Nd → Ask) (ns rk gone ds : List Nd) : Prop := ds.Nodup ∧ ∀ x, x ∈ ds ↔ x ∈ ns ∧ x ∈ rk ∧ needs (ask x) = true ∧ ∃ y ∈ gone, y ∈ sc nx x
def spDrop : Sp := fun vs H Q _ => ∃ (Bf A R Gn : Addr) (nx : Nd → List (Str × Nd)) (ask : Nd → Ask) (ns rk gone : List Nd) (kvs : List (KK × V)) (us : List V), vs = [.ref Bf, .ref A, .ref R, .ref Gn] ∧ GO nx ns ∧ BefAt H Bf nx ns ∧ AskAt H A ask ns ∧ H R = some (obj kvs) ∧ kvs.map (·.1) = rk.map key ∧
  H Gn = some (.lst us) ∧ NL H us gone ∧ (∀ y ∈ gone, y ∈ ns) ∧
  ∀ H' D ds, Same H H' → H D = none → H' D = some (obj (FTn ds)) → DropAt nx ask ns rk gone ds → Q (.ref D) H'
section
variable {P : Program} {w : World} {K : PySem.W.Frag} {mg : Str → Option Value} {base : Heap} {C : Addr}
abbrev drN : List Str := ["before", "asks", "rests", "gone", "dropped", "node", "earlier"]
theorem scDr : FnScope drN ["before", "asks", "rests", "gone"] (defScope sDropped) := ⟨rfl, rfl, rfl, by decide +kernel, rfl, by decide +kernel, by decide +kernel⟩
theorem ok_drop {f : Addr} {fd : FuncData} (F : Fun K "dropped_by" "dropped_by" sDropped f fd) : FnOk P w K mg base CX0 1 f fd ["before", "asks", "rests", "gone"] spDrop := by
  refine F.ok scDr (fun vs H Q E h => ?_) (fun cdv A outer s H vs Q E hr h => ?_)
  · obtain ⟨Bf, A, R, Gn, nx, ask, ns, rk, gone, kvs, us, rfl, _⟩ := h; rfl
  · obtain ⟨Bf, A, R, Gn, nx, ask, ns, rk, gone, kvs, us, rfl, go, hBf, hA, hR, hk, hG, hU, gin, k⟩ := h
    have hu := hu_of hr
    refine ⟨_, pss_cons (ps_set (i := 4) scDr.nd rfl (Or.inl rfl) pe_dnewK)
      (pss_cons (ps_for PassesOwn.never rfl (pi_list (pv 3)) (pg_name (i := 5) scDr.nd rfl (Or.inl rfl))
        (pss_one (ps_for PassesOwn.never rfl (pi_list (pe_dget hu (pv 0) (pv 5) (fun _ _ => rfl))) (pg_name (i := 6) scDr.nd rfl (Or.inl rfl))
          (pss_one (ps_if (PW.pt (pw_and (pt_cmp (pc_din hu (pv 6) (pv 2)) rfl) (pw_and1 (PW.pt (pw_or (pt_cmpR op_eq (pe_dget hu (pv 1) (pv 6) (fun _ _ => rfl)) pe_str rfl) (pw_or1 (pt_cmpR op_eq (pe_dget hu (pv 1) (pv 6) (fun _ _ => rfl)) pe_str rfl)))))))
            (pss_one (ps_dput hu (pv 4) (pv 6) pe_bl rfl)) pss_nil)))))
      (pss_one (ps_ret (pv 4)))), ?_⟩
    intro D hD
    have s0 : Same H (L2.upd H D (obj (FTn []))) := Same.new hD
    have lens : ∀ {ds : List Nd}, ds.Nodup → (∀ x ∈ ds, x ∈ ns) → (FTn ds).length < sizeLine := fun {ds} h1 h2 => by
      have := Nat.le_trans (pigeon ds ns h1 h2) go.len
      rw [FTn_len, sizeLine_eq]; omega
    refine ⟨_, rfl, Gn, rfl, ⟨_, SqL.of (s0 _ _ hG)⟩, ?_⟩
    refine for_list (K := K) (a := Gn) (xs := us) (fun i σ H' => ∃ (ds : List Nd) (v5 v6 : Option V), σ = [some (.ref Bf), some (.ref A), some (.ref R), some (.ref Gn), some (.ref D), v5, v6] ∧ Same H H' ∧ H' D = some (obj (FTn ds)) ∧ DropAt nx ask ns rk (gone.take i) ds)
      ⟨[], none, none, rfl, s0, upd_same, List.nodup_nil, fun x => ⟨fun h => (by cases h), fun ⟨_, _, _, y, hy, _⟩ => (by rw [List.take_zero] at hy; cases hy)⟩⟩
      (fun i σ H' _ ⟨_, _, _, _, z, _⟩ => SqL.of (z _ _ hG)) ?_ ?_
    · rintro i v σ H5 hv ⟨ds0, v5, v6, rfl, s5, hD5, d5⟩
      obtain ⟨x, hx, hax0⟩ := paired_get hU hv
      have xm := gin x (List.mem_of_getElem? hx)
      obtain ⟨bkv, l, bs, hB, e3, hl, pb⟩ := hBf.look2 xm
      have dgl : DGet H5 Bf v (some (.ref l)) := by rw [← e3]; exact dget (.inl (s5 _ _ hB)) (hax0.same s5)
      refine ⟨_, rfl, _, rfl, Bf, _, rfl, dgl, l, rfl, ⟨_, SqL.of (s5 _ _ hl)⟩, ?_⟩
      have lb : bs.length = (befn nx x ns).length := paired_len pb
      refine for_list (K := K) (a := l) (xs := bs) (fun j σ H' => ∃ (ds : List Nd) (v6 : Option V), σ = [some (.ref Bf), some (.ref A), some (.ref R), some (.ref Gn), some (.ref D), some v, v6] ∧ Same H H' ∧ H' D = some (obj (FTn ds)) ∧ ds.Nodup ∧ ∀ z, z ∈ ds ↔ z ∈ ns ∧ z ∈ rk ∧ needs (ask z) = true ∧ ((∃ y ∈ gone.take i, y ∈ sc nx z) ∨ z ∈ (befn nx x ns).take j))
        ⟨ds0, v6, rfl, s5, hD5, d5.1, fun z => by rw [d5.2 z, List.take_zero]; simp⟩
        (fun j σ H' _ ⟨_, _, _, z, _⟩ => SqL.of (z _ _ hl)) ?_ ?_
      · rintro j v2 σ H7 hv7 ⟨ds, v6, rfl, s7, hD7, nd7, d7⟩
        obtain ⟨e, he, hae⟩ := paired_get pb hv7
        obtain ⟨en, et⟩ := mem_befs.mp (List.mem_of_getElem? he)
        have ha7 := hae.same s7
        have no : ¬ (e ∈ rk ∧ needs (ask e) = true) → ∀ z, z ∈ ds ↔ z ∈ ns ∧ z ∈ rk ∧ needs (ask z) = true ∧ ((∃ y ∈ gone.take i, y ∈ sc nx z) ∨ z ∈ (befn nx x ns).take (j + 1)) := fun n z => by
          rw [d7 z, take_succ_get he]
          constructor
          · rintro ⟨a, b, c, d⟩; exact ⟨a, b, c, d.imp id fun m => List.mem_append_left _ m⟩
          · rintro ⟨a, b, c, d⟩
            refine ⟨a, b, c, d.imp id fun m => ?_⟩
            rcases List.mem_append.mp m with m | m
            · exact m
            · rw [List.mem_singleton.mp m] at b c; exact absurd ⟨b, c⟩ n
        have dg : DGet H7 A v2 (some (.str (askS (ask e)))) := AskAt.look (.inl (s7 _ _ hA)) en ha7
        refine ⟨_, rfl, _, rfl, R, _, rfl, dget (.inl (s7 _ _ hR)) ha7, _, rfl, ?_⟩
        rw [val_dec hk]
        by_cases c1 : e ∈ rk
        · rw [decide_eq_true c1]
          refine iteT ⟨_, rfl, _, rfl, A, _, rfl, dg, rfl, _, rfl, ?_⟩
          have yes : needs (ask e) = true → ∃ (ds : List Nd) (v6 : Option V), ([some (.ref Bf), some (.ref A), some (.ref R), some (.ref Gn), some (.ref D), some v, some v2] : St) = [some (.ref Bf), some (.ref A), some (.ref R), some (.ref Gn), some (.ref D), some v, v6] ∧ Same H (L2.upd H7 D (obj (putK (FTn ds) (key e) (.bl true)))) := fun _ => ⟨ds, _, rfl, Same.put s7 hD⟩
          have put : needs (ask e) = true → ∃ ds2 : List Nd, putK (FTn ds) (key e) (.bl true) = FTn ds2 ∧ ds2.Nodup ∧ ∀ z, z ∈ ds2 ↔ z ∈ ns ∧ z ∈ rk ∧ needs (ask z) = true ∧ ((∃ y ∈ gone.take i, y ∈ sc nx z) ∨ z ∈ (befn nx x ns).take (j + 1)) := fun q => by
            have mm : ∀ z, (z ∈ ds ∨ z = e) ↔ z ∈ ns ∧ z ∈ rk ∧ needs (ask z) = true ∧ ((∃ y ∈ gone.take i, y ∈ sc nx z) ∨ z ∈ (befn nx x ns).take (j + 1)) := fun z => by
              rw [d7 z, take_succ_get he]
              constructor
              · rintro (⟨a, b, c, d⟩ | rfl)
                · exact ⟨a, b, c, d.imp id fun m => List.mem_append_left _ m⟩
                · exact ⟨en, c1, q, .inr (List.mem_append_right _ (List.mem_singleton.mpr rfl))⟩
              · rintro ⟨a, b, c, d⟩
                rcases d with d | d
                · exact .inl ⟨a, b, c, .inl d⟩
                rcases List.mem_append.mp d with m | m
                · exact .inl ⟨a, b, c, .inr m⟩
                · exact .inr (List.mem_singleton.mp m)
            by_cases c : e ∈ ds
            · exact ⟨ds, FTn_again c, nd7, fun z => by rw [← mm z]; exact ⟨.inl, fun h => h.elim id fun h => h ▸ c⟩⟩
            · exact ⟨ds ++ [e], FTn_put c, nodup_app nd7 c, fun z => by rw [← mm z, List.mem_append, List.mem_singleton]⟩
          have lds := lens nd7 fun z hz => ((d7 z).mp hz).1
          by_cases c2 : ask e = .all
          · have q2 := (askS_eq (a := ask e) (b := .all)).trans (decide_eq_true c2)
            obtain ⟨ds2, e2, n2, m2⟩ := put (by unfold needs; rw [decide_eq_true c2]; rfl)
            refine (if_pos q2).mpr (iteT ⟨_, rfl, _, rfl, D, _, rfl, dput hD7 ha7 lds, ?_⟩)
            exact ⟨ds2, _, rfl, Same.put s7 hD, by rw [upd_same, e2], n2, m2⟩
          · have q2 : ¬ _ = true := fun h => Bool.noConfusion (((askS_eq (a := ask e) (b := .all)).trans (decide_eq_false c2)).symm.trans h)
            refine (if_neg q2).mpr ⟨_, rfl, _, rfl, A, _, rfl, dg, rfl, _, rfl, ?_⟩
            by_cases c3 : ask e = .nearer
            · have q3 := (askS_eq (a := ask e) (b := .nearer)).trans (decide_eq_true c3)
              obtain ⟨ds2, e2, n2, m2⟩ := put (by unfold needs; rw [decide_eq_true c3, Bool.or_true])
              refine (if_pos q3).mpr ⟨_, rfl, _, rfl, D, _, rfl, dput hD7 ha7 lds, ?_⟩
              exact ⟨ds2, _, rfl, Same.put s7 hD, by rw [upd_same, e2], n2, m2⟩
            · have q3 : ¬ _ = true := fun h => Bool.noConfusion (((askS_eq (a := ask e) (b := .nearer)).trans (decide_eq_false c3)).symm.trans h)
              exact (if_neg q3).mpr ⟨ds, _, rfl, s7, hD7, nd7, no fun h => by have := h.2; unfold needs at this; rw [decide_eq_false c2, decide_eq_false c3] at this; cases this⟩
        · rw [decide_eq_false c1]
          exact iteF (iteF ⟨ds, _, rfl, s7, hD7, nd7, no fun h => c1 h.1⟩)
      · rintro σ H7 ⟨ds, v6, rfl, s7, hD7, nd7, d7⟩
        rw [lb, List.take_length] at d7
        refine ⟨ds, _, _, rfl, s7, hD7, nd7, fun z => ?_⟩
        rw [d7 z, take_succ_get hx]
        constructor
        · rintro ⟨a, b, c, d⟩
          refine ⟨a, b, c, ?_⟩
          rcases d with ⟨y, hy, h⟩ | d
          · exact ⟨y, List.mem_append_left _ hy, h⟩
          · exact ⟨x, List.mem_append_right _ (List.mem_singleton.mpr rfl), (mem_befs.mp d).2⟩
        · rintro ⟨a, b, c, y, hy, h⟩
          refine ⟨a, b, c, ?_⟩
          rcases List.mem_append.mp hy with m | m
          · exact .inl ⟨y, m, h⟩
          · exact .inr (mem_befs.mpr ⟨a, List.mem_singleton.mp m ▸ h⟩)
    · rintro σ H5 ⟨ds, v5, v6, rfl, s5, hD5, d5⟩
      rw [hU.len, List.take_length] at d5
      exact ⟨_, rfl, k H5 D ds s5 hD hD5 d5⟩
end
end Gs
end L2
namespace L2
namespace Kt
section
variable {α : Type} [DecidableEq α]
def ptrs (R : List (α × Option α)) (e : α) : List α := (R.filter fun r => decide (r.1 = e)).filterMap (·.2)
theorem mem_ptrs {R : List (α × Option α)} {e y : α} : y ∈ ptrs R e ↔ (e, some y) ∈ R := by
  unfold ptrs
  rw [List.mem_filterMap]
  constructor
  · rintro ⟨⟨a, b⟩, h, h2⟩
    obtain ⟨h1, h3⟩ := List.mem_filter.mp h
    have h2 : b = some y := h2
    have h3 : a = e := of_decide_eq_true h3
    rw [← h2, ← h3]; exact h1
  · intro h
    exact ⟨(e, some y), List.mem_filter.mpr ⟨h, decide_eq_true rfl⟩, rfl⟩
/-- some, and what rests on them, one upon the other -/
inductive OnOf (R : List (α × Option α)) (ds : List α) : α → Prop
  | base {x : α} : x ∈ ds → OnOf R ds x
  | step {x y : α} : (x, some y) ∈ R → OnOf R ds y → OnOf R ds x
theorem map_none (ds : List α) (new : List (α × Option α)) : ((ds.map fun x => (x, (none : Option α))) ++ new).map (·.1) = ds ++ new.map (·.1) := by
  rw [List.map_append, List.map_map]
  congr 1
  exact List.map_id _
theorem on_of {R new : List (α × Option α)} {ds : List α} (I : LetI (ptrs R) (ds.map fun x => (x, none)) new (R.map (·.1)) ds []) (x : α) : x ∈ ds ++ new.map (·.1) ↔ OnOf R ds x := by
  constructor
  · intro h
    rcases List.mem_append.mp h with h | h
    · exact .base h
    · obtain ⟨e, he, rfl⟩ := List.mem_map.mp h
      refine I.ind (OnOf R ds) (fun y hy => .base hy) (fun a b m q => ?_) e he
      obtain ⟨y, ey, hy⟩ := I.tg _ m
      have ey : b = y := Option.some.inj ey
      subst ey
      exact .step (mem_ptrs.mp hy) q
  · intro h
    induction h with
    | base h => exact List.mem_append_left _ h
    | @step x y m _ ih =>
      have := I.done y (List.mem_append.mp ih) x (List.mem_map_of_mem m) (mem_ptrs.mpr m)
      rwa [map_none] at this
end
end Kt
end L2
namespace L2
namespace Gs
open PySem PySem.Spec PyProof.Rows D1 D2 X5 X6 X7 Kt
abbrev sResting : Stmt := top 34
/-- what d.get(x) gives of those that rest -/
theorem Ents.get {K : PySem.W.Frag} {H : Hp} {kvs : List (KK × V)} {rs : List (Nd × Option Nd)} (h : Ents H kvs rs) (nd : (rs.map (·.1)).Nodup) (sh : ∀ x y, (x, some y) ∈ rs → SeqAt.shaped (dN y) = true) (e : Nd) : ∃ d, Dp K H ((valV kvs (key e)).getD .non) d ∧ SeqAt.shaped d = true ∧ ∀ x, PyData.eqv d (dN x) = decide (x ∈ ptrs rs e) := by
  by_cases c : e ∈ rs.map (·.1)
  · obtain ⟨⟨x, o⟩, hr, ex⟩ := List.mem_map.mp c
    have ex : x = e := ex
    subst ex
    obtain ⟨v, ev, hv⟩ := h.look nd hr
    rw [ev]
    have uq : ∀ {o2}, (x, o2) ∈ rs → o2 = o := fun {o2} m => by
      obtain ⟨v2, ev2, _⟩ := h.look nd m
      obtain ⟨i, hi⟩ := List.getElem?_of_mem m
      obtain ⟨j, hj⟩ := List.getElem?_of_mem hr
      have a : (rs.map (·.1))[i]? = some x := by rw [List.getElem?_map, hi]; rfl
      have b : (rs.map (·.1))[j]? = some x := by rw [List.getElem?_map, hj]; rfl
      have : i = j := nd_idx nd a b
      subst this
      rw [hi] at hj
      exact (Prod.mk.inj (Option.some.inj hj)).2
    cases o with
    | none =>
      have hv : v = .non := hv
      subst hv
      refine ⟨.none, .non, rfl, fun y => ?_⟩
      rw [dN_non, eq_comm]
      exact decide_eq_false fun m => by cases uq (mem_ptrs.mp m)
    | some y =>
      refine ⟨dN y, dN_dp hv, sh _ _ hr, fun z => ?_⟩
      rw [dN_eq]
      by_cases q : y = z
      · subst q; rw [decide_eq_true rfl, decide_eq_true (mem_ptrs.mpr hr)]
      · rw [decide_eq_false q, decide_eq_false fun m => q (Option.some.inj (uq (mem_ptrs.mp m))).symm]
  · rw [val_none c h.keys]
    refine ⟨.none, .non, rfl, fun y => ?_⟩
    rw [dN_non, eq_comm]
    exact decide_eq_false fun m => c (List.mem_map_of_mem (mem_ptrs.mp m))
def spRestOn : Sp := fun vs H Q _ => ∃ (Bf R D : Addr) (nx : Nd → List (Str × Nd)) (ns ds : List Nd) (rs : List (Nd × Option Nd)) (kvs : List (KK × V)), vs = [.ref Bf, .ref R, .ref D] ∧ GO nx ns ∧ BefAt H Bf nx ns ∧ (∀ x ∈ ns, SeqAt.shaped (dN x) = true) ∧ H R = some (obj kvs) ∧ Ents H kvs rs ∧ (rs.map (·.1)).Nodup ∧
  (∀ r ∈ rs, r.1 ∈ ns) ∧ (∀ x y, (x, some y) ∈ rs → y ∈ sc nx x) ∧ H D = some (obj (FTn ds)) ∧ ds.Nodup ∧ (∀ x ∈ ds, x ∈ ns) ∧
  ∀ H' F fs, Same H H' → H F = none → H' F = some (obj (FTn fs)) → fs.Nodup → (∀ x ∈ fs, x ∈ ns) → (∀ x, x ∈ fs ↔ OnOf rs ds x) → Q (.ref F) H'
section
variable {P : Program} {w : World} {K : PySem.W.Frag} {mg : Str → Option Value} {base : Heap} {C : Addr}
abbrev reN : List Str := ["before", "rests", "dropped", "found", "layer", "coming", "node", "earlier"]
theorem scRe : FnScope reN ["before", "rests", "dropped"] (defScope sResting) := ⟨rfl, rfl, rfl, by decide +kernel, rfl, by decide +kernel, by decide +kernel⟩
theorem ok_restOn {f : Addr} {fd : FuncData} (F : Fun K "resting_on" "resting_on" sResting f fd) (T : Free3 mg) : FnOk P w K mg base CX0 1 f fd ["before", "rests", "dropped"] spRestOn := by
  refine F.ok scRe (fun vs H Q E h => ?_) (fun cdv A outer s H vs Q E hr h => ?_)
  · obtain ⟨Bf, R, D, nx, ns, ds, rs, kvs, rfl, _⟩ := h; rfl
  · obtain ⟨Bf, R, D, nx, ns, ds, rs, kvs, rfl, go, hBf, sh, hR, hE, rnd, rin, rpt, hD, dnd, din, k⟩ := h
    have hu := hu_of hr
    refine ⟨_, pss_cons (ps_lock (X7.ps_setDcK (i := 3) (own := [("node", 6)]) (g := gName 6) (tt := tYes) (tk := tVar 6) (tv := tC (.bl true))  rfl scRe.nd rfl rfl (sw_trueD rfl rfl (by rfl) (by decide +kernel)) (pi_keys (pv 2)) (blkOk_by (N := reN) (sc := defScope sResting) (by decide +kernel))
          (fun _ _ _ _ _ => pg_name (i := 6) scRe.nd rfl (Or.inl rfl)) (fun _ _ _ _ _ => pts_nil) (fun _ _ _ _ _ => pv 6) (fun _ _ _ _ _ => pe_bl)))
      (pss_cons (ps_set (i := 4) scRe.nd rfl (Or.inl rfl) (pe_callTy (call_listN rfl) (by rfl) T.list (by decide +kernel) (pa_cons (pv 2) pa_nil)))
      (pss_cons (ps_while PassesOwn.never (pt_truth (pv 4) (fun _ => rfl))
        (pss_cons (ps_set (i := 5) scRe.nd rfl (Or.inl rfl) (pe_lst pa_nil))
        (pss_cons (ps_for PassesOwn.never rfl (pi_list (pv 4)) (pg_name (i := 6) scRe.nd rfl (Or.inl rfl))
          (pss_one (ps_for PassesOwn.never rfl (pi_list (pe_dget hu (pv 0) (pv 6) (fun _ _ => rfl))) (pg_name (i := 7) scRe.nd rfl (Or.inl rfl))
            (pss_one (ps_if (PW.pt (pw_and (pt_cmp (pc_dnotin hu (pv 7) (pv 3)) rfl) (pw_and1 (pt_cmpR (op_eqD hr.units) (pe_dget1 hu (pv 1) (pv 7) (by constructor <;> rfl)) (pv 6) rfl))))
              (pss_cons (ps_dput hu (pv 3) (pv 7) pe_bl rfl)
              (pss_one (ps_expr (pe_bm PySem.F.plainAttrs_list PySem.F.slot_list_append PySem.F.type_list_append mt_append (pv 5) (pa_cons (pv 7) pa_nil))))) pss_nil)))))
        (pss_one (ps_set (i := 4) scRe.nd rfl (Or.inl rfl) (pv 5))))))
      (pss_one (ps_ret (pv 3))))), ?_⟩
    refine dkeys rfl (show 6 < 8 by decide) hD (FTn_keys ds) dnd (Nat.le_trans (pigeon ds ns dnd din) go.len) (p := fun _ => true) (fun od => tst_yes) (fun H1 Fd s1 nF hF => ?_)
    rw [List.filter_eq_self.mpr (by simp)] at hF
    have hF : H1 Fd = some (obj (FTn ds)) := hF
    refine ⟨_, rfl, D, _, ds, rfl, .inl (s1 _ _ hD), FTn_keys ds, fun H2 L0 vs s2 nL hL hn0 => ?_⟩
    have sB : Same H (cut [Fd] H1) := fun b o e => by
      rw [cut_out (fun m => by rw [List.mem_singleton.mp m, nF] at e; cases e)]; exact s1 _ _ e
    have hn : NL (cut [Fd] H1) vs ds := hn0.map fun z ks e => by
      rw [cut_out (fun m => by rw [List.mem_singleton.mp m, hF] at e; cases e)]; exact e
    have nB : (cut [Fd] H1) Fd = none := by
      cases c : (cut [Fd] H1) Fd with
      | none => rfl
      | some o => exact absurd (List.mem_singleton.mpr rfl) (cut_some c).1
    have sB2 : Same (cut [Fd] H1) H2 := Same.trans cut_le s2
    have hF2 := s2 _ _ hF
    have kB : ∀ H' fs, Same (cut [Fd] H1) H' → H' Fd = some (obj (FTn fs)) → fs.Nodup → (∀ x ∈ fs, x ∈ ns) → (∀ x, x ∈ fs ↔ OnOf rs ds x) → Q (.ref Fd) H' := fun H' fs s => k H' Fd fs (Same.trans sB s) nF
    have hBf := hBf.same sB
    have hR := sB _ _ hR
    have hE := hE.same sB
    clear hn0 k hD hF s1 s2 sB nL
    generalize hBB : (cut [Fd] H1) = B at *
    clear hBB nF
    have fin : ∀ {new : List (Nd × Option Nd)}, LetR (ptrs rs) (ds.map fun x => (x, none)) new (rs.map (·.1)) ds → ∀ x ∈ ds ++ new.map (·.1), x ∈ ns := fun {new} h x hx => by
      rcases List.mem_append.mp hx with m | m
      · exact din x m
      · obtain ⟨r, hr, rfl⟩ := List.mem_map.mp m
        obtain ⟨r2, hr2, e2⟩ := List.mem_map.mp (h.nw r hr)
        rw [← e2]; exact rin r2 hr2
    have fnd : ∀ {new : List (Nd × Option Nd)}, LetR (ptrs rs) (ds.map fun x => (x, none)) new (rs.map (·.1)) ds → (ds ++ new.map (·.1)).Nodup := fun {new} h => by
      have := h.nd; rwa [map_none] at this
    have lenb : ∀ {new : List (Nd × Option Nd)}, LetR (ptrs rs) (ds.map fun x => (x, none)) new (rs.map (·.1)) ds → (ds ++ new.map (·.1)).length ≤ 3600 := fun {new} h => Nat.le_trans (pigeon _ ns (fnd h) (fin h)) go.len
    refine ⟨fun m σ H' => ∃ (new : List (Nd × Option Nd)) (cur : List Nd) (zs : List V) (Lr : Addr) (v5 v6 v7 : Option V), σ = [some (.ref Bf), some (.ref R), some (.ref D), some (.ref Fd), some (.ref Lr), v5, v6, v7] ∧ Same B H' ∧ H' Fd = some (obj (FTn (ds ++ new.map (·.1)))) ∧ H' Lr = some (.lst zs) ∧
        NL B zs cur ∧ LetI (ptrs rs) (ds.map fun x => (x, none)) new (rs.map (·.1)) ds cur ∧ m = 2 * (3601 - (ds ++ new.map (·.1)).length) + (if cur = [] then 0 else 1),
      ⟨_, [], ds, vs, L0, none, none, none, rfl, sB2, by simpa using hF2, hL, hn, LetI.begin (by have := map_none ds []; rw [List.append_nil, List.map_nil, List.append_nil] at this; rw [this]; exact dnd), rfl⟩, ?_⟩
    rintro m σ H3 ⟨new0, cur, zs, Lr, v5, v6, v7, rfl, s3, hF3, hL3, hz3, b0, rfl⟩
    refine ⟨_, rfl, _, .inl ⟨_, SqL.of hL3, rfl⟩, ?_⟩
    have lz : zs.length = cur.length := paired_len hz3
    have l0 := lenb b0.toLetR
    have cin : ∀ y ∈ cur, y ∈ ns := fun y hy => fin b0.toLetR y (List.mem_append.mpr (b0.cu y hy))
    by_cases hls : cur = []
    · subst hls
      have : zs = [] := List.length_eq_zero_iff.mp lz
      subst this
      exact (if_neg (by decide)).mpr ⟨_, rfl, kB H3 _ s3 hF3 (fnd b0.toLetR) (fin b0.toLetR) (on_of b0)⟩
    have npos : zs.isEmpty = false := by
      cases zs with
      | nil => exact absurd (List.length_eq_zero_iff.mp lz.symm) hls
      | cons _ _ => rfl
    refine (if_pos (by rw [npos]; rfl)).mpr ⟨_, fun σ' H' h => h, ?_⟩
    refine ⟨by decide, fun C0 hC0 => ?_⟩
    have nFC : Fd ≠ C0 := ne_of_none hF3 hC0
    have nLC : Lr ≠ C0 := ne_of_none hL3 hC0
    have nLF : Lr ≠ Fd := fun e => by rw [e, hF3] at hL3; cases hL3
    have nBC : B C0 = none := s3.free hC0
    have hL4 : (L2.upd H3 C0 (.lst [])) Lr = some (.lst zs) := by rw [upd_ne nLC]; exact hL3
    refine ⟨_, rfl, Lr, rfl, ⟨_, SqL.of hL4⟩, ?_⟩
    refine for_list (K := K) (a := Lr) (xs := zs) (fun i σ H' => ∃ (new : List (Nd × Option Nd)) (cs : List Nd) (us : List V) (v6 v7 : Option V), σ = [some (.ref Bf), some (.ref R), some (.ref D), some (.ref Fd), some (.ref Lr), some (.ref C0), v6, v7] ∧ Same B H' ∧ H' Lr = some (.lst zs) ∧ H' Fd = some (obj (FTn (ds ++ new.map (·.1)))) ∧ H' C0 = some (.lst us) ∧
        NL B us cs ∧ LetJ (ptrs rs) (ds.map fun x => (x, none)) new (rs.map (·.1)) ds cur (cur.take i) [] cs ∧ new.length = new0.length + cs.length)
      ⟨new0, [], [], v6, v7, rfl, Same.put s3 nBC, hL4, by rw [upd_ne nFC]; exact hF3, upd_same, .nil, by rw [List.take_zero]; exact b0.enter, rfl⟩
      (fun i σ H' _ ⟨_, _, _, _, _, _, _, z, _⟩ => SqL.of z) ?_ ?_
    · rintro i v σ H5 hv ⟨new, cs, us, v6, v7, rfl, s5, hL5, hF5, hC5, hu5, b5, q5⟩
      obtain ⟨x, hx, hax⟩ := paired_get hz3 hv
      have xl : x ∈ cur := List.mem_of_getElem? hx
      have xm := cin x xl
      obtain ⟨bkv, l, bs, hD5, e3, hl5, pb⟩ := hBf.look2 xm
      have dgl : DGet H5 Bf v (some (.ref l)) := by rw [← e3]; exact dget (.inl (s5 _ _ hD5)) (hax.same s5)
      refine ⟨_, rfl, _, rfl, Bf, _, rfl, dgl, l, rfl, ⟨_, SqL.of (s5 _ _ hl5)⟩, ?_⟩
      have lb : bs.length = (befn nx x ns).length := paired_len pb
      refine for_list (K := K) (a := l) (xs := bs) (fun j σ H' => ∃ (new : List (Nd × Option Nd)) (cs : List Nd) (us : List V) (v7 : Option V), σ = [some (.ref Bf), some (.ref R), some (.ref D), some (.ref Fd), some (.ref Lr), some (.ref C0), some v, v7] ∧ Same B H' ∧ H' Lr = some (.lst zs) ∧ H' Fd = some (obj (FTn (ds ++ new.map (·.1)))) ∧ H' C0 = some (.lst us) ∧
          NL B us cs ∧ LetJ (ptrs rs) (ds.map fun x => (x, none)) new (rs.map (·.1)) ds cur (cur.take i) (((befn nx x ns).take j).filter fun e => decide (x ∈ ptrs rs e)) cs ∧ new.length = new0.length + cs.length)
        ⟨new, cs, us, v7, rfl, s5, hL5, hF5, hC5, hu5, by rw [List.take_zero]; exact b5, q5⟩
        (fun j σ H' _ ⟨_, _, _, _, _, z, _⟩ => SqL.of (z _ _ hl5)) ?_ ?_
      · rintro j v2 σ H7 hv7 ⟨new, cs, us, v7, rfl, s7, hL7, hF7, hC7, hu7, b7, q7⟩
        obtain ⟨e, he, hae⟩ := paired_get pb hv7
        have ha7 := hae.same s7
        have lk := lenb b7.toLetR
        refine ⟨_, rfl, _, rfl, Fd, _, rfl, dget (.inl hF7) ha7, _, rfl, ?_⟩
        rw [val_dec (FTn_keys _)]
        by_cases c1 : e ∈ ds ++ new.map (·.1)
        · rw [decide_eq_true c1]
          refine iteF (iteF ⟨new, cs, us, _, rfl, s7, hL7, hF7, hC7, hu7, ?_, q7⟩)
          by_cases c : x ∈ ptrs rs e
          · rw [filt_yes he (decide_eq_true c)]
            exact b7.skip fun _ => by rw [map_none]; exact c1
          · rw [filt_no he (decide_eq_false c)]; exact b7
        · rw [decide_eq_false c1]
          obtain ⟨d, dp7, sd, de⟩ := (hE.same s7).get (K := K) rnd (fun a b m => sh b (go.sc (rin _ m) (rpt a b m))) e
          refine iteT ⟨_, rfl, R, rfl, .inl ⟨_, .inl (s7 _ _ hR)⟩, _, rfl, _, dget (.inl (s7 _ _ hR)) ha7, _, rfl, d, dN x, dp7, dN_dp (hax.same s7), sd, sh x xm, _, rfl, ?_⟩
          rw [de x]
          by_cases c : x ∈ ptrs rs e
          · rw [decide_eq_true c]
            refine iteT ⟨_, rfl, _, rfl, Fd, _, rfl, dput hF7 ha7 (by rw [FTn_len, sizeLine_eq]; omega), ?_⟩
            have hC9 : (L2.upd H7 Fd (obj (putK (FTn (ds ++ new.map (·.1))) (key e) (.bl true)))) C0 = some (.lst us) := by rw [upd_ne nFC.symm]; exact hC7
            have lus : us.length = cs.length := paired_len hu7
            have lcs : cs.length ≤ 3600 := by
              have := b7.cd
              rw [List.length_append, List.length_map] at lk
              omega
            refine ⟨_, rfl, .inl ⟨rfl, _, SqL.of hC9⟩, _, rfl, C0, _, _, rfl, rfl, hC9, by rw [sizeLine_eq]; omega, ?_⟩
            refine ⟨new ++ [(e, some x)], cs ++ [e], us ++ [v2], _, rfl, Same.put (Same.put s7 nB) nBC, by rw [upd_ne nLC, upd_ne nLF]; exact hL7, by rw [upd_ne nFC, upd_same, FTn_put c1, List.map_append, List.append_assoc]; rfl, upd_same, paired_snoc hu7 hae, ?_, by rw [List.length_append, List.length_append, q7]; simp; omega⟩
            rw [filt_yes he (decide_eq_true c)]
            exact b7.find (List.mem_map_of_mem (mem_ptrs.mp c)) (by rw [map_none]; exact c1) c xl
          · rw [decide_eq_false c]
            exact iteF ⟨new, cs, us, _, rfl, s7, hL7, hF7, hC7, hu7, by rw [filt_no he (decide_eq_false c)]; exact b7, q7⟩
      · rintro σ H7 ⟨new, cs, us, v7, rfl, s7, hL7, hF7, hC7, hu7, b7, q7⟩
        rw [lb, List.take_length] at b7
        exact ⟨new, cs, us, _, _, rfl, s7, hL7, hF7, hC7, hu7, by
          rw [take_succ_get hx]
          exact b7.turn fun w hw hy => List.mem_filter.mpr ⟨mem_befs.mpr ⟨by obtain ⟨r2, hr2, e2⟩ := List.mem_map.mp hw; rw [← e2]; exact rin r2 hr2, rpt _ _ (mem_ptrs.mp hy)⟩, decide_eq_true hy⟩, q7⟩
    · rintro σ H5 ⟨new, cs, us, v6, v7, rfl, s5, hL5, hF5, hC5, hu5, b5, q5⟩
      rw [lz, List.take_length] at b5
      refine ⟨_, rfl, _, ?_, new, cs, us, C0, _, _, _, rfl, s5, hF5, hC5, hu5, b5.leave, rfl⟩
      have l1 := lenb b5.toLetR
      rw [if_neg hls]
      rw [List.length_append, List.length_map] at l1 ⊢
      rw [List.length_append, List.length_map]
      by_cases h : cs = []
      · rw [if_pos h]; rw [h, List.length_nil] at q5; omega
      · rw [if_neg h]
        have : 0 < cs.length := List.length_pos_iff.mpr h
        omega
end
end Gs
end L2
namespace L2
namespace Kt
section
variable {α : Type} {nx : α → List α} {ask : α → Ask}
theorem Sup.more {R S : List (α × Option α)} (st : ∀ e ∈ R, e ∈ S) {x : α} (h : Sup (nx := nx) (ask := ask) R x) : Sup (nx := nx) (ask := ask) S x := by
  induction h with
  | base a b => exact .base (st _ a) b
  | on a b c _ ih => exact .on (st _ a) b c ih
theorem let_sup {rs new : List (α × Option α)} {ws L0 : List α} (I : LetR nx rs new ws L0) (ww : ∀ w ∈ ws, ask w = .some ∨ ask w = .nearer) (s0 : ∀ x ∈ rs.map (·.1), Sup (nx := nx) (ask := ask) rs x) (l0 : ∀ y ∈ L0, y ∈ rs.map (·.1)) : ∀ x ∈ (rs ++ new).map (·.1), Sup (nx := nx) (ask := ask) (rs ++ new) x := by
  have old : ∀ x ∈ rs.map (·.1), Sup (nx := nx) (ask := ask) (rs ++ new) x := fun x hx => (s0 x hx).more fun e he => List.mem_append_left _ he
  have nw := I.ind (fun x => Sup (nx := nx) (ask := ask) (rs ++ new) x) (fun y hy => old y (l0 y hy)) fun x y m q => by
    obtain ⟨z, ez, hz⟩ := I.tg _ m
    have ez : y = z := Option.some.inj ez
    subst ez
    exact .on (List.mem_append_right _ m) (ww _ (I.nw _ m)) hz q
  intro x hx
  rw [List.map_append] at hx
  rcases List.mem_append.mp hx with m | m
  · exact old x m
  · obtain ⟨e, he, rfl⟩ := List.mem_map.mp m
    exact nw e he
variable (nx ask) in
/-- what rests at first -/
structure First (ns : List α) (R : List (α × Option α)) : Prop where
  nd : (R.map (·.1)).Nodup
  inn : ∀ r ∈ R, r.1 ∈ ns
  pt : ∀ x y, (x, some y) ∈ R → y ∈ nx x
  sup : ∀ x ∈ R.map (·.1), Sup (nx := nx) (ask := ask) R x
  bs : ∀ x ∈ ns, (ask x = .always ∨ ask x = .all) → x ∈ R.map (·.1)
  st : ∀ x ∈ ns, (ask x = .some ∨ ask x = .nearer) → (∃ y ∈ nx x, y ∈ R.map (·.1)) → x ∈ R.map (·.1)
theorem map_nones (ds : List α) : (ds.map fun x => (x, (none : Option α))).map (·.1) = ds := by
  rw [List.map_map]; exact List.map_id _
theorem first_of {ns b0 ws : List α} {new : List (α × Option α)} (nd : ns.Nodup) (hb : ∀ x, x ∈ b0 ↔ x ∈ ns ∧ (ask x = .always ∨ ask x = .all)) (hw : ∀ x, x ∈ ws ↔ x ∈ ns ∧ (ask x = .some ∨ ask x = .nearer)) (I : LetI nx (b0.map fun x => (x, none)) new ws b0 []) : First nx ask ns ((b0.map fun x => (x, none)) ++ new) := by
  have m0 := map_nones b0
  refine ⟨I.nd, fun r hr => ?_, fun x y m => ?_, let_sup I.toLetR (fun w h => ((hw w).mp h).2) (fun x hx => ?_) (fun y hy => by rw [m0]; exact hy), fun x hx a => ?_, fun x hx a ⟨y, hy, m⟩ => ?_⟩
  · rcases List.mem_append.mp hr with m | m
    · obtain ⟨x, hx, rfl⟩ := List.mem_map.mp m; exact ((hb x).mp hx).1
    · exact ((hw _).mp (I.nw r m)).1
  · rcases List.mem_append.mp m with m | m
    · obtain ⟨z, _, e⟩ := List.mem_map.mp m; cases e
    · obtain ⟨z, ez, hz⟩ := I.tg _ m
      have ez : y = z := Option.some.inj ez
      subst ez; exact hz
  · rw [m0] at hx
    exact .base (List.mem_map.mpr ⟨x, hx, rfl⟩) ((hb x).mp hx).2
  · rw [List.map_append, m0]; exact List.mem_append_left _ ((hb x).mpr ⟨hx, a⟩)
  · rw [List.map_append, m0] at m
    exact I.done y (List.mem_append.mp m) x ((hw x).mpr ⟨hx, a⟩) hy
theorem First.kept {ns : List α} {R : List (α × Option α)} (h : First nx ask ns R) (kin : ∀ x, Kept nx ask x → x ∈ ns) : ∀ x, Kept nx ask x → x ∈ R.map (·.1) :=
  near_rest kin (fun x hx _ a => h.bs x hx a) fun x hx _ a ⟨y, hy, m⟩ => h.st x hx a ⟨y, hy, m⟩
variable [∀ (x : α) (l : List α), Decidable (x ∈ l)]
theorem First.rest {ns : List α} {R : List (α × Option α)} (h : First nx ask ns R) (nd : ns.Nodup) (cl : ∀ x ∈ ns, ∀ y ∈ nx x, y ∈ ns) (kin : ∀ x, Kept nx ask x → x ∈ ns) : Rest nx ask ns R (ns.filter fun x => !decide (x ∈ R.map (·.1))) := by
  refine ⟨h.nd, h.inn, h.sup, fun x hx => ?_, nd.filter _, fun x hx _ y hy => ?_, fun x _ k => h.kept kin x k⟩
  · obtain ⟨a, b⟩ := List.mem_filter.mp hx
    exact ⟨a, by simpa using b⟩
  · by_cases c : y ∈ R.map (·.1)
    · exact .inl c
    · obtain ⟨r, hr, rfl⟩ := List.mem_map.mp hx
      exact .inr (List.mem_filter.mpr ⟨cl _ (h.inn r hr) y hy, by simpa using c⟩)
/-- the first look at those that wait -/
structure Put1 (nx : α → List α) (rs new : List (α × Option α)) (ws es : List α) : Prop extends LetR nx rs new ws (rs.map (·.1)) where
  ne : ∀ e ∈ new, e.1 ∈ es
  cm : ∀ w ∈ es, (∃ y ∈ nx w, y ∈ rs.map (·.1)) → w ∈ new.map (·.1)
theorem Put1.begin {rs : List (α × Option α)} {ws : List α} (nd : (rs.map (·.1)).Nodup) : Put1 nx rs [] ws [] :=
  ⟨⟨by simpa using nd, fun e h => (by cases h), fun e h => (by cases h), fun P _ _ e h => (by cases h)⟩, fun e h => (by cases h), fun w h => (by cases h)⟩
theorem Put1.skip {rs new : List (α × Option α)} {ws es : List α} (h : Put1 nx rs new ws es) {e : α} (n : ∀ y ∈ nx e, y ∉ (rs ++ new).map (·.1)) : Put1 nx rs new ws (es ++ [e]) :=
  ⟨h.toLetR, fun a ha => List.mem_append_left _ (h.ne a ha), fun w hw ⟨y, hy, m⟩ => by
    rcases List.mem_append.mp hw with q | q
    · exact h.cm w q ⟨y, hy, m⟩
    · rw [List.mem_singleton.mp q] at hy
      exact absurd (by rw [List.map_append]; exact List.mem_append_left _ m) (n y hy)⟩
theorem Put1.put {rs new : List (α × Option α)} {ws es : List α} (h : Put1 nx rs new ws es) {e y : α} (ew : e ∈ ws) (n : e ∉ (rs ++ new).map (·.1)) (hy : y ∈ nx e) (yc : y ∈ (rs ++ new).map (·.1)) : Put1 nx rs (new ++ [(e, some y)]) ws (es ++ [e]) := by
  refine ⟨⟨?_, fun u hu => ?_, fun u hu => ?_, fun P p0 p1 u hu => ?_⟩, fun a ha => ?_, fun w hw q => ?_⟩
  · rw [← List.append_assoc, List.map_append]
    exact List.nodup_append.mpr ⟨h.nd, by simp, fun a ha b hb e2 => by
      have : b = e := by simpa using hb
      rw [e2, this] at ha; exact n ha⟩
  · rcases List.mem_append.mp hu with q | q
    · exact h.nw u q
    · rw [List.mem_singleton.mp q]; exact ew
  · rcases List.mem_append.mp hu with q | q
    · exact h.tg u q
    · rw [List.mem_singleton.mp q]; exact ⟨y, rfl, hy⟩
  · have old : ∀ u ∈ new, P u.1 := h.ind P p0 fun a b m => p1 a b (List.mem_append_left _ m)
    rcases List.mem_append.mp hu with q | q
    · exact old u q
    · rw [List.mem_singleton.mp q]
      refine p1 e y (List.mem_append_right _ (List.mem_singleton.mpr rfl)) ?_
      rw [List.map_append] at yc
      rcases List.mem_append.mp yc with q | q
      · exact p0 y q
      · obtain ⟨v, hv, rfl⟩ := List.mem_map.mp q
        exact old v hv
  · rcases List.mem_append.mp ha with q | q
    · exact List.mem_append_left _ (h.ne a q)
    · rw [List.mem_singleton.mp q]; exact List.mem_append_right _ (List.mem_singleton.mpr rfl)
  · rw [List.map_append]
    rcases List.mem_append.mp hw with m | m
    · exact List.mem_append_left _ (h.cm w m q)
    · rw [List.mem_singleton.mp m]; exact List.mem_append_right _ (List.mem_singleton.mpr rfl)
theorem key_uq {R : List (α × Option α)} (nd : (R.map (·.1)).Nodup) {x : α} {o o2 : Option α} (a : (x, o) ∈ R) (b : (x, o2) ∈ R) : o = o2 := by
  induction R with
  | nil => cases a
  | cons r R ih =>
    have n := List.nodup_cons.mp nd
    rcases List.mem_cons.mp a with a | a
    · rcases List.mem_cons.mp b with b | b
      · rw [← a] at b; exact (Prod.mk.inj b).2.symm
      · exact absurd (List.mem_map_of_mem (f := (·.1)) b) (by rw [← a] at n; exact n.1)
    · rcases List.mem_cons.mp b with b | b
      · exact absurd (List.mem_map_of_mem (f := (·.1)) a) (by rw [← b] at n; exact n.1)
      · exact ih n.2 a b
/-- what is left when some go -/
theorem going_rest {ns gone dropped D : List α} {R n1 n2 : List (α × Option α)} (kin : ∀ x, Kept nx ask x → x ∈ ns) (h : Rest nx ask ns R gone) (pt : ∀ x y, (x, some y) ∈ R → y ∈ nx x)
    (hd : ∀ x, x ∈ dropped ↔ x ∈ ns ∧ x ∈ R.map (·.1) ∧ (ask x = .all ∨ ask x = .nearer) ∧ ∃ y ∈ gone, y ∈ nx x) (hD : ∀ x, x ∈ D ↔ OnOf R dropped x) (Dn : D.Nodup)
    (p : Put1 nx (R.filter fun r => !decide (r.1 ∈ D)) n1 (D.filter fun x => !decide (x ∈ dropped)) (D.filter fun x => !decide (x ∈ dropped)))
    (I : LetI nx ((R.filter fun r => !decide (r.1 ∈ D)) ++ n1) n2 (D.filter fun x => !decide (x ∈ dropped)) ((D.filter fun x => !decide (x ∈ dropped)).filter fun x => decide (x ∈ ((R.filter fun r => !decide (r.1 ∈ D)) ++ n1).map (·.1))) []) :
    Rest nx ask ns ((R.filter fun r => !decide (r.1 ∈ D)) ++ n1 ++ n2) (D.filter fun x => !decide (x ∈ ((R.filter fun r => !decide (r.1 ∈ D)) ++ n1 ++ n2).map (·.1))) ∧
    (∀ x y, (x, some y) ∈ ((R.filter fun r => !decide (r.1 ∈ D)) ++ n1 ++ n2) → y ∈ nx x) ∧
    ((R.filter fun r => !decide (r.1 ∈ D)) ++ n1 ++ n2).length + (D.filter fun x => !decide (x ∈ ((R.filter fun r => !decide (r.1 ∈ D)) ++ n1 ++ n2).map (·.1))).length ≤ R.length := by
  have DR : ∀ x ∈ D, x ∈ R.map (·.1) := fun x hx => by
    cases (hD x).mp hx with
    | base m => exact ((hd x).mp m).2.1
    | step m _ => exact List.mem_map_of_mem m
  have wsm : ∀ {x}, x ∈ (D.filter fun x => !decide (x ∈ dropped)) ↔ x ∈ D ∧ x ∉ dropped := fun {x} => by rw [List.mem_filter]; simp
  have ww : ∀ w ∈ (D.filter fun x => !decide (x ∈ dropped)), ask w = .some ∨ ask w = .nearer := fun w hw => by
    obtain ⟨a, b⟩ := wsm.mp hw
    cases (hD w).mp a with
    | base m => exact absurd m b
    | step m _ =>
      cases h.sup w (List.mem_map_of_mem m) with
      | base c _ => cases key_uq h.nd m c
      | on _ c _ _ => exact c
  generalize hW : (D.filter fun x => !decide (x ∈ dropped)) = ws at *
  have r1m : ∀ {x}, x ∈ (R.filter fun r => !decide (r.1 ∈ D)).map (·.1) ↔ x ∈ R.map (·.1) ∧ x ∉ D := fun {x} => by
    constructor
    · intro m
      obtain ⟨r, hr, rfl⟩ := List.mem_map.mp m
      obtain ⟨a, b⟩ := List.mem_filter.mp hr
      exact ⟨List.mem_map_of_mem a, by simpa using b⟩
    · rintro ⟨m, n⟩
      obtain ⟨r, hr, rfl⟩ := List.mem_map.mp m
      exact List.mem_map_of_mem (List.mem_filter.mpr ⟨hr, by simpa using n⟩)
  have r1R : ∀ e ∈ (R.filter fun r => !decide (r.1 ∈ D)), e ∈ R := fun e he => (List.mem_filter.mp he).1
  have s1 : ∀ x ∈ (R.filter fun r => !decide (r.1 ∈ D)).map (·.1), Sup (nx := nx) (ask := ask) (R.filter fun r => !decide (r.1 ∈ D)) x := fun x hx => by
    obtain ⟨a, b⟩ := r1m.mp hx
    have sx := h.sup x a
    clear hx a
    induction sx with
    | base c d => exact .base (List.mem_filter.mpr ⟨c, by simpa using b⟩) d
    | @on x y c d e sy ih =>
      have ny : y ∉ D := fun m => b ((hD x).mpr (.step c ((hD y).mp m)))
      exact .on (List.mem_filter.mpr ⟨c, by simpa using b⟩) d e (ih ny)
  generalize hR1 : (R.filter fun r => !decide (r.1 ∈ D)) = R1 at *
  have s2 := let_sup p.toLetR ww s1 fun y hy => hy
  have s3 := let_sup I.toLetR ww s2 fun y hy => of_decide_eq_true (List.mem_filter.mp hy).2
  have m3 : ∀ {x}, x ∈ (R1 ++ n1 ++ n2).map (·.1) ↔ x ∈ R1.map (·.1) ∨ x ∈ n1.map (·.1) ∨ x ∈ n2.map (·.1) := fun {x} => by
    rw [List.map_append, List.map_append, List.mem_append, List.mem_append, or_assoc]
  have nw : ∀ {x}, (x ∈ n1.map (·.1) ∨ x ∈ n2.map (·.1)) → x ∈ ws := fun {x} m => by
    rcases m with m | m
    · obtain ⟨r, hr, rfl⟩ := List.mem_map.mp m; exact p.nw r hr
    · obtain ⟨r, hr, rfl⟩ := List.mem_map.mp m; exact I.nw r hr
  have in3 : ∀ {x}, x ∈ (R1 ++ n1 ++ n2).map (·.1) → x ∈ R.map (·.1) ∧ x ∉ dropped := fun {x} m => by
    rcases m3.mp m with m | m
    · obtain ⟨a, b⟩ := r1m.mp m
      exact ⟨a, fun q => b ((hD x).mpr (.base q))⟩
    · obtain ⟨a, b⟩ := wsm.mp (nw m)
      exact ⟨DR x a, b⟩
  have Rns : ∀ {x}, x ∈ R.map (·.1) → x ∈ ns := fun {x} m => by obtain ⟨r, hr, rfl⟩ := List.mem_map.mp m; exact h.inn r hr
  have gm : ∀ {x}, x ∈ (D.filter fun x => !decide (x ∈ (R1 ++ n1 ++ n2).map (·.1))) ↔ x ∈ D ∧ x ∉ (R1 ++ n1 ++ n2).map (·.1) := fun {x} => by rw [List.mem_filter]; simp
  refine ⟨⟨I.nd, fun r hr => Rns (in3 (List.mem_map_of_mem hr)).1, s3, fun x hx => ?_, Dn.filter _, fun x hx a y hy => ?_, fun x _ k => ?_⟩, fun x y m => ?_, ?_⟩
  · obtain ⟨a, b⟩ := gm.mp hx
    exact ⟨Rns (DR x a), b⟩
  · obtain ⟨a1, a2⟩ := in3 hx
    rcases h.cl x a1 a y hy with q | q
    · by_cases c : y ∈ D
      · by_cases c2 : y ∈ (R1 ++ n1 ++ n2).map (·.1)
        · exact .inl c2
        · exact .inr (gm.mpr ⟨c, c2⟩)
      · exact .inl (m3.mpr (.inl (r1m.mpr ⟨q, c⟩)))
    · exact absurd ((hd x).mpr ⟨Rns a1, a1, a, y, q, hy⟩) a2
  · have nd0 : ∀ x, Kept nx ask x → x ∉ dropped := fun x k m => by
      obtain ⟨_, _, a, y, hy, q⟩ := (hd x).mp m
      exact (h.gn y hy).2 (h.kp y (h.gn y hy).1 (k.succ a y q))
    refine near_rest (R := R1 ++ n1 ++ n2) kin (fun x hx k a => ?_) (fun x hx k a ⟨y, hy, m⟩ => ?_) x k
    · have xr := h.kp x hx k
      by_cases c : x ∈ D
      · have := ww x (wsm.mpr ⟨c, nd0 x k⟩)
        rcases a with a | a <;> rw [a] at this <;> rcases this with q | q <;> cases q
      · exact m3.mpr (.inl (r1m.mpr ⟨xr, c⟩))
    · have xr := h.kp x hx k
      by_cases c : x ∈ D
      · have xw := wsm.mpr ⟨c, nd0 x k⟩
        rcases m3.mp m with q | q | q
        · exact m3.mpr (.inr (.inl (p.cm x xw ⟨y, hy, q⟩)))
        · exact I.done y (.inl (List.mem_filter.mpr ⟨nw (.inl q), decide_eq_true (by rw [List.map_append]; exact List.mem_append_right _ q)⟩)) x xw hy
        · exact I.done y (.inr q) x xw hy
      · exact m3.mpr (.inl (r1m.mpr ⟨xr, c⟩))
  · rcases List.mem_append.mp m with m | m
    · rcases List.mem_append.mp m with m | m
      · exact pt x y (r1R _ m)
      · obtain ⟨z, ez, hz⟩ := p.tg _ m
        have ez : y = z := Option.some.inj ez
        subst ez; exact hz
    · obtain ⟨z, ez, hz⟩ := I.tg _ m
      have ez : y = z := Option.some.inj ez
      subst ez; exact hz
  · have : DecidableEq α := fun a b => Classical.propDecidable (a = b)
    have a : ((R1 ++ n1 ++ n2).map (·.1) ++ (D.filter fun x => !decide (x ∈ (R1 ++ n1 ++ n2).map (·.1)))).Nodup := List.nodup_append.mpr ⟨I.nd, Dn.filter _, fun x hx y hy e => (gm.mp hy).2 (e ▸ hx)⟩
    have b : ∀ {xs ys : List α}, xs.Nodup → (∀ x ∈ xs, x ∈ ys) → xs.length ≤ ys.length := fun {xs ys} n s => D1.pigeon xs ys n s
    have := b (ys := R.map (·.1)) a fun x hx => by
      rcases List.mem_append.mp hx with m | m
      · exact (in3 m).1
      · exact DR x (gm.mp m).1
    rw [List.length_append, List.length_map, List.length_map] at this
    exact this
end
end Kt
end L2
namespace L2
namespace Gs
open PySem PySem.Spec PyProof.Rows D1 D2 X5 X6 X7 Kt
section
variable {σ : St} {i j : Nat} {H0 : Hp} {ns : List Nd}
theorem set_ne {v : V} {o : Option V} (hi : σ[i]? = some o) (n : i ≠ j) : ((σ.set j none).set j (some v))[i]? = some o := by
  rw [List.getElem?_set_ne (Ne.symm n), List.getElem?_set_ne (Ne.symm n)]; exact hi
theorem set_at {v : V} (hj : j < σ.length) : ((σ.set j none).set j (some v))[j]? = some (some v) := by
  rw [List.getElem?_set_self (by show j < (σ.set j none).length; rw [List.length_set]; exact hj)]
theorem rd_same {H H' : Hp} {D : Addr} {o : HO} (h : Rd H D o) (s : Same H H') : Rd H' D o := h.imp (s _ _) fun ⟨od, e⟩ => ⟨od, s _ _ e⟩
theorem tst_ask {A : Addr} {ask : Nd → Ask} {a b : Ask} {la lb : Str} (ea : la = askS a) (eb : lb = askS b) (hi : σ[i]? = some (some (.ref A))) (n : i ≠ j) (hj : j < σ.length) (hA : Rd H0 A (obj (askD ask ns))) :
    TstAt (tOr (tTest (tOp rEq (tDGet (tVar i) (tVar j)) (tC (.str la)))) (tTest (tOp rEq (tDGet (tVar i) (tVar j)) (tC (.str lb))))) σ j H0 ns (fun x => decide (ask x = a) || decide (ask x = b)) := by
  subst ea eb
  intro v x H' Q xm s at1 k
  have dg := AskAt.look (rd_same hA s) xm at1
  refine ⟨_, set_ne hi n, _, set_at hj, A, _, rfl, dg, rfl, _, rfl, ?_⟩
  have k : Q (decide (ask x = a) || decide (ask x = b)) H' := k H' (Same.refl _)
  by_cases c : ask x = a
  · have q := (askS_eq (a := ask x) (b := a)).trans (decide_eq_true c)
    rw [decide_eq_true c] at k
    exact (if_pos q).mpr k
  · have q : ¬ _ = true := fun h => Bool.noConfusion (((askS_eq (a := ask x) (b := a)).trans (decide_eq_false c)).symm.trans h)
    refine (if_neg q).mpr ⟨_, set_ne hi n, _, set_at hj, A, _, rfl, dg, rfl, _, rfl, ?_⟩
    rw [decide_eq_false c, Bool.false_or] at k
    rw [askS_eq]; exact k
theorem tst_in {D : Addr} {kvs : List (KK × V)} {ks : List Nd} (hi : σ[i]? = some (some (.ref D))) (n : i ≠ j) (hj : j < σ.length) (hD : Rd H0 D (obj kvs)) (hk : kvs.map (·.1) = ks.map key) : TstAt (tB (tDIn (tVar j) (tVar i))) σ j H0 ns (fun x => decide (x ∈ ks)) := by
  intro v x H' Q xm s at1 k
  refine ⟨_, set_at hj, _, set_ne hi n, D, _, rfl, dget (rd_same hD s) at1, _, rfl, ?_⟩
  rw [val_dec hk]; exact k H' (Same.refl _)
theorem tst_nin {D : Addr} {kvs : List (KK × V)} {ks : List Nd} (hi : σ[i]? = some (some (.ref D))) (n : i ≠ j) (hj : j < σ.length) (hD : Rd H0 D (obj kvs)) (hk : kvs.map (·.1) = ks.map key) : TstAt (tB (tDNotIn (tVar j) (tVar i))) σ j H0 ns (fun x => !decide (x ∈ ks)) := by
  intro v x H' Q xm s at1 k
  refine ⟨_, set_at hj, _, set_ne hi n, D, _, rfl, dget (rd_same hD s) at1, _, rfl, ?_⟩
  rw [val_dec hk]; exact k H' (Same.refl _)
end
abbrev sFirst : Stmt := top 30
abbrev tAlw (a b : Str) (i j : Nat) : TT := tOr (tTest (tOp rEq (tDGet (tVar i) (tVar j)) (tC (.str a)))) (tTest (tOp rEq (tDGet (tVar i) (tVar j)) (tC (.str b))))
theorem ents_none {H : Hp} : ∀ ds : List Nd, Ents H (ds.map fun x => (key x, .non)) (ds.map fun x => (x, none))
  | [] => .nil
  | _ :: r => .cons ⟨rfl, rfl⟩ (ents_none r)
theorem NL.cut {H : Hp} {S : List Addr} {vs : List V} {xs : List Nd} (h : NL H vs xs) (n : ∀ q ∈ S, ∀ ys, H q ≠ some (.tup ys)) : NL (L2.D1.cut S H) vs xs := h.map fun z ks e => cut_notr e n
def spFirst : Sp := fun vs H Q _ => ∃ (Bf A : Addr) (nx : Nd → List (Str × Nd)) (ask : Nd → Ask) (ns : List Nd), vs = [.ref Bf, .ref A] ∧ GO nx ns ∧ BefAt H Bf nx ns ∧ AskAt H A ask ns ∧
  ∀ H' R kvs rs, Same H (cut [R] H') → H R = none → H' R = some (obj kvs) → Ents (cut [R] H') kvs rs → First (sc nx) ask ns rs → Q (.ref R) H'
section
variable {P : Program} {w : World} {K : PySem.W.Frag} {mg : Str → Option Value} {base : Heap} {C : Addr}
abbrev CLet (P : Program) (w : World) (K : PySem.W.Frag) (mg : Str → Option Value) (base : Heap) := Cal P w K mg base "let_rest" 1 ["before", "rests", "waiting", "layer"] spLet
abbrev fiN : List Str := ["before", "asks", "rests", "waiting", "node"]
theorem scFi : FnScope fiN ["before", "asks"] (defScope sFirst) := ⟨rfl, rfl, rfl, by decide +kernel, rfl, by decide +kernel, by decide +kernel⟩
theorem ok_first {f : Addr} {fd : FuncData} (F : Fun K "rests_at_first" "rests_at_first" sFirst f fd) (T : Free3 mg) (CL : CLet P w K mg base) : FnOk P w K mg base CX0 2 f fd ["before", "asks"] spFirst := by
  refine F.ok scFi (fun vs H Q E h => ?_) (fun cdv A outer s H vs Q E hr h => ?_)
  · obtain ⟨Bf, A, nx, ask, ns, rfl, _⟩ := h; rfl
  · obtain ⟨Bf, A, nx, ask, ns, rfl, go, hBf, hA, k⟩ := h
    have hu := hu_of hr
    refine ⟨_, pss_cons (ps_lock (X7.ps_setDcK (i := 2) (own := [("node", 4)]) (g := gName 4) (tt := tAlw "always" "all" 1 4) (tk := tVar 4) (tv := tC .non)  rfl scFi.nd rfl rfl (sw_trueD rfl rfl (by rfl) (by decide +kernel)) (pi_keys (pv 1)) (blkOk_by (N := fiN) (sc := defScope sFirst) (by decide +kernel))
          (fun _ _ _ _ _ => pg_name (i := 4) scFi.nd rfl (Or.inl rfl)) (fun _ _ _ hr2 _ => pts_one (PW.pt (pw_or (pt_cmpR op_eq (pe_dget hu (pv 1) (pv 4) (fun _ _ => rfl)) pe_str rfl) (pw_or1 (pt_cmpR op_eq (pe_dget hu (pv 1) (pv 4) (fun _ _ => rfl)) pe_str rfl))))) (fun _ _ _ _ _ => pv 4) (fun _ _ _ _ _ => pe_non)))
      (pss_cons (ps_lock (X7.ps_setDcK (i := 3) (own := [("node", 4)]) (g := gName 4) (tt := tAlw "nearer" "some" 1 4) (tk := tVar 4) (tv := tC (.bl true))  rfl scFi.nd rfl rfl (sw_trueD rfl rfl (by rfl) (by decide +kernel)) (pi_keys (pv 1)) (blkOk_by (N := fiN) (sc := defScope sFirst) (by decide +kernel))
          (fun _ _ _ _ _ => pg_name (i := 4) scFi.nd rfl (Or.inl rfl)) (fun _ _ _ hr2 _ => pts_one (PW.pt (pw_or (pt_cmpR op_eq (pe_dget hu (pv 1) (pv 4) (fun _ _ => rfl)) pe_str rfl) (pw_or1 (pt_cmpR op_eq (pe_dget hu (pv 1) (pv 4) (fun _ _ => rfl)) pe_str rfl))))) (fun _ _ _ _ _ => pv 4) (fun _ _ _ _ _ => pe_bl)))
      (pss_cons (ps_expr (pe_cal CL (hr.mono (by decide)) rfl (pa_cons (pv 0) (pa_cons (pv 2) (pa_cons (pv 3) (pa_cons (pe_callTy (call_listN rfl) (by rfl) T.list (by decide +kernel) (pa_cons (pv 2) pa_nil)) pa_nil))))))
      (pss_one (ps_ret (pv 2))))), ?_⟩
    refine dkeys rfl (show 4 < 5 by decide) hA (askD_keys ask ns) go.nd go.len (fun od => tst_ask (a := .always) (b := .all) rfl rfl rfl (by decide) (show 4 < 5 by decide) (.inr ⟨od, upd_same⟩)) (fun H1 R s1 nR hR => ?_)
    refine dkeys rfl (show 4 < 5 by decide) (s1 _ _ hA) (askD_keys ask ns) go.nd go.len (fun od => tst_ask (a := .nearer) (b := .some) rfl rfl rfl (by decide) (show 4 < 5 by decide) (.inr ⟨od, upd_same⟩)) (fun H2 W s2 nW hW => ?_)
    have hb : ∀ x, x ∈ (ns.filter fun x => decide (ask x = .always) || decide (ask x = .all)) ↔ x ∈ ns ∧ (ask x = .always ∨ ask x = .all) := fun x => by rw [List.mem_filter]; simp
    have hw : ∀ x, x ∈ (ns.filter fun x => decide (ask x = .nearer) || decide (ask x = .some)) ↔ x ∈ ns ∧ (ask x = .some ∨ ask x = .nearer) := fun x => by rw [List.mem_filter]; simp [or_comm]
    have bnd : (ns.filter fun x => decide (ask x = .always) || decide (ask x = .all)).Nodup := go.nd.filter _
    generalize (ns.filter fun x => decide (ask x = .always) || decide (ask x = .all)) = b0 at *
    generalize (ns.filter fun x => decide (ask x = .nearer) || decide (ask x = .some)) = ws at *
    have hR2 := s2 _ _ hR
    refine ⟨_, rfl, _, rfl, _, rfl, _, rfl, R, _, b0, rfl, .inl hR2, by rw [List.map_map]; rfl, fun H3 L us s3 nL hL hU => ?_⟩
    have hR3 := s3 _ _ hR2
    have nWR : W ≠ R := fun e => by rw [e, hR] at nW; cases nW
    have nLR : L ≠ R := fun e => by rw [e, hR2] at nL; cases nL
    have nR1 : ∀ {b : Addr} {o : HO}, b ≠ R → H3 b = some o → (cut [R] H3) b = some o := fun {b o} n e => by rw [cut_out (by simpa using n)]; exact e
    have sB : Same H (cut [R] H3) := fun b o e => nR1 (fun q => by rw [q, nR] at e; cases e) (s3 _ _ (s2 _ _ (s1 _ _ e)))
    have hU3 : NL (cut [R] H3) us b0 := (hU.map fun z ks e => s3 _ _ e).cut fun q hq ys e => by
      rw [List.mem_singleton.mp hq, hR3] at e; cases e
    refine ⟨Bf, R, W, L, nx, ns, ws, b0, b0.map fun x => (x, none), _, us, rfl, go, hBf.same sB, hR3, ents_none b0, nR1 nWR (s3 _ _ hW), nR1 nLR hL, hU3, by rw [map_nones]; exact bnd, fun r hr => ?_, fun w h => ((hw w).mp h).1, fun y h => ((hb y).mp h).1, fun H' kvs' new s' hR' hE' hI => ?_⟩
    · obtain ⟨x, hx, rfl⟩ := List.mem_map.mp hr; exact ((hb x).mp hx).1
    · exact ⟨_, rfl, k H' R kvs' _ (Same.trans sB s') nR hR' hE' (first_of go.nd hb hw hI)⟩
end
end Gs
end L2
namespace L2
namespace Gs
open PySem PySem.Spec PyProof.Rows D1 D2 X5 X6 X7 Kt
abbrev sGoing : Stmt := top 32
theorem filt_drop {rs : List (Nd × Option Nd)} {es : List Nd} {x : Nd} : ((rs.filter fun r => !decide (r.1 ∈ es)).filter fun r => decide (r.1 ≠ x)) = rs.filter fun r => !decide (r.1 ∈ es ++ [x]) := by
  rw [List.filter_filter]
  refine List.filter_congr fun r _ => ?_
  rw [Bool.eq_iff_iff]
  simp [and_comm]
def spGoing : Sp := fun vs H Q _ => ∃ (G Bf A R Gn : Addr) (nx : Nd → List (Str × Nd)) (ask : Nd → Ask) (ns gone : List Nd) (rs : List (Nd × Option Nd)) (kvs : List (KK × V)) (us : List V), vs = [.ref G, .ref Bf, .ref A, .ref R, .ref Gn] ∧ GO nx ns ∧ (∀ x, Kept (sc nx) ask x → x ∈ ns) ∧ (∀ x ∈ ns, SeqAt.shaped (dN x) = true) ∧
  GrAt (cut [R] H) G nx ns ∧ BefAt (cut [R] H) Bf nx ns ∧ AskAt (cut [R] H) A ask ns ∧ H R = some (obj kvs) ∧ Ents (cut [R] H) kvs rs ∧ (cut [R] H) Gn = some (.lst us) ∧ NL (cut [R] H) us gone ∧ Rest (sc nx) ask ns rs gone ∧ (∀ x y, (x, some y) ∈ rs → y ∈ sc nx x) ∧
  ∀ H' kvs' L vs rs' gone', Same (cut [R] H) (cut [R] H') → H' R = some (obj kvs') → Ents (cut [R] H') kvs' rs' → (cut [R] H') L = some (.lst vs) → NL (cut [R] H') vs gone' → Rest (sc nx) ask ns rs' gone' → (∀ x y, (x, some y) ∈ rs' → y ∈ sc nx x) → rs'.length + gone'.length ≤ rs.length → Q (.ref L) H'
section
variable {P : Program} {w : World} {K : PySem.W.Frag} {mg : Str → Option Value} {base : Heap} {C : Addr}
abbrev CDrop (P : Program) (w : World) (K : PySem.W.Frag) (mg : Str → Option Value) (base : Heap) := Cal P w K mg base "dropped_by" 1 ["before", "asks", "rests", "gone"] spDrop
abbrev CRes (P : Program) (w : World) (K : PySem.W.Frag) (mg : Str → Option Value) (base : Heap) := Cal P w K mg base "resting_on" 1 ["before", "rests", "dropped"] spRestOn
abbrev gtN : List Str := ["graph", "before", "asks", "rests", "gone", "dropped", "doubted", "node", "waiting", "later"]
theorem scGt : FnScope gtN ["graph", "before", "asks", "rests", "gone"] (defScope sGoing) := ⟨rfl, rfl, rfl, by decide +kernel, rfl, by decide +kernel, by decide +kernel⟩
theorem ok_going {f : Addr} {fd : FuncData} (F : Fun K "going_then" "going_then" sGoing f fd) (CL : CLet P w K mg base) (CD : CDrop P w K mg base) (CR : CRes P w K mg base) : FnOk P w K mg base CX0 2 f fd ["graph", "before", "asks", "rests", "gone"] spGoing := by
  refine F.ok scGt (fun vs H Q E h => ?_) (fun cdv A outer s H vs Q E hr h => ?_)
  · obtain ⟨G, Bf, A, R, Gn, nx, ask, ns, gone, rs, kvs, us, rfl, _⟩ := h; rfl
  · obtain ⟨G, Bf, A, R, Gn, nx, ask, ns, gone, rs, kvs, us, rfl, go, kin, sh, hG, hBf, hA, hR, hE, hGn, hU, rest, rpt, k⟩ := h
    have hu := hu_of hr
    refine ⟨_, pss_cons (ps_set (i := 5) scGt.nd rfl (Or.inr rfl) (pe_cal CD (hr.mono (by decide)) rfl (pa_cons (pv 1) (pa_cons (pv 2) (pa_cons (pv 3) (pa_cons (pv 4) pa_nil))))))
      (pss_cons (ps_set (i := 6) scGt.nd rfl (Or.inl rfl) (pe_cal CR (hr.mono (by decide)) rfl (pa_cons (pv 1) (pa_cons (pv 3) (pa_cons (pv 5) pa_nil)))))
      (pss_cons (ps_lock (ps_for PassesOwn.never rfl (pi_keys (pv 6)) (pg_name (i := 7) scGt.nd rfl (Or.inl rfl)) (pss_one (ps_ddel (pv 3) (pv 7)))))
      (pss_cons (ps_lock (X7.ps_setDcK (i := 8) (own := [("node", 7)]) (g := gName 7) (tt := tB (tDNotIn (tVar 7) (tVar 5))) (tk := tVar 7) (tv := tC (.bl true))  rfl scGt.nd rfl rfl (sw_trueD rfl rfl (by rfl) (by decide +kernel)) (pi_keys (pv 6)) (blkOk_by (N := gtN) (sc := defScope sGoing) (by decide +kernel))
          (fun _ _ _ _ _ => pg_name (i := 7) scGt.nd rfl (Or.inl rfl)) (fun _ _ _ _ _ => pts_one (pt_cmp (pc_dnotin hu (pv 7) (pv 5)) rfl)) (fun _ _ _ _ _ => pv 7) (fun _ _ _ _ _ => pe_bl)))
      (pss_cons (ps_lock (ps_for PassesOwn.never rfl (pi_keys (pv 8)) (pg_name (i := 7) scGt.nd rfl (Or.inl rfl))
        (pss_one (ps_lock (ps_for PassesOwn.never rfl (pi_values (pe_dget hu (pv 0) (pv 7) (fun _ _ => rfl))) (pg_name (i := 9) scGt.nd rfl (Or.inl rfl))
          (pss_one (ps_if (pt_cmp (pc_din hu (pv 9) (pv 3)) rfl) (pss_cons (ps_dput hu (pv 3) (pv 7) (pv 9) rfl) (pss_one ps_break)) pss_nil)))))))
      (pss_cons (ps_expr (pe_cal CL (hr.mono (by decide)) rfl (pa_cons (pv 1) (pa_cons (pv 3) (pa_cons (pv 8) (pa_cons (pe_lock (pe_lc (own := [("node", 7)]) (g := gName 7) (tt := tB (tDIn (tVar 7) (tVar 3))) (te := tVar 7) rfl scGt.nd (pi_keys (pv 8)) (blkOk_by (N := gtN) (sc := defScope sGoing) (by decide +kernel))
          (fun _ _ _ _ _ => pg_name (i := 7) scGt.nd rfl (Or.inl rfl)) (fun _ _ _ _ _ => pts_one (pt_cmp (pc_din hu (pv 7) (pv 3)) rfl)) (fun _ _ _ _ _ => pv 7))) pa_nil))))))
      (pss_one (ps_ret (pe_lock (pe_lc (own := [("node", 7)]) (g := gName 7) (tt := tB (tDNotIn (tVar 7) (tVar 3))) (te := tVar 7) rfl scGt.nd (pi_keys (pv 6)) (blkOk_by (N := gtN) (sc := defScope sGoing) (by decide +kernel))
          (fun _ _ _ _ _ => pg_name (i := 7) scGt.nd rfl (Or.inl rfl)) (fun _ _ _ _ _ => pts_one (pt_cmp (pc_dnotin hu (pv 7) (pv 3)) rfl)) (fun _ _ _ _ _ => pv 7)))))))))), ?_⟩
    refine ⟨_, rfl, _, rfl, _, rfl, _, rfl, Bf, A, R, Gn, nx, ask, ns, rs.map (·.1), gone, kvs, us, rfl, go, hBf.same cut_le, cut_le _ _ hA, hR, hE.keys, cut_le _ _ hGn, hU.same cut_le, fun y hy => (rest.gn y hy).1, fun H1 Dr ds s1 nD hD hdr => ?_⟩
    refine ⟨_, rfl, _, rfl, _, rfl, Bf, R, Dr, nx, ns, ds, rs, kvs, rfl, go, (hBf.same cut_le).same s1, sh, s1 _ _ hR, (hE.same cut_le).same s1, rest.nd, rest.inn, rpt, hD, hdr.1, fun x hx => ((hdr.2 x).mp hx).1, fun H2 Fd fs s2 nF hF fnd fin fon => ?_⟩
    have sB : Same (cut [R] H) (cut [R] H2) := cut_same (Same.trans s1 s2)
    have nRD : R ≠ Dr := ne_of_none hR nD
    have hR1 := s1 _ _ hR
    have nRF : R ≠ Fd := ne_of_none hR1 nF
    have nDF : Dr ≠ Fd := ne_of_none hD nF
    have nFd : Fd ∉ [R] := by simpa using nRF.symm
    have hFB : (cut [R] H2) Fd = some (obj (FTn fs)) := by rw [cut_out nFd]; exact hF
    have hDB : (cut [R] H2) Dr = some (obj (FTn ds)) := by rw [cut_out (by simpa using nRD.symm)]; exact s2 _ _ hD
    have flen : fs.length ≤ 3600 := Nat.le_trans (pigeon fs ns fnd fin) go.len
    have fR : ∀ x ∈ fs, x ∈ rs.map (·.1) := fun x hx => by
      cases (fon x).mp hx with
      | base m => exact ((hdr.2 x).mp m).2.1
      | step m _ => exact List.mem_map_of_mem m
    refine ⟨Fd, _, hF, trivial, fun od => ⟨_, rfl, Fd, od, rfl, .inl ⟨FTn fs, upd_same, ?_⟩⟩⟩
    refine for_it (walk_keys (d := Fd) (o := od) (kvs := FTn fs)) (fun i σ H' => ∃ (v7 : Option V) (kv : List (KK × V)), σ = [some (.ref G), some (.ref Bf), some (.ref A), some (.ref R), some (.ref Gn), some (.ref Dr), some (.ref Fd), v7, none, none] ∧ Same (cut [R] (L2.upd H2 Fd (.frz od (obj (FTn fs))))) (cut [R] H') ∧ H' R = some (obj kv) ∧ Ents (cut [R] H2) kv (rs.filter fun r => !decide (r.1 ∈ fs.take i)))
      ⟨none, kvs, rfl, Same.refl _, by rw [upd_ne nRF]; exact s2 _ _ hR1, by rw [List.take_zero, List.filter_eq_self.mpr (by simp)]; exact hE.same sB⟩
      (fun i σ H' _ ⟨_, _, _, z, _⟩ => (cut_some (z Fd _ (by rw [cut_out nFd, upd_same]))).2) ?_ ?_
    · rintro i xv σ H4 H3' hi ⟨v7, kv, rfl, s4, hR4, hE4⟩ ⟨rfl, k0, v0, hkv, rfl⟩
      obtain ⟨x, hx, ek⟩ := keys_at (FTn_keys fs) hkv
      have hx : k0 = key x := ek; subst hx; have at1 : At H3' (kV (key x)) x := rfl
      have nn : x ∉ fs.take i := by have := not_before (gs := []) (ls := fs) (by simpa using fnd) hx; simpa using this
      have xr : x ∈ (rs.filter fun r => !decide (r.1 ∈ fs.take i)).map (·.1) := by
        obtain ⟨r, hr, er⟩ := List.mem_map.mp (fR x (List.mem_of_getElem? hx))
        refine List.mem_map.mpr ⟨r, List.mem_filter.mpr ⟨hr, ?_⟩, er⟩
        have er : r.1 = x := er
        rw [er]; simpa using nn
      refine ⟨_, rfl, _, rfl, ddel (td := tVar 3) (ty := tVar 7) hR4 at1 (val_some xr hE4.keys) ⟨_, _, rfl, by rw [cut_upd (q := R) (by simp)]; exact s4, upd_same, ?_⟩⟩
      rw [take_succ_get hx, ← filt_drop]
      exact hE4.drop x
    rintro σ H4 ⟨v7, kv, rfl, s4, hR4, hE4⟩
    rw [FTn_len, List.take_length] at hE4
    have fF : H4 Fd = some (.frz od (obj (FTn fs))) := (cut_some (s4 Fd _ (by rw [cut_out nFd, upd_same]))).2
    refine ⟨fF, ?_⟩
    have un : Same (cut [R] H2) (cut [R] (L2.upd H4 Fd (obj (FTn fs)))) := cut_unlock nFd hF s4
    have hR5 : (L2.upd H4 Fd (obj (FTn fs))) R = some (obj kv) := by rw [upd_ne nRF]; exact hR4
    clear s4 fF hR4
    generalize (L2.upd H4 Fd (obj (FTn fs))) = H5 at un hR5 ⊢
    have hF5 : H5 Fd = some (obj (FTn fs)) := cut_le _ _ (un _ _ hFB)
    refine dkeys rfl (show 7 < 10 by decide) hF5 (FTn_keys fs) fnd flen (fun od => tst_nin rfl (by decide) (show 7 < 10 by decide) (.inl (by rw [upd_ne nDF]; exact cut_le _ _ (un _ _ hDB))) (FTn_keys ds)) (fun H6 W s6 nW hW => ?_)
    have hW : H6 W = some (obj (FTn (fs.filter fun x => !decide (x ∈ ds)))) := hW
    have wm : ∀ {x}, x ∈ (fs.filter fun x => !decide (x ∈ ds)) → x ∈ fs := fun m => (List.mem_filter.mp m).1
    have wnd : (fs.filter fun x => !decide (x ∈ ds)).Nodup := fnd.filter _
    have gr := fun n1 n2 => going_rest (n1 := n1) (n2 := n2) kin rest rpt (dropped := ds) (fun x => by rw [hdr.2 x]; unfold needs; simp) fon fnd
    have fR1 : ∀ x ∈ fs, x ∉ (rs.filter fun r => !decide (r.1 ∈ fs)).map (·.1) := fun x hx m => by
      obtain ⟨r, hr, rfl⟩ := List.mem_map.mp m
      have := (List.mem_filter.mp hr).2
      rw [decide_eq_true hx] at this; cases this
    have r1n : ∀ r ∈ (rs.filter fun r => !decide (r.1 ∈ fs)), r.1 ∈ ns := fun r hr => rest.inn r (List.mem_filter.mp hr).1
    have r1d : ((rs.filter fun r => !decide (r.1 ∈ fs)).map (·.1)).Nodup := (List.filter_sublist.map _).nodup rest.nd
    generalize (fs.filter fun x => !decide (x ∈ ds)) = ws at *
    generalize (rs.filter fun r => !decide (r.1 ∈ fs)) = R1 at *
    have nWR : W ≠ R := fun e => by rw [e, hR5] at nW; cases nW
    have nWS : W ∉ [R] := by simpa using nWR
    have hR6 := s6 _ _ hR5
    have upW : ∀ od, Same (cut [R] H2) (cut [R] (L2.upd H6 W (.frz od (obj (FTn ws))))) := fun od b o e => by
      obtain ⟨nb, e5⟩ := cut_some (un _ _ e)
      rw [cut_out nb, upd_ne (ne_of_none e5 nW)]; exact s6 _ _ e5
    refine ⟨W, _, hW, trivial, fun od => ⟨_, rfl, W, od, rfl, .inl ⟨FTn ws, upd_same, ?_⟩⟩⟩
    have lenb : ∀ {new : List (Nd × Option Nd)} {es : List Nd}, Put1 (sc nx) R1 new ws es → (R1 ++ new).length ≤ 3600 := fun {new es} h => by
      rw [← List.length_map (·.1)]
      refine Nat.le_trans (pigeon _ ns h.nd fun x hx => ?_) go.len
      rw [List.map_append] at hx
      rcases List.mem_append.mp hx with m | m
      · obtain ⟨r, hr, rfl⟩ := List.mem_map.mp m; exact r1n r hr
      · obtain ⟨r, hr, rfl⟩ := List.mem_map.mp m; exact fin _ (wm (h.nw r hr))
    refine for_it (walk_keys (d := W) (o := od) (kvs := FTn ws)) (fun i σ H' => ∃ (v7 v9 : Option V) (kv : List (KK × V)) (new : List (Nd × Option Nd)), σ = [some (.ref G), some (.ref Bf), some (.ref A), some (.ref R), some (.ref Gn), some (.ref Dr), some (.ref Fd), v7, some (.ref W), v9] ∧ Same (cut [R] (L2.upd H6 W (.frz od (obj (FTn ws))))) (cut [R] H') ∧ H' R = some (obj kv) ∧ Ents (cut [R] H2) kv (R1 ++ new) ∧ Put1 (sc nx) R1 new ws (ws.take i))
      ⟨_, _, kv, [], rfl, Same.refl _, by rw [upd_ne nWR.symm]; exact hR6, by rw [List.append_nil]; exact hE4, by rw [List.take_zero]; exact Put1.begin r1d⟩
      (fun i σ H' _ ⟨_, _, _, _, _, z, _⟩ => (cut_some (z W _ (by rw [cut_out nWS, upd_same]))).2) ?_ ?_
    · rintro i xv σ H4 H3' hi ⟨v7, v9, kv7, new, rfl, s7, hR7, hE7, p7⟩ ⟨rfl, k0, v0, hkv, rfl⟩
      obtain ⟨x, hx, ek⟩ := keys_at (FTn_keys ws) hkv
      have hx : k0 = key x := ek; subst hx; have at1 : At H3' (kV (key x)) x := rfl
      have xw : x ∈ ws := List.mem_of_getElem? hx
      have xm := fin x (wm xw)
      have s7' : Same (cut [R] H2) (cut [R] H3') := Same.trans (upW od) s7
      obtain ⟨gk, eG, gr2⟩ := hG.same sB
      obtain ⟨a, va, kr, eA, pA⟩ := gr2.look xm
      have nAG : a ≠ G := gr2.ne eG xm eA pA
      obtain ⟨naS, eA7⟩ := cut_some (s7' _ _ eA)
      have naR : a ≠ R := fun e => naS (by simp [e])
      refine ⟨a, _, eA7, trivial, fun od2 => ?_⟩
      have at6 : At (L2.upd H3' a (.frz od2 (.dK kr))) (kV (key x)) x := at1.map fun z ks e => by rw [upd_ne fun q => by rw [q, eA7] at e; cases e]; exact e
      have dg : DGet (L2.upd H3' a (.frz od2 (.dK kr))) G (kV (key x)) (some (.ref a)) := by
        rw [← va]; exact dget (.inl (by rw [upd_ne nAG.symm]; exact cut_le _ _ (s7' _ _ eG))) at6
      refine ⟨_, rfl, _, rfl, G, _, rfl, dg, a, od2, kr, rfl, upd_same, ?_⟩
      have nn : x ∉ (R1 ++ new).map (·.1) := fun m => by
        rw [List.map_append] at m
        rcases List.mem_append.mp m with m | m
        · exact fR1 x (wm xw) m
        · obtain ⟨e, he, ee⟩ := List.mem_map.mp m
          have := not_before (gs := []) (ls := ws) (by simpa using wnd) hx
          have ee : e.1 = x := ee
          exact this (by rw [List.nil_append, ← ee]; exact p7.ne e he)
      have lk := lenb p7
      refine for_it (walk_values (d := a) (o := od2) (kvs := kr)) (fun j σ H' => ∃ v9, σ = [some (.ref G), some (.ref Bf), some (.ref A), some (.ref R), some (.ref Gn), some (.ref Dr), some (.ref Fd), some (kV (key x)), some (.ref W), v9] ∧ Same (cut [R] (L2.upd H3' a (.frz od2 (.dK kr)))) (cut [R] H') ∧ H' R = some (obj kv7) ∧ ∀ t ∈ (nx x).take j, t.2 ∉ (R1 ++ new).map (·.1))
        ⟨v9, rfl, Same.refl _, by rw [upd_ne naR.symm]; exact hR7, fun t ht => (by rw [List.take_zero] at ht; cases ht)⟩
        (fun j σ H' _ ⟨_, _, z, _⟩ => (cut_some (z a _ (by rw [cut_out naS, upd_same]))).2) ?_ ?_
      · rintro j v σ H8 H9 hj ⟨v9, rfl, s8, hR8, no⟩ ⟨rfl, kk, hk⟩
        obtain ⟨t, ht, _, hut⟩ := paired_get pA hk
        have hut : At (cut [R] H2) v t.2 := hut
        have hu9 : At H9 v t.2 := hut.map fun z ks e => by
          have n2 : z ≠ a := fun q => by rw [q, eA] at e; cases e
          obtain ⟨nz, e7⟩ := cut_some (s7' _ _ e)
          exact cut_le _ _ (s8 z _ (by rw [cut_out nz, upd_ne n2]; exact e7))
        have at9 : At H9 (kV (key x)) x := at6.map fun z ks e => by
          by_cases q : z ∈ [R]
          · rw [List.mem_singleton.mp q, upd_ne naR.symm, hR7] at e; cases e
          · exact cut_le _ _ (s8 z _ (by rw [cut_out q]; exact e))
        have fA : H9 a = some (.frz od2 (.dK kr)) := (cut_some (s8 a _ (by rw [cut_out naS, upd_same]))).2
        refine ⟨_, rfl, _, rfl, R, _, rfl, dget (.inl hR8) hu9, _, rfl, ?_⟩
        rw [val_dec hE7.keys]
        by_cases c : t.2 ∈ (R1 ++ new).map (·.1)
        · rw [decide_eq_true c]
          refine iteT ⟨_, rfl, _, rfl, _, rfl, R, _, rfl, dput hR8 at9 (by rw [hE7.len, sizeLine_eq]; omega), ?_⟩
          refine ⟨by rw [upd_ne naR]; exact fA, _, _, _, new ++ [(x, some t.2)], rfl, Same.trans s7 (cut_unlock naS eA7 (by rw [cut_upd (q := R) (by simp)]; exact s8)), by rw [upd_ne naR.symm, upd_same], ?_, by rw [take_succ_get hx]; exact p7.put xw nn (List.mem_map.mpr ⟨t, List.mem_of_getElem? ht, rfl⟩) c⟩
          rw [← List.append_assoc]
          exact hE7.put nn hut
        · rw [decide_eq_false c]
          refine iteF ⟨_, rfl, s8, hR8, fun t2 h2 => ?_⟩
          rw [take_succ_get ht] at h2
          rcases List.mem_append.mp h2 with m | m
          · exact no t2 m
          · rw [List.mem_singleton.mp m]; exact c
      · rintro σ H8 ⟨v9, rfl, s8, hR8, no⟩
        have fA : H8 a = some (.frz od2 (.dK kr)) := (cut_some (s8 a _ (by rw [cut_out naS, upd_same]))).2
        refine ⟨fA, _, _, _, new, rfl, Same.trans s7 (cut_unlock naS eA7 s8), by rw [upd_ne naR.symm]; exact hR8, hE7, ?_⟩
        rw [take_succ_get hx]
        refine p7.skip fun y hy => ?_
        obtain ⟨t, ht, rfl⟩ := List.mem_map.mp hy
        exact no t (by rw [paired_len pA, List.take_length]; exact ht)
    rintro σ H7 ⟨v7, v9, kv7, new, rfl, s7, hR7, hE7, p7⟩
    rw [FTn_len, List.take_length] at p7
    have fW : H7 W = some (.frz od (obj (FTn ws))) := (cut_some (s7 W _ (by rw [cut_out nWS, upd_same]))).2
    refine ⟨fW, ?_⟩
    have un2 : Same (cut [R] H6) (cut [R] (L2.upd H7 W (obj (FTn ws)))) := cut_unlock nWS hW s7
    have hR8 : (L2.upd H7 W (obj (FTn ws))) R = some (obj kv7) := by rw [upd_ne nWR.symm]; exact hR7
    have hW8 : (L2.upd H7 W (obj (FTn ws))) W = some (obj (FTn ws)) := upd_same
    generalize (L2.upd H7 W (obj (FTn ws))) = H8 at un2 hR8 hW8 ⊢
    have lk := lenb p7
    have s28 : Same (cut [R] H2) (cut [R] H8) := Same.trans un (Same.trans (cut_same s6) un2)
    refine ⟨_, rfl, _, rfl, _, rfl, ?_⟩
    refine lkeys rfl (show 7 < 10 by decide) hW8 (FTn_keys ws) (Nat.le_trans (pigeon ws ns wnd fun x h => fin x (wm h)) go.len) (fun od => tst_in rfl (by decide) (show 7 < 10 by decide) (.inl (by rw [upd_ne nWR.symm]; exact hR8)) hE7.keys) (fun H9 L vs s9 nL hL hn => ?_)
    have hR9 := s9 _ _ hR8
    have nLR : L ≠ R := fun e => by rw [e, hR8] at nL; cases nL
    have s29 : Same (cut [R] H2) (cut [R] H9) := Same.trans s28 (cut_same s9)
    refine ⟨Bf, R, W, L, nx, ns, ws, _, R1 ++ new, kv7, vs, rfl, go, (hBf.same sB).same s29, hR9, hE7.same s29, by rw [cut_out nWS]; exact s9 _ _ hW8, by rw [cut_out (by simpa using nLR)]; exact hL, hn.cut fun q hq ys e => (by rw [List.mem_singleton.mp hq, hR9] at e; cases e), p7.nd, fun r hr => ?_, fun x h => fin x (wm h), fun x h => fin x (wm (List.mem_filter.mp h).1), fun H10 kv10 new2 s10 hR10 hE10 hI => ?_⟩
    · rcases List.mem_append.mp hr with m | m
      · exact r1n r m
      · exact fin _ (wm (p7.nw r m))
    obtain ⟨g1, g2, g3⟩ := gr new new2 p7 hI
    have s2x : Same (cut [R] H2) (cut [R] H10) := Same.trans s29 s10
    refine lkeys rfl (show 7 < 10 by decide) (cut_le _ _ (s2x _ _ hFB)) (FTn_keys fs) flen (fun od => tst_nin rfl (by decide) (show 7 < 10 by decide) (.inl (by rw [upd_ne nRF]; exact hR10)) hE10.keys) (fun H11 L2 vs2 s11 nL2 hL2 hn2 => ?_)
    have hR11 := s11 _ _ hR10
    have nLR2 : L2 ≠ R := fun e => by rw [e, hR10] at nL2; cases nL2
    exact k H11 kv10 L2 vs2 _ _ (Same.trans sB (Same.trans s2x (cut_same s11))) hR11 (hE10.same (cut_same s11)) (by rw [cut_out (by simpa using nLR2)]; exact hL2) (hn2.cut fun q hq ys e => by rw [List.mem_singleton.mp hq, hR11] at e; cases e) g1 g2 g3
end
end Gs
end L2
namespace L2
namespace Gs
open PySem PySem.Spec PyProof.Rows D1 D2 X5 X6 X7 Kt
abbrev sRanks : Stmt := top 35
/-- the graph within some of its nodes -/
def subN (nx : Nd → List (Str × Nd)) (rk : List Nd) (x : Nd) : List (Str × Nd) := (nx x).filter fun t => decide (t.2 ∈ rk)
theorem GO.sub {nx : Nd → List (Str × Nd)} {ns rk : List Nd} (g : GO nx ns) (nd : rk.Nodup) (h : ∀ x ∈ rk, x ∈ ns) : GO (subN nx rk) rk :=
  ⟨nd, Nat.le_trans (pigeon rk ns nd h) g.len, fun x hx => Nat.le_trans (List.length_filter_le _ _) (g.l60 x (h x hx)), fun x _ t ht => of_decide_eq_true (List.mem_filter.mp ht).2, fun x hx => (List.filter_sublist.map _).nodup (g.wn x (h x hx))⟩
theorem TstAt.sub {tt : TT} {σ : St} {j : Nat} {H0 : Hp} {ns ms : List Nd} {p : Nd → Bool} (s : ∀ x ∈ ms, x ∈ ns) (h : TstAt tt σ j H0 ns p) : TstAt tt σ j H0 ms p := fun v x H' Q xm => h v x H' Q (s x xm)
theorem NT.nf {H H' : Hp} {a : Addr} {ts : List (Str × Nd)} (h : NT H a ts) (s : ∀ z o, H z = some o → (∀ od f, o ≠ .frz od f) → H' z = some o) : NT H' a ts :=
  let ⟨kvs, e, p⟩ := h; ⟨kvs, s _ _ e fun _ _ e => (by cases e), paired_imp (fun _ _ ⟨e1, e2⟩ => ⟨e1, e2.map fun z ks ez => s _ _ ez fun _ _ e => (by cases e)⟩) p⟩
theorem GRow.nf {H H' : Hp} {nx : Nd → List (Str × Nd)} {kvs : List (KK × V)} {ns : List Nd} (h : GRow H nx kvs ns) (s : ∀ z o, H z = some o → (∀ od f, o ≠ .frz od f) → H' z = some o) : GRow H' nx kvs ns :=
  paired_imp (fun _ _ ⟨e1, a, e2, e3⟩ => ⟨e1, a, e2, e3.nf s⟩) h
theorem w_fresh {H : Hp} {kv : List (Key × V)} {ts : List (Str × Nd)} (p : Paired (fun kv t => kv.1 = Sum.inr t.1 ∧ At H kv.2 t.2) kv ts) {wd : Str} (n : wd ∉ ts.map (·.1)) : valV kv (.inr wd) = none := by
  induction p with
  | nil => rfl
  | @cons c t kv ts h _ ih =>
    rw [List.map_cons, List.mem_cons, not_or] at n
    rw [valV_neg (fun e => n.1 (by rw [h.1] at e; exact (Sum.inr.inj e).symm))]
    exact ih n.2
def tKeep : TE := fun σ H Q => ∃ (v1 v3 v5 v6 : Option V) (G R a : Addr) (v : V) (x : Nd) (kr : List (Key × V)) (kvsG kvsR : List (KK × V)) (rk : List Nd) (ts : List (Str × Nd)), σ = [some (.ref G), v1, some (.ref R), v3, some v, v5, v6] ∧ Rd H G (obj kvsG) ∧ At H v x ∧ valV kvsG (key x) = some (.ref a) ∧ a ≠ G ∧ H a = some (.dK kr) ∧
  Paired (fun kv t => kv.1 = Sum.inr t.1 ∧ At H kv.2 t.2) kr ts ∧ (ts.map (·.1)).Nodup ∧ ts.length ≤ 60 ∧ a ≠ R ∧ Rd H R (obj kvsR) ∧ kvsR.map (·.1) = rk.map key ∧ ∀ H' L, Same H H' → H L = none → NT H' L (ts.filter fun t => decide (t.2 ∈ rk)) → Q (.ref L) H'
theorem rd_upd {H : Hp} {D a : Addr} {o u : HO} (h : Rd H D o) (n : D ≠ a) : Rd (L2.upd H a u) D o := h.imp (fun e => by rw [upd_ne n]; exact e) fun ⟨od, e⟩ => ⟨od, by rw [upd_ne n]; exact e⟩
theorem keep_ok {K : PySem.W.Frag} : ∀ (σ : St) (H : Hp) (Q : VK), tKeep σ H Q → tLockE (tDc (iItems (tDGet (tVar 0) (tVar 4))) (gTup K 2 (gCons (gName 5) (gCons (gName 6) gNil))) (tB (tDIn (tVar 6) (tVar 2))) (tVar 5) (tVar 6) [5, 6]) σ H Q := by
  rintro σ H Q ⟨v1, v3, v5, v6, G, R, a, v, x, kr, kvsG, kvsR, rk, ts, rfl, hG, hx, vG, nG, ha, pa, nd, l60, nR, hR, hk, k⟩
  refine ⟨a, _, ha, trivial, fun od => ?_⟩
  have tz : ∀ z ks, H z = some (.tup ks) → (L2.upd H a (.frz od (.dK kr))) z = some (.tup ks) := fun z ks e => by rw [upd_ne fun q => by rw [q, ha] at e; cases e]; exact e
  have dg : DGet (L2.upd H a (.frz od (.dK kr))) G v (some (.ref a)) := by rw [← vG]; exact dget (rd_upd hG nG.symm) (hx.map tz)
  have hR1 := rd_upd (u := .frz od (.dK kr)) hR nR.symm
  refine ⟨_, rfl, _, rfl, G, _, rfl, dg, a, od, kr, rfl, upd_same, fun D hD => ?_⟩
  have nD : D ≠ a := fun e => by rw [e, upd_same] at hD; cases hD
  have hD0 := upd_none' hD
  refine dc_it (walk_items (d := a) (o := od) (kvs := kr)) (fun j H' => Same (L2.upd H a (.frz od (.dK kr))) H' ∧ ∃ kv, H' D = some (.dK kv) ∧ Paired (fun kv t => kv.1 = Sum.inr t.1 ∧ At H kv.2 t.2) kv ((ts.take j).filter fun t => decide (t.2 ∈ rk))) ⟨Same.new hD, [], upd_same, .nil⟩ (fun j H' _ z => z.1 _ _ upd_same) ?_ ?_
  · rintro j y H1 H2 hj ⟨sm, kv, hl, pk⟩ ⟨T1, x1, y1, rfl, hT1, rfl, ex, ey⟩
    dsimp only at ex ey
    obtain ⟨kv1, e1, e2⟩ := Option.map_eq_some_iff.mp ex
    rw [e1] at ey
    have ey : kv1.2 = y1 := Option.some.inj ey
    subst ey
    subst e2
    obtain ⟨t, ht, et, hut⟩ := paired_get pa e1
    have nTD : D ≠ T1 := ne_of_none hl hT1
    have s5 : Same (L2.upd H a (.frz od (.dK kr))) (L2.upd H1 T1 (.tup [kV kv1.1, kv1.2])) := Same.trans sm (Same.new hT1)
    have hy2 : At (L2.upd H1 T1 (.tup [kV kv1.1, kv1.2])) kv1.2 t.2 := (At.map hut tz).same s5
    refine ⟨T1, _, rfl, SqT.of upd_same, rfl, _, _, rfl, _, _, rfl, rfl, rfl, ?_⟩
    refine ⟨_, rfl, _, rfl, R, _, rfl, dget (rd_same hR1 s5) hy2, _, rfl, ?_⟩
    rw [val_dec hk]
    have hD2 : (L2.upd H1 T1 (.tup [kV kv1.1, kv1.2])) D = some (.dK kv) := by rw [upd_ne nTD]; exact hl
    by_cases c : t.2 ∈ rk
    · rw [decide_eq_true c]
      have lk : kv.length ≤ 60 := by
        rw [paired_len pk]
        have := List.length_filter_le (fun t : Str × Nd => decide (t.2 ∈ rk)) (ts.take j)
        rw [List.length_take] at this
        omega
      refine iteT ⟨_, rfl, _, rfl, kv, .inr t.1, by rw [et], hD2, by rw [sizeLine_eq]; omega, fun b u e => ?_, _, upd_same, ?_⟩
      · rw [upd_ne (ne_of_none e hD)]; exact s5 _ _ e
      · rw [filt_yes ht (decide_eq_true c), L2.putK_new _ (w_fresh pk fun m => ?_)]
        · exact paired_snoc pk ⟨rfl, hut⟩
        · obtain ⟨u, hu, eu⟩ := List.mem_map.mp m
          have h2 : (ts.map (·.1))[j]? = some t.1 := by rw [List.getElem?_map, ht]; rfl
          have := not_before (gs := []) (ls := ts.map (·.1)) (by simpa using nd) h2
          rw [List.nil_append, ← List.map_take] at this
          exact this (eu ▸ List.mem_map_of_mem (List.mem_filter.mp hu).1)
    · rw [decide_eq_false c]
      exact iteF ⟨s5, kv, hD2, by rw [filt_no ht (decide_eq_false c)]; exact pk⟩
  · rintro H1 ⟨sm, kv, hl, pk⟩
    rw [paired_len pa, List.take_length] at pk
    exact ⟨sm _ _ upd_same, k _ D (Same.unlock ha sm) hD0 ⟨kv, by rw [upd_ne nD]; exact hl, paired_imp (fun _ _ ⟨e1, e2⟩ => ⟨e1, e2.same (Same.unlock ha sm)⟩) pk⟩⟩
def isBase (a : Ask) : Bool := decide (a = .always) || decide (a = .all)
def baseQ (ask : Nd → Ask) (rk : List Nd) (x : Nd) : Prop := x ∈ rk ∧ isBase (ask x) = true
def spRanks : Sp := fun vs H Q _ => ∃ (G A R : Addr) (nx : Nd → List (Str × Nd)) (ask : Nd → Ask) (ns rk : List Nd) (kvs : List (KK × V)), vs = [.ref G, .ref A, .ref R] ∧ GO nx ns ∧ GrAt (cut [R] H) G nx ns ∧ AskAt (cut [R] H) A ask ns ∧ H R = some (obj kvs) ∧ kvs.map (·.1) = rk.map key ∧ rk.Nodup ∧ (∀ x ∈ rk, x ∈ ns) ∧
  ∀ H' D ks, Same H H' → H D = none → H' D = some (obj (iKn (subN nx rk) (baseQ ask rk) ks)) → ks.length ≤ 3600 → (∀ x ∈ rk, x ∈ ks ↔ ∃ n, IsDE (subN nx rk) (baseQ ask rk) x n) → ks.Nodup → (∀ x ∈ ks, x ∈ rk) → Q (.ref D) H'
def scInR : Scope := { kind := ScopeKind.function, names := [(Str.ofString ".0", NameKind.local), (Str.ofString "node", NameKind.local), (Str.ofString "graph", NameKind.cell), (Str.ofString "rests", NameKind.cell)], isGenerator := false, isCoroutine := false }
section
variable {P : Program} {w : World} {K : PySem.W.Frag} {mg : Str → Option Value} {base : Heap} {C : Addr}
abbrev CWordsN (P : Program) (w : World) (K : PySem.W.Frag) (mg : Str → Option Value) (base : Heap) := Cal P w K mg base "words_to" 2 ["graph", "goals"] spWordsN
abbrev rkN : List Str := ["graph", "asks", "rests", "kept", "node", "word", "later"]
theorem scRk : FnScope rkN ["graph", "asks", "rests"] (defScope sRanks) := ⟨rfl, rfl, rfl, by decide +kernel, rfl, by decide +kernel, by decide +kernel⟩
theorem ok_ranks {f : Addr} {fd : FuncData} (F : Fun K "ranks_of" "ranks_of" sRanks f fd) (CW : CWordsN P w K mg base) : FnOk P w K mg base CX0 3 f fd ["graph", "asks", "rests"] spRanks := by
  refine F.ok scRk (fun vs H Q E h => ?_) (fun cdv A0 outer s H vs Q E hr h => ?_)
  · obtain ⟨G, A, R, nx, ask, ns, rk, kvs, rfl, _⟩ := h; rfl
  · obtain ⟨G, A, R, nx, ask, ns, rk, kvs, rfl, go, hG, hA, hR, hk, rnd, rin, k⟩ := h
    have hu := hu_of hr
    refine ⟨_, pss_cons (ps_lock (X7.ps_setDcK (i := 3) (own := [("node", 4)]) (g := gName 4) (tt := tYes) (tk := tVar 4) (tv := tKeep)  rfl scRk.nd rfl rfl (sw_trueD rfl rfl (by rfl) (by decide +kernel)) (pi_keys (pv 2)) (blkOk_by (N := rkN) (sc := defScope sRanks) (by decide +kernel))
          (fun _ _ _ _ _ => pg_name (i := 4) scRk.nd rfl (Or.inl rfl)) (fun _ _ _ _ _ => pts_nil) (fun _ _ _ _ _ => pv 4)
          (fun _ _ _ _ _ => pe_imp (t' := tKeep) (pe_lock (pe_dc (own := [("word", 5), ("later", 6)]) (g := gTup K 2 (gCons (gName 5) (gCons (gName 6) gNil))) (tt := tB (tDIn (tVar 6) (tVar 2))) (tk := tVar 5) (tv := tVar 6) rfl scRk.nd (pi_items (pe_dget hu (pv 0) (pv 4) (fun _ _ => rfl))) (blkOk_by (N := rkN) (sc := scInR) (by decide +kernel))
            (fun _ _ _ _ _ => pg_tup rfl (pgs_cons (pg_name (i := 5) scRk.nd rfl (Or.inl rfl)) (pgs_cons (pg_name (i := 6) scRk.nd rfl (Or.inl rfl)) pgs_nil))) (fun _ _ _ _ _ => pts_one (pt_cmp (pc_din hu (pv 6) (pv 2)) rfl)) (fun _ _ _ _ _ => pv 5) (fun _ _ _ _ _ => pv 6))) keep_ok)))
      (pss_one (ps_ret (pe_cal CW (hr.mono (by decide)) rfl (pa_cons (pv 3) (pa_cons (pe_lock (pe_lc (own := [("node", 4)]) (g := gName 4) (tt := tAlw "always" "all" 1 4) (te := tVar 4) rfl scRk.nd (pi_keys (pv 2)) (blkOk_by (N := rkN) (sc := defScope sRanks) (by decide +kernel))
          (fun _ _ _ _ _ => pg_name (i := 4) scRk.nd rfl (Or.inl rfl)) (fun _ _ _ _ _ => pts_one (PW.pt (pw_or (pt_cmpR op_eq (pe_dget hu (pv 1) (pv 4) (fun _ _ => rfl)) pe_str rfl) (pw_or1 (pt_cmpR op_eq (pe_dget hu (pv 1) (pv 4) (fun _ _ => rfl)) pe_str rfl))))) (fun _ _ _ _ _ => pv 4))) pa_nil))))), ?_⟩
    refine ⟨R, _, hR, trivial, fun od => ?_⟩
    refine ⟨_, rfl, R, od, rfl, .inl ⟨kvs, upd_same, fun D hD0 => ?_⟩⟩
    have nDR : D ≠ R := fun e => by rw [e, upd_same] at hD0; cases hD0
    have sRL : Same (cut [R] H) (L2.upd H R (.frz od (obj kvs))) := fun b o e => by
      obtain ⟨nb, e⟩ := cut_some e
      rw [upd_ne (by simpa using nb)]; exact e
    obtain ⟨gk, eG, gr⟩ := hG
    have lk := keys_len hk
    have rl : rk.length ≤ 3600 := Nat.le_trans (pigeon rk ns rnd rin) go.len
    refine dc_it (walk_keys (d := R) (o := od) (kvs := kvs)) (fun i H' => Same (L2.upd H R (.frz od (obj kvs))) H' ∧ ∃ kvK, H' D = some (obj kvK) ∧ GRow (cut [D] H') (subN nx rk) kvK (rk.take i)) ⟨Same.new hD0, [], upd_same, .nil⟩ (fun i H' _ z => z.1 _ _ upd_same) ?_ ?_
    · rintro i xv H2 H3 hi ⟨s2, kvK, hD2, g2⟩ ⟨rfl, k0, v0, hkv, rfl⟩
      obtain ⟨x, hx, ek⟩ := keys_at hk hkv
      have hx : k0 = key x := ek; subst hx; have at1 : At H3 (kV (key x)) x := rfl
      have xm := rin x (List.mem_of_getElem? hx)
      obtain ⟨a, va, kr, eA, pA⟩ := gr.look xm
      have nAG : a ≠ G := gr.ne eG xm eA pA
      have s3 : Same (cut [R] H) H3 := Same.trans sRL s2
      have naR : a ≠ R := fun e => (cut_some eA).1 (by simp [e])
      refine ⟨rfl, ?_⟩
      dsimp only [tYes]
      rw [if_pos rfl]
      refine ⟨_, rfl, _, _, _, _, G, R, a, _, x, kr, gk, kvs, rk, nx x, rfl, .inl (s3 _ _ eG), at1, va, nAG, s3 _ _ eA, paired_imp (fun _ _ ⟨e1, e2⟩ => ⟨e1, e2.same s3⟩) pA, go.wn x xm, go.l60 x xm, naR, .inr ⟨od, s2 _ _ upd_same⟩, hk, fun H4 L s4 nL hNT => ?_⟩
      have at2 := at1.same s4
      have hD := s4 _ _ hD2
      have nLD : L ≠ D := fun e => by rw [e, hD2] at nL; cases nL
      have l : kvK.length < sizeLine := by rw [keys_len g2.keys, List.length_take, sizeLine_eq]; omega
      have nn : x ∉ rk.take i := by have := not_before (gs := []) (ls := rk) (by simpa using rnd) hx; simpa using this
      have kk : Same (L2.upd H R (.frz od (obj kvs))) (L2.upd H4 D (obj (putK kvK (key x) (.ref L)))) ∧ ∃ kvK', (L2.upd H4 D (obj (putK kvK (key x) (.ref L)))) D = some (obj kvK') ∧ GRow (cut [D] (L2.upd H4 D (obj (putK kvK (key x) (.ref L))))) (subN nx rk) kvK' (rk.take (i + 1)) := by
        refine ⟨fun b u e => ?_, _, upd_same, ?_⟩
        · rw [upd_ne (ne_of_none e hD0)]; exact s4 _ _ (s2 _ _ e)
        · rw [cut_upd (q := D) (by simp), L2.putK_new _ (val_none nn g2.keys), take_succ_get hx]
          refine paired_snoc (g2.same (cut_same s4)) ⟨rfl, L, rfl, ?_⟩
          obtain ⟨kvL, eL, pL⟩ := hNT
          exact ⟨kvL, by rw [cut_out (by simpa using nLD)]; exact eL, paired_imp (fun _ _ ⟨e1, e2⟩ => ⟨e1, e2.map fun z ks ez => by rw [cut_out (fun m => by rw [List.mem_singleton.mp m, hD] at ez; cases ez)]; exact ez⟩) pL⟩
      have at2 : _ = V.str x := at2; exact ⟨_, key x, at2, hD, l, kk⟩
    rintro H2 ⟨s2, kvK, hD2, g2⟩
    rw [lk, List.take_length] at g2
    have fR := s2 _ _ upd_same
    refine ⟨fR, ?_⟩
    have s3 : Same H (L2.upd H2 R (obj kvs)) := Same.unlock hR s2
    have nD0 : H D = none := upd_none' hD0
    have gD : GrAt (L2.upd H2 R (obj kvs)) D (subN nx rk) rk := ⟨kvK, by rw [upd_ne nDR]; exact hD2, (g2.same cut_le).nf fun z o e nf => by rw [upd_ne (fun q => by rw [q, fR] at e; exact nf _ _ (Option.some.inj e).symm)]; exact e⟩
    have hR3 : (L2.upd H2 R (obj kvs)) R = some (obj kvs) := upd_same
    generalize (L2.upd H2 R (obj kvs)) = H3 at s3 gD hR3 ⊢
    refine ⟨_, rfl, ?_⟩
    refine lkeys rfl (show 4 < 7 by decide) hR3 hk rl (fun od => (tst_ask (a := .always) (b := .all) rfl rfl rfl (by decide) (show 4 < 7 by decide) (.inl (by
      obtain ⟨nb, e⟩ := cut_some hA
      rw [upd_ne (by simpa using nb)]; exact s3 _ _ e))).sub rin) (fun H4 L vs s4 nL hL hn => ?_)
    exact ⟨D, L, subN nx rk, rk, _, vs, baseQ ask rk, rfl, gD.same s4, go.sub rnd rin, hL, hn, rnd.filter _, fun x hx => (List.mem_filter.mp hx).1, fun x hx => by
      rw [List.mem_filter]
      exact Iff.rfl, fun H5 D2 ks s5 nD2 hD5 => k H5 D2 ks (Same.trans s3 (Same.trans s4 s5)) (Same.free (Same.trans s3 s4) nD2) hD5⟩
end
end Gs
end L2
namespace L2
namespace Gs
open PySem PySem.Spec PyProof.Rows D1 D2 X5 X6 X7 Kt
abbrev sParted : Stmt := top 29
/-- name = [x for x in d if p(x)] -/
theorem slkeys {i j : Nat} {tt : TT} {σ : St} {H : Hp} {D : Addr} {kvs : List (KK × V)} {ns : List Nd} {E : Ends} {l : Nat} (hi : σ[i]? = some (some (.ref D))) (hj : j < σ.length) (hD : H D = some (obj kvs)) (hk : kvs.map (·.1) = ns.map key) (ln : ns.length ≤ 3600) {p : Nd → Bool}
    (ht : ∀ od, TstAt tt σ j (L2.upd H D (.frz od (obj kvs))) ns p)
    (hq : ∀ H' L vs, Same H H' → H L = none → H' L = some (.lst vs) → NL H' vs (ns.filter p) → E.nx (σ.set l (some (.ref L))) H') : tLock (tAsg (tLc (iKeys (tVar i)) (gName j) tt (tVar j) [j]) (gName l)) E σ H :=
  lkeys (Q := fun x H' => E.nx (σ.set l (some x)) H') hi hj hD hk ln ht hq
/-- levels: some whole numbers for some nodes -/
structure Lvl (ns : List Nd) (kvs : List (KK × V)) (ls : List Nd) : Prop where
  ks : kvs.map (·.1) = ls.map key
  nd : ls.Nodup
  sub : ∀ x ∈ ls, x ∈ ns
  wh : ∀ e ∈ kvs, ∃ i : Int, e.2 = .int i
theorem Lvl.put {ns : List Nd} {kvs : List (KK × V)} {ls : List Nd} (h : Lvl ns kvs ls) {x : Nd} (xm : x ∈ ns) (i : Int) : ∃ ls', Lvl ns (putK kvs (key x) (.int i)) ls' := by
  by_cases c : x ∈ ls
  · refine ⟨ls, ?_, h.nd, h.sub, ?_⟩
    · unfold putK
      rw [if_pos (by rw [valV_any]; exact val_some c h.ks), List.map_map, ← h.ks]
      refine List.map_congr_left fun e _ => ?_
      show (if e.1 = key x then (e.1, V.int i) else e).1 = e.1
      split <;> rfl
    · unfold putK
      rw [if_pos (by rw [valV_any]; exact val_some c h.ks)]
      intro e he
      obtain ⟨f, hf, rfl⟩ := List.mem_map.mp he
      by_cases q : f.1 = key x
      · exact ⟨i, by rw [if_pos q]⟩
      · rw [if_neg q]; exact h.wh f hf
  · rw [L2.putK_new _ (val_none c h.ks)]
    refine ⟨ls ++ [x], by rw [List.map_append, List.map_append, h.ks]; rfl, nodup_app h.nd c, fun y hy => ?_, fun e he => ?_⟩
    · rcases List.mem_append.mp hy with m | m
      · exact h.sub y m
      · rw [List.mem_singleton.mp m]; exact xm
    · rcases List.mem_append.mp he with m | m
      · exact h.wh e m
      · rw [List.mem_singleton.mp m]; exact ⟨i, rfl⟩
theorem Lvl.len {ns : List Nd} {kvs : List (KK × V)} {ls : List Nd} (h : Lvl ns kvs ls) (l : ns.length ≤ 3600) : kvs.length ≤ 3600 := by
  rw [keys_len h.ks]; exact Nat.le_trans (pigeon ls ns h.nd h.sub) l
theorem cut_two {R L : Addr} {H H' : Hp} (s : Same (cut [R] H) (cut [R] H')) : Same (cut [R, L] H) (cut [R, L] H') := fun b o e => by
  obtain ⟨n, e⟩ := cut_some e
  have n1 : b ∉ [R] := fun m => n (by simp [List.mem_singleton.mp m])
  rw [cut_out n]
  exact (cut_some (s b o (by rw [cut_out n1]; exact e))).2
theorem sup_far {nx : Nd → List (Str × Nd)} {ask : Nd → Ask} {rs : List (Nd × Option Nd)} {x : Nd} (h : Sup (nx := sc nx) (ask := ask) rs x) : ∃ n, WnE (subN nx (rs.map (·.1))) (baseQ ask (rs.map (·.1))) n x := by
  induction h with
  | base a b => exact ⟨0, .zero ⟨List.mem_map_of_mem a, by unfold isBase; rcases b with b | b <;> rw [b] <;> rfl⟩⟩
  | on a b c sy ih =>
    obtain ⟨n, w⟩ := ih
    obtain ⟨t, ht, rfl⟩ := List.mem_map.mp c
    exact ⟨n + 1, .succ (List.mem_filter.mpr ⟨ht, decide_eq_true sy.mem⟩) w⟩
/-- the ranks of those that are kept -/
def RanksAt (H : Hp) (M : Addr) (nx : Nd → List (Str × Nd)) (ask : Nd → Ask) (rk ks : List Nd) : Prop := H M = some (obj (iKn (subN nx rk) (baseQ ask rk) ks)) ∧ ks.Nodup ∧ rk.Nodup ∧ (∀ x, x ∈ ks ↔ x ∈ rk) ∧ (∀ x, x ∈ rk ↔ Kept (sc nx) ask x) ∧ (∀ x ∈ ks, ∃ n, IsDE (subN nx rk) (baseQ ask rk) x n)
def spParted : Sp := fun vs H Q _ => ∃ (G A : Addr) (nx : Nd → List (Str × Nd)) (ask : Nd → Ask) (ns : List Nd), vs = [.ref G, .ref A] ∧ GO nx ns ∧ (∀ x, Kept (sc nx) ask x → x ∈ ns) ∧ (∀ x ∈ ns, SeqAt.shaped (dN x) = true) ∧ GrAt H G nx ns ∧ AskAt H A ask ns ∧
  ∀ H' T M L rk ks lk ls, Same H H' → H' T = some (.tup [.ref M, .ref L]) → RanksAt H' M nx ask rk ks → H M = none → H' L = some (obj lk) → Lvl ns lk ls → Q (.ref T) H'
section
variable {P : Program} {w : World} {K : PySem.W.Frag} {mg : Str → Option Value} {base : Heap} {C : Addr}
abbrev CFirst (P : Program) (w : World) (K : PySem.W.Frag) (mg : Str → Option Value) (base : Heap) := Cal P w K mg base "rests_at_first" 2 ["before", "asks"] spFirst
abbrev CGoing (P : Program) (w : World) (K : PySem.W.Frag) (mg : Str → Option Value) (base : Heap) := Cal P w K mg base "going_then" 2 ["graph", "before", "asks", "rests", "gone"] spGoing
abbrev CRanks (P : Program) (w : World) (K : PySem.W.Frag) (mg : Str → Option Value) (base : Heap) := Cal P w K mg base "ranks_of" 3 ["graph", "asks", "rests"] spRanks
abbrev paN : List Str := ["graph", "asks", "before", "rests", "levels", "level", "node", "going"]
theorem scPa : FnScope paN ["graph", "asks"] (defScope sParted) := ⟨rfl, rfl, rfl, by decide +kernel, rfl, by decide +kernel, by decide +kernel⟩
theorem ok_parted {f : Addr} {fd : FuncData} (F : Fun K "parted" "parted" sParted f fd) (CB : CBefN P w K mg base) (CF : CFirst P w K mg base) (CG : CGoing P w K mg base) (CR : CRanks P w K mg base) : FnOk P w K mg base CX0 4 f fd ["graph", "asks"] spParted := by
  refine F.ok scPa (fun vs H Q E h => ?_) (fun cdv A0 outer s H vs Q E hr h => ?_)
  · obtain ⟨G, A, nx, ask, ns, rfl, _⟩ := h; rfl
  · obtain ⟨G, A, nx, ask, ns, rfl, go, kin, sh, hG, hA, k⟩ := h
    have hu := hu_of hr
    refine ⟨_, pss_cons (ps_set (i := 2) scPa.nd rfl (Or.inl rfl) (pe_cal CB (hr.mono (by decide)) rfl (pa_cons (pv 0) pa_nil)))
      (pss_cons (ps_set (i := 3) scPa.nd rfl (Or.inr rfl) (pe_cal CF (hr.mono (by decide)) rfl (pa_cons (pv 2) (pa_cons (pv 1) pa_nil))))
      (pss_cons (ps_set (i := 4) scPa.nd rfl (Or.inl rfl) pe_dnewK)
      (pss_cons (ps_set (i := 5) scPa.nd rfl (Or.inl rfl) pe_int)
      (pss_cons (ps_lock (ps_setLc (i := 7) (own := [("node", 6)]) (g := gName 6) (tt := tB (tDNotIn (tVar 6) (tVar 3))) (te := tVar 6) rfl scPa.nd rfl rfl (sw_true rfl rfl rfl rfl) (pi_keys (pv 0)) (blkOk_by (N := paN) (sc := defScope sParted) (by decide +kernel))
          (fun _ _ _ _ _ => pg_name (i := 6) scPa.nd rfl (Or.inl rfl)) (fun _ _ _ _ _ => pts_one (pt_cmp (pc_dnotin hu (pv 6) (pv 3)) rfl)) (fun _ _ _ _ _ => pv 6)))
      (pss_cons (ps_while PassesOwn.never (pt_truth (pv 7) (fun _ => rfl))
        (pss_cons (ps_for PassesOwn.never rfl (pi_list (pv 7)) (pg_name (i := 6) scPa.nd rfl (Or.inl rfl)) (pss_one (ps_dput hu (pv 4) (pv 6) (pv 5) rfl)))
        (pss_cons (ps_set (i := 7) scPa.nd rfl (Or.inl rfl) (pe_cal CG (hr.mono (by decide)) rfl (pa_cons (pv 0) (pa_cons (pv 2) (pa_cons (pv 1) (pa_cons (pv 3) (pa_cons (pv 7) pa_nil)))))))
        (pss_one (ps_aug (i := 5) scPa.nd rfl (Or.inl rfl) pe_int ip_add)))))
      (pss_one (ps_ret (pe_tup (pa_cons (pe_cal CR (hr.mono (by decide)) rfl (pa_cons (pv 0) (pa_cons (pv 1) (pa_cons (pv 3) pa_nil)))) (pa_cons (pv 4) pa_nil)))))))))), ?_⟩
    refine ⟨_, rfl, G, nx, ns, rfl, hG, go, fun H1 Bf s1 nBf hBf => ?_⟩
    refine ⟨_, rfl, _, rfl, Bf, A, nx, ask, ns, rfl, go, hBf, s1 _ _ hA, fun H2 R kv0 rs0 s2 nR hR2 hE2 fi => ?_⟩
    intro L nL
    have nRL : R ≠ L := ne_of_none hR2 nL
    have sC : Same (cut [R] H2) (cut [R, L] (L2.upd H2 L (obj []))) := fun b o e => by
      obtain ⟨nb, e⟩ := cut_some e
      have n : b ≠ L := ne_of_none e nL
      rw [cut_out (fun m => by
        rcases List.mem_cons.mp m with q | m
        · exact nb (by simp [q])
        · exact n (List.mem_singleton.mp m)), upd_ne n]
      exact e
    have hL3 : (L2.upd H2 L (obj [])) L = some (obj []) := upd_same
    have hR3 : (L2.upd H2 L (obj [])) R = some (obj kv0) := by rw [upd_ne nRL]; exact hR2
    have sH : Same H (cut [R] H2) := Same.trans s1 s2
    have hBf := hBf.same s2
    have hG := hG.same sH
    have hA := sH _ _ hA
    have nR0 : H R = none := s1.free nR
    have nL0 : H L = none := (Same.trans sH cut_le).free nL
    show tLock _ _ _ (L2.upd H2 L (obj []))
    generalize (L2.upd H2 L (obj [])) = H3 at sC hL3 hR3 ⊢
    clear nL hR2 s1 s2 nR nBf
    generalize hB : cut [R] H2 = B at *
    clear hB
    obtain ⟨gk, eG, gr⟩ := hG
    have eG3 := cut_le _ _ (sC _ _ eG)
    have nGR : R ≠ G := fun e => by subst e; exact (cut_some (sC _ _ eG)).1 (by simp)
    refine slkeys rfl (show 6 < 8 by decide) eG3 gr.keys go.len (fun od => tst_nin rfl (by decide) (show 6 < 8 by decide) (.inl (by rw [upd_ne nGR]; exact hR3)) hE2.keys) (fun H4 Gl us s4 nGl hGl hU => ?_)
    have hR4 := s4 _ _ hR3
    have hL4 := s4 _ _ hL3
    have nGlR : Gl ≠ R := fun e => by rw [e, hR3] at nGl; cases nGl
    have nGlL : Gl ≠ L := fun e => by rw [e, hL3] at nGl; cases nGl
    have s4' : Same B (cut [R, L] H4) := Same.trans sC (cut_same s4)
    have tw : ∀ {H' : Hp} {kv lk : List (KK × V)}, H' R = some (obj kv) → H' L = some (obj lk) → ∀ q ∈ [R, L], ∀ ys, H' q ≠ some (.tup ys) := fun {H' kv lk} h1 h2 q hq ys e => by
      rcases List.mem_cons.mp hq with m | m
      · rw [m, h1] at e; cases e
      · rw [List.mem_singleton.mp m, h2] at e; cases e
    refine ⟨fun m σ H' => ∃ (rs : List (Nd × Option Nd)) (going ls : List Nd) (kv lk : List (KK × V)) (zs : List V) (Gl : Addr) (lv : Int) (v6 : Option V), σ = [some (.ref G), some (.ref A), some (.ref Bf), some (.ref R), some (.ref L), some (.int lv), v6, some (.ref Gl)] ∧ Same B (cut [R, L] H') ∧ H' R = some (obj kv) ∧ Ents (cut [R, L] H') kv rs ∧ H' L = some (obj lk) ∧ Lvl ns lk ls ∧
        (cut [R, L] H') Gl = some (.lst zs) ∧ NL (cut [R, L] H') zs going ∧ Rest (sc nx) ask ns rs going ∧ (∀ x y, (x, some y) ∈ rs → y ∈ sc nx x) ∧ m = rs.length + (if going = [] then 0 else 1),
      ⟨_, rs0, _, [], kv0, [], us, Gl, 0, _, rfl, s4', hR4, hE2.same s4', hL4, ⟨rfl, List.nodup_nil, fun x h => (by cases h), fun e h => (by cases h)⟩, by rw [cut_out (by simp [nGlR, nGlL])]; exact hGl, hU.cut (tw hR4 hL4), fi.rest go.nd (fun x hx y hy => go.sc hx hy) kin, fi.pt, rfl⟩, ?_⟩
    clear hR3 hL3 sC eG3 nGl hGl hU hR4 hL4 nGlR nGlL s4 s4' hE2 fi
    rintro m σ H5 ⟨rs, going, ls, kv, lk, zs, Gl, lv, v6, rfl, s5, hR5, hE5, hL5, lvl, hGl5, hz5, rest, pt, rfl⟩
    refine ⟨_, rfl, _, .inl ⟨_, SqL.of (cut_le _ _ hGl5), rfl⟩, ?_⟩
    have lz : zs.length = going.length := paired_len hz5
    by_cases hls : going = []
    · subst hls
      have : zs = [] := List.length_eq_zero_iff.mp lz
      subst this
      refine (if_neg (by decide)).mpr ?_
      have s5R : Same B (cut [R] H5) := Same.trans s5 (cut_mono fun b hb => by simp [List.mem_singleton.mp hb])
      refine ⟨_, rfl, _, rfl, _, rfl, G, A, R, nx, ask, ns, rs.map (·.1), kv, rfl, go, GrAt.same ⟨gk, eG, gr⟩ s5R, s5R _ _ hA, hR5, hE5.keys, rest.nd, fun x hx => ?_, fun H6 M ks s6 nM hM kl kiff knd ksub => ?_⟩
      · obtain ⟨r, hr, rfl⟩ := List.mem_map.mp hx; exact rest.inn r hr
      · refine ⟨_, rfl, (show 2 ≤ sizeLine by rw [sizeLine_eq]; decide), fun T hT => ?_⟩
        have dn := rest.done
        have nMT : M ≠ T := ne_of_none hM hT
        have hL6 := s6 _ _ hL5
        have nLT : L ≠ T := ne_of_none hL6 hT
        have far : ∀ x ∈ rs.map (·.1), ∃ n, IsDE (subN nx (rs.map (·.1))) (baseQ ask (rs.map (·.1))) x n := fun x hx => by
          obtain ⟨n, w⟩ := sup_far (rest.sup x hx)
          obtain ⟨m, _, d⟩ := least_ofE w
          exact ⟨m, d⟩
        refine k _ T M L (rs.map (·.1)) ks lk ls (Same.trans sH (Same.trans s5 (Same.trans cut_le (Same.trans s6 (Same.new hT))))) upd_same ⟨by rw [upd_ne nMT]; exact hM, knd, rest.nd, fun x => ⟨ksub x, fun h => (kiff x h).mpr (far x h)⟩, fun x => ⟨fun h => ?_, fun h => rest.kp x (kin x h) h⟩, fun x h => far x (ksub x h)⟩ ((Same.trans sH (Same.trans s5 cut_le)).free nM) (by rw [upd_ne nLT]; exact hL6) lvl
        obtain ⟨r, hr, rfl⟩ := List.mem_map.mp h
        exact (dn _ (rest.inn r hr)).mp (List.mem_map_of_mem hr)
    have npos : zs.isEmpty = false := by
      cases zs with
      | nil => exact absurd (List.length_eq_zero_iff.mp lz.symm) hls
      | cons _ _ => rfl
    refine (if_pos (by rw [npos]; rfl)).mpr ⟨_, fun σ' H' h => h, ?_⟩
    obtain ⟨nGlS, hGl5'⟩ := cut_some hGl5
    have nGlR : Gl ≠ R := fun e => nGlS (by simp [e])
    have nGlL : Gl ≠ L := fun e => nGlS (by simp [e])
    refine ⟨_, rfl, Gl, rfl, ⟨_, SqL.of hGl5'⟩, ?_⟩
    refine for_list (K := K) (a := Gl) (xs := zs) (fun i σ H' => ∃ (ls : List Nd) (lk : List (KK × V)) (v6 : Option V), σ = [some (.ref G), some (.ref A), some (.ref Bf), some (.ref R), some (.ref L), some (.int lv), v6, some (.ref Gl)] ∧ Same (cut [R, L] H5) (cut [R, L] H') ∧ H' R = some (obj kv) ∧ H' L = some (obj lk) ∧ Lvl ns lk ls)
      ⟨ls, lk, v6, rfl, Same.refl _, hR5, hL5, lvl⟩
      (fun i σ H' _ ⟨_, _, _, _, z, _⟩ => SqL.of (cut_le _ _ (z _ _ hGl5))) ?_ ?_
    · rintro i v σ H6 hv ⟨ls, lk, v6, rfl, s6, hR6, hL6, lvl⟩
      obtain ⟨x, hx, hax⟩ := paired_get hz5 hv
      have xm := (rest.gn x (List.mem_of_getElem? hx)).1
      obtain ⟨ls', lvl'⟩ := lvl.put xm lv
      have ll := lvl.len go.len
      refine ⟨_, rfl, _, rfl, _, rfl, L, _, rfl, dput hL6 ((hax.same s6).same cut_le) (by rw [sizeLine_eq]; omega), ?_⟩
      exact ⟨ls', _, _, rfl, by rw [cut_upd (q := L) (by simp)]; exact s6, by rw [upd_ne nRL]; exact hR6, upd_same, lvl'⟩
    rintro σ H6 ⟨ls, lk, v6, rfl, s6, hR6, hL6, lvl⟩
    have s56 : Same B (cut [R, L] H6) := Same.trans s5 s6
    have mo : ∀ {H' : Hp}, Same (cut [R, L] H') (cut [R] H') := fun {H'} => cut_mono fun b hb => by simp [List.mem_singleton.mp hb]
    have s6R : Same B (cut [R] H6) := Same.trans s56 mo
    refine ⟨_, rfl, _, rfl, _, rfl, _, rfl, _, rfl, G, Bf, A, R, Gl, nx, ask, ns, going, rs, kv, zs, rfl, go, kin, sh, GrAt.same ⟨gk, eG, gr⟩ s6R, hBf.same s6R, s6R _ _ hA, hR6, (hE5.same s6).same mo, mo _ _ (s6 _ _ hGl5), (hz5.same s6).same mo, rest, pt, fun H7 kv7 L7 vs7 rs7 g7 s7 hR7 hE7 hL7 hz7 rest7 pt7 le7 => ?_⟩
    have hLL : H7 L = some (obj lk) := cut_le _ _ (s7 _ _ (by rw [cut_out (by simpa using nRL.symm)]; exact hL6))
    obtain ⟨nL7, hL7'⟩ := cut_some hL7
    have n7R : L7 ≠ R := fun e => nL7 (by simp [e])
    have n7L : L7 ≠ L := fun e => by rw [e, hLL] at hL7'; cases hL7'
    have tz : ∀ z ks, (cut [R] H7) z = some (.tup ks) → (cut [R, L] H7) z = some (.tup ks) := fun z ks e => cut_notr (cut_le _ _ e) (tw hR7 hLL)
    refine ⟨_, rfl, _, _, rfl, rfl, _, ?_, rs7, g7, ls, kv7, lk, vs7, L7, _, _, rfl, Same.trans s56 (cut_two s7), hR7, hE7.map tz, hLL, lvl, by rw [cut_out (by simp [n7R, n7L])]; exact hL7', hz7.map tz, rest7, pt7, rfl⟩
    rw [if_neg hls]
    by_cases h : g7 = []
    · rw [if_pos h]; omega
    · rw [if_neg h]
      have : 0 < g7.length := List.length_pos_iff.mpr h
      omega
end
end Gs
end L2
namespace L2
namespace D1
open PySem PySem.Spec PyProof.Rows D2 X5 X6 X7 Kt
def askK (k : Str) : Ask := if k = "done" then .always else if k = "says" then .nearer else if k = "hears" then .some else .never
def vnx (bk : Bk) (x : Str) : List (Str × Str) := (rowOf bk x).2
def vask (bk : Bk) (x : Str) : Ask := askK (rowOf bk x).1
/-- rows whose viability can be asked -/
structure VOk (bk : Bk) : Prop where
  nd : (bk.map (·.1)).Nodup
  len : bk.length ≤ 3600
  l60 : ∀ r ∈ bk, r.2.2.length ≤ 60
  cl : ∀ r ∈ bk, ∀ t ∈ r.2.2, t.2 ∈ bk.map (·.1)
  wn : ∀ r ∈ bk, (r.2.2.map (·.1)).Nodup
  kd : ∀ r ∈ bk, r.2.1 = "says" ∨ r.2.1 = "hears" ∨ r.2.1 = "done"
  wd : ∀ r ∈ bk, Wd r.1
  dn : ∀ r ∈ bk, r.2.1 = "done" → r.2.2 = []
theorem DOk.vok {bk : Bk} {st : Str} (h : DOk bk st) : VOk bk :=
  ⟨h.nd, Nat.le_trans h.len (by decide), h.len2, fun r hr => (h.rs r hr).2.2, h.tk, fun r hr => flip_kind (h.rs r hr).2.1, fun r hr => (h.rs r hr).1, fun r hr e => by
    rcases (h.rs r hr).2.1 with a | a
    · exact a.2
    · rw [e] at a; rcases a.1 with q | q <;> exact absurd q (by decide +kernel)⟩
theorem rowOf_no {bk : Bk} {x : Str} (h : x ∉ bk.map (·.1)) : rowOf bk x = (("" : Str), []) := by
  unfold rowOf
  have : bk.find? (fun r => decide (r.1 = x)) = none := List.find?_eq_none.mpr fun r hr e => h (by rw [← of_decide_eq_true e]; exact List.mem_map_of_mem hr)
  rw [this]; rfl
theorem vask_in {bk : Bk} {x : Str} (h : vask bk x ≠ .never) : x ∈ bk.map (·.1) := by
  refine Classical.byContradiction fun n => h ?_
  unfold vask
  rw [rowOf_no n]
  decide +kernel
theorem kept_in {bk : Bk} {nx : Str → List Str} : ∀ x, Kept nx (vask bk) x → x ∈ bk.map (·.1) := fun x k => vask_in k.notn
theorem VOk.go {bk : Bk} (h : VOk bk) : Gs.GO (vnx bk) (bk.map (·.1)) := by
  refine ⟨h.nd, by rw [List.length_map]; exact h.len, fun x hx => ?_, fun x hx t ht => ?_, fun x hx => ?_⟩
  all_goals
    have m := row_mem hx
  · exact h.l60 _ m
  · exact h.cl _ m t ht
  · exact h.wn _ m
theorem kT_nt {H : Hp} : ∀ ts : List (Str × Str), Paired (fun (kv : Key × V) (t : Str × Str) => kv.1 = Sum.inr t.1 ∧ Gs.At H kv.2 t.2) (kT ts) ts
  | [] => .nil
  | _ :: r => .cons ⟨rfl, rfl⟩ (kT_nt r)
theorem turns_nt {H : Hp} {a : Addr} {ts : List (Str × Str)} (h : TurnsAt H a ts) : Gs.NT H a ts := ⟨kT ts, h, kT_nt ts⟩
/-- a row, apart from its dict -/
theorem Rows.apart {H : Hp} {B : Addr} {kvs : List (Key × V)} {bk : Bk} (hR : Rows H kvs bk) (hB : H B = some (.dK kvs)) {x : Str} (hx : x ∈ bk.map (·.1)) : ∃ t a, valV kvs (.inr x) = some (.ref t) ∧ t ≠ B ∧ a ≠ B ∧ H t = some (.tup [.str (rowOf bk x).1, .ref a]) ∧ TurnsAt H a (rowOf bk x).2 := by
  obtain ⟨v, ev, ⟨t, a, rfl, ht, ha⟩, _⟩ := hR.look hx
  refine ⟨t, a, ev, fun e => (by rw [e, hB] at ht; cases ht), fun e => ?_, ht, ha⟩
  subst e
  rw [TurnsAt, hB] at ha
  have ha : kvs = kT (rowOf bk x).2 := HO.dK.inj (Option.some.inj ha)
  rw [ha, valV_kT] at ev
  obtain ⟨u, _, e2⟩ := Option.map_eq_some_iff.mp ev
  cases e2
theorem rows_nf {H H' : Hp} {kvs : List (Key × V)} {bk : Bk} (h : Rows H kvs bk) (s : ∀ z o, H z = some o → (∀ od f, o ≠ .frz od f) → H' z = some o) : Rows H' kvs bk :=
  paired_imp (fun _ _ ⟨e1, t, a, e2, e3, e4⟩ => ⟨e1, t, a, e2, s _ _ e3 fun _ _ e => (by cases e), s _ _ e4 fun _ _ e => (by cases e)⟩) h
/-- the module's table of what is asked -/
structure AsT (K : PySem.W.Frag) (w : World) (mg : Str → Option Value) : Prop where
  ex : ∃ (d : Addr) (es : Array DictEntry) (n : Nat) (t1 t2 t3 : Tok), mg "ASKS" = some (.ref d) ∧ KDict K w d es n ∧ PySem.W.nsIn K d "done" = some (some (.str "always" t1)) ∧ PySem.W.nsIn K d "says" = some (some (.str "nearer" t2)) ∧ PySem.W.nsIn K d "hears" = some (some (.str "some" t3))
abbrev sViab : Stmt := top 38
abbrev sVRanks : Stmt := top 39
def spViab : Sp := fun vs H Q _ => ∃ (B : Addr) (bk : Bk), vs = [.ref B] ∧ BookAt H B bk ∧ VOk bk ∧
  ∀ H' T M L rk ks lk ls, Same H H' → H' T = some (.tup [.ref M, .ref L]) → Gs.RanksAt H' M (vnx bk) (vask bk) rk ks → H M = none → H' L = some (.dK lk) → Gs.Lvl (bk.map (·.1)) lk ls → Q (.ref T) H'
def spVRanks : Sp := fun vs H Q _ => ∃ (B : Addr) (bk : Bk), vs = [.ref B] ∧ BookAt H B bk ∧ VOk bk ∧ ∀ H' M rk ks, Same H H' → Gs.RanksAt H' M (vnx bk) (vask bk) rk ks → H M = none → Q (.ref M) H'
section
variable {P : Program} {w : World} {K : PySem.W.Frag} {mg : Str → Option Value} {base : Heap} {C : Addr}
abbrev CPartV (P : Program) (w : World) (K : PySem.W.Frag) (mg : Str → Option Value) (base : Heap) := Cal P w K mg base "parted" 4 ["graph", "asks"] Gs.spParted
abbrev CViab (P : Program) (w : World) (K : PySem.W.Frag) (mg : Str → Option Value) (base : Heap) := Cal P w K mg base "viability" 5 ["rows"] spViab
abbrev viN : List Str := ["rows", "graph", "state"]
theorem scVi : FnScope viN ["rows"] (defScope sViab) := ⟨rfl, rfl, rfl, by decide +kernel, rfl, by decide +kernel, by decide +kernel⟩
theorem ok_viab {f : Addr} {fd : FuncData} (F : Fun K "viability" "viability" sViab f fd) (U : AsT K w mg) (CP : CPartV P w K mg base) : FnOk P w K mg base CX0 5 f fd ["rows"] spViab := by
  obtain ⟨d, es, dn, t1, t2, t3, mU, kd, u1, u2, u3⟩ := U.ex
  refine F.ok scVi (fun vs H Q E h => ?_) (fun cdv A0 outer s H vs Q E hr h => ?_)
  · obtain ⟨B, bk, rfl, _⟩ := h; rfl
  · obtain ⟨B, bk, rfl, ⟨kvs, hB, hR⟩, ok, k⟩ := h
    have hu := hu_of hr
    refine ⟨_, pss_cons (ps_lock (X7.ps_setDcK (i := 1) (own := [("state", 2)]) (g := gName 2) (tt := tYes) (tk := tVar 2) (tv := tOp (rIxT K) (tDGet (tVar 0) (tVar 2)) (tC (.int 1))) rfl scVi.nd rfl rfl (sw_trueD rfl rfl (by rfl) (by decide +kernel)) (pi_keys (pv 0)) (blkOk_by (N := viN) (sc := defScope sViab) (by decide +kernel))
          (fun _ _ _ _ _ => pg_name (i := 2) scVi.nd rfl (Or.inl rfl)) (fun _ _ _ _ _ => pts_nil) (fun _ _ _ _ _ => pv 2) (fun _ _ _ _ _ => pe_ix ix_tup (pe_dget hu (pv 0) (pv 2) (fun _ _ => rfl)) pe_int (fun _ _ => rfl))))
      (pss_one (ps_ret (pe_cal CP (hr.mono (by decide)) rfl (pa_cons (pv 1) (pa_cons (pe_lock (pe_dc (own := [("state", 2)]) (g := gName 2) (tt := tYes) (tk := tVar 2)
          (tv := tOp (rKd K d) (tC (.ref d)) (tOp (rIxT K) (tDGet (tVar 0) (tVar 2)) (tC (.int 0)))) rfl scVi.nd (pi_keys (pv 0))
        (blkOk_by (N := viN) (sc := defScope sViab) (by decide +kernel)) (fun _ _ _ _ _ => pg_name (i := 2) scVi.nd rfl (Or.inl rfl)) (fun _ _ _ _ _ => pts_nil) (fun _ _ _ _ _ => pv 2)
        (fun _ _ _ _ _ => pe_ix (ix_kd kd) (pe_glob (v := .ref d) rfl mU rfl) (pe_ix ix_tup (pe_dget hu (pv 0) (pv 2) (fun _ _ => rfl)) pe_int (fun _ _ => rfl)) (fun _ _ => rfl)))) pa_nil))))), ?_⟩
    have hl : kvs.length = bk.length := hR.len
    have hkk : kvs.map (·.1) = (bk.map (·.1)).map Gs.key := by rw [hR.keys, List.map_map]; rfl
    refine ⟨B, _, hB, trivial, fun od => ⟨_, rfl, B, od, rfl, .inl ⟨kvs, upd_same, fun D hD => ?_⟩⟩⟩
    have nD : D ≠ B := fun e => by rw [e, upd_same] at hD; cases hD
    have hD0 : H D = none := upd_none' hD
    have sL : ∀ {od : Obj} {z : Addr} {o : HO}, z ≠ B → H z = some o → (L2.upd H B (.frz od (.dK kvs))) z = some o := fun {od z o} n e => by rw [upd_ne n]; exact e
    have rB : ∀ {x : Str}, x ∈ bk.map (·.1) → ∃ t a, valV kvs (.inr x) = some (.ref t) ∧ t ≠ B ∧ a ≠ B ∧ H t = some (.tup [.str (rowOf bk x).1, .ref a]) ∧ TurnsAt H a (rowOf bk x).2 := fun hx => hR.apart hB hx
    refine dc_it (walk_keys (d := B) (o := od) (kvs := kvs)) (fun i H' => Same (L2.upd H B (.frz od (.dK kvs))) H' ∧ ∃ kvK, H' D = some (.dK kvK) ∧ Gs.GRow H (vnx bk) kvK ((bk.map (·.1)).take i)) ⟨Same.new hD, [], upd_same, .nil⟩ (fun i H' _ z => z.1 _ _ upd_same) ?_ ?_
    · rintro i xv H2 H3 hi ⟨s2, kvK, hD2, g2⟩ ⟨rfl, k0, v0, hkv, rfl⟩
      obtain ⟨x, hx, ek⟩ := Gs.keys_at hkk hkv
      have ek : k0 = .inr x := ek
      subst ek
      have xm := List.mem_of_getElem? hx
      obtain ⟨t, a, ev, nt, na, ht, ha⟩ := rB xm
      refine ⟨rfl, ?_⟩
      dsimp only [tYes]
      rw [if_pos rfl]
      have dg : DGet H3 B (V.str x) (some (.ref t)) := .inl ⟨kvs, .inr x, .inr ⟨od, s2 _ _ upd_same⟩, rfl, ev.symm⟩
      have nn : x ∉ (bk.map (·.1)).take i := by have := not_before (gs := []) (ls := bk.map (·.1)) (by simpa using ok.nd) hx; simpa using this
      have lK : kvK.length ≤ 3600 := by
        rw [Gs.keys_len g2.keys, List.length_take, List.length_map]
        have := ok.len
        omega
      refine ⟨_, rfl, _, rfl, _, rfl, B, _, rfl, dg, t, _, _, _, rfl, rfl, SqT.of (s2 _ _ (sL nt ht)), atI_nat (j := 1) rfl, ?_⟩
      refine ⟨kvK, .inr x, rfl, hD2, by rw [sizeLine_eq]; omega, fun c u e => ?_, _, upd_same, ?_⟩
      · rw [upd_ne (ne_of_none e hD)]; exact s2 _ _ e
      · rw [L2.putK_new _ (Gs.val_none nn g2.keys), take_succ_get hx]
        exact paired_snoc g2 ⟨rfl, a, rfl, turns_nt ha⟩
    rintro H2 ⟨s2, kvK, hD2, g2⟩
    rw [hl, ← List.length_map (·.1), List.take_length] at g2
    refine ⟨s2 _ _ upd_same, ?_⟩
    have s3 : Same H (L2.upd H2 B (.dK kvs)) := Same.unlock hB s2
    have hD3 : (L2.upd H2 B (.dK kvs)) D = some (.dK kvK) := by rw [upd_ne nD]; exact hD2
    generalize (L2.upd H2 B (.dK kvs)) = H3 at s3 hD3 ⊢
    have hB3 := s3 _ _ hB
    refine ⟨_, rfl, ?_⟩
    refine ⟨B, _, hB3, trivial, fun od => ⟨_, rfl, B, od, rfl, .inl ⟨kvs, upd_same, fun A hA => ?_⟩⟩⟩
    have nA : A ≠ B := fun e => by rw [e, upd_same] at hA; cases hA
    have nAD : D ≠ A := fun e => by rw [← e, upd_ne nD, hD3] at hA; cases hA
    refine dc_it (walk_keys (d := B) (o := od) (kvs := kvs)) (fun i H' => Same (L2.upd H3 B (.frz od (.dK kvs))) H' ∧ H' A = some (.dK (Gs.askD (vask bk) ((bk.map (·.1)).take i)))) ⟨Same.new hA, by rw [upd_same, List.take_zero]; rfl⟩ (fun i H' _ z => z.1 _ _ upd_same) ?_ ?_
    · rintro i xv H4 H5 hi ⟨s4, hA4⟩ ⟨rfl, k0, v0, hkv, rfl⟩
      obtain ⟨x, hx, ek⟩ := Gs.keys_at hkk hkv
      have ek : k0 = .inr x := ek
      subst ek
      have xm := List.mem_of_getElem? hx
      obtain ⟨t, a, ev, nt, na, ht, ha⟩ := rB xm
      refine ⟨rfl, ?_⟩
      dsimp only [tYes]
      rw [if_pos rfl]
      have dg : DGet H5 B (V.str x) (some (.ref t)) := .inl ⟨kvs, .inr x, .inr ⟨od, s4 _ _ upd_same⟩, rfl, ev.symm⟩
      have ht5 : H5 t = some (.tup [.str (rowOf bk x).1, .ref a]) := s4 _ _ (by rw [upd_ne nt]; exact s3 _ _ ht)
      have nn : x ∉ (bk.map (·.1)).take i := by have := not_before (gs := []) (ls := bk.map (·.1)) (by simpa using ok.nd) hx; simpa using this
      have kd3 : ∃ u0, PySem.W.nsIn K d (rowOf bk x).1 = some (some u0) ∧ RelV (.str (Gs.askS (vask bk x))) u0 := by
        unfold vask
        rcases ok.kd _ (row_mem xm) with a | a | a <;> (have a : (rowOf bk x).1 = _ := a) <;> rw [a]
        · exact ⟨_, u2, t2, by rw [show Gs.askS (askK "says") = "nearer" by decide +kernel]⟩
        · exact ⟨_, u3, t3, by rw [show Gs.askS (askK "hears") = "some" by decide +kernel]⟩
        · exact ⟨_, u1, t1, by rw [show Gs.askS (askK "done") = "always" by decide +kernel]⟩
      obtain ⟨u0, n0, r0⟩ := kd3
      refine ⟨_, rfl, _, rfl, _, rfl, B, _, rfl, dg, t, _, _, _, rfl, rfl, SqT.of ht5, atI_nat (j := 0) rfl, (rowOf bk x).1, u0, .str (Gs.askS (vask bk x)), rfl, rfl, n0, r0, ?_⟩
      refine ⟨_, .inr x, rfl, hA4, ?_, fun c u e => ?_, ?_⟩
      · rw [Gs.askD, List.length_map, List.length_take, List.length_map, sizeLine_eq]
        have := ok.len
        omega
      · rw [upd_ne (ne_of_none e hA)]; exact s4 _ _ e
      · rw [upd_same, L2.putK_new _ (Gs.val_none nn (Gs.askD_keys _ _)), take_succ_get hx, Gs.askD, Gs.askD, List.map_append]; rfl
    rintro H4 ⟨s4, hA4⟩
    rw [hl, ← List.length_map (·.1), List.take_length] at hA4
    refine ⟨s4 _ _ upd_same, ?_⟩
    have s5 : Same H3 (L2.upd H4 B (.dK kvs)) := Same.unlock hB3 s4
    have hA5 : (L2.upd H4 B (.dK kvs)) A = some (.dK (Gs.askD (vask bk) (bk.map (·.1)))) := by rw [upd_ne nA]; exact hA4
    refine ⟨D, A, vnx bk, vask bk, bk.map (fun r : RowD => r.1), rfl, ok.go, kept_in, fun x hx => ?_, ⟨kvK, s5 _ _ hD3, g2.same (Same.trans s3 s5)⟩, hA5, fun H' T M L rk ks lk ls s6 hT hM nM hL lvl => k H' T M L rk ks lk ls (Same.trans s3 (Same.trans s5 s6)) hT hM ((Same.trans s3 s5).free nM) hL lvl⟩
    have l := lay_str (ok.wd _ (row_mem hx))
    unfold SeqAt.shaped Gs.dN
    rw [l]; rfl
abbrev vrN : List Str := ["rows", "ranks", "_"]
theorem scVr : FnScope vrN ["rows"] (defScope sVRanks) := ⟨rfl, rfl, rfl, by decide +kernel, rfl, by decide +kernel, by decide +kernel⟩
theorem ok_vranks {f : Addr} {fd : FuncData} (F : Fun K "viable_ranks" "viable_ranks" sVRanks f fd) (CV : CViab P w K mg base) : FnOk P w K mg base CX0 6 f fd ["rows"] spVRanks := by
  refine F.ok scVr (fun vs H Q E h => ?_) (fun cdv A0 outer s H vs Q E hr h => ?_)
  · obtain ⟨B, bk, rfl, _⟩ := h; rfl
  · obtain ⟨B, bk, rfl, hB, ok, k⟩ := h
    have hu := hu_of hr
    refine ⟨_, pss_cons (ps_asg (pe_cal CV (hr.mono (by decide)) rfl (pa_cons (pv 0) pa_nil)) (pg_tup rfl (pgs_cons (pg_name (i := 1) scVr.nd rfl (Or.inl rfl)) (pgs_cons (pg_name (i := 2) scVr.nd rfl (Or.inl rfl)) pgs_nil))))
      (pss_one (ps_ret (pv 1))), ?_⟩
    refine ⟨_, rfl, B, bk, rfl, hB, ok, fun H' T M L rk ks lk ls s1 hT hM nM hL lvl => ?_⟩
    exact ⟨T, _, rfl, SqT.of hT, rfl, _, _, rfl, _, _, rfl, rfl, _, rfl, k H' M rk ks s1 hM nM⟩
end
end D1
end L2
namespace L2
namespace D1
open PySem PySem.Spec PyProof.Rows D2 X5 X6 X7 Kt
theorem kT_get {ts : List (Str × Str)} (nd : (ts.map (·.1)).Nodup) {t : Str × Str} (h : t ∈ ts) : valV (kT ts) (.inr t.1) = some (.str t.2) := by
  induction ts with
  | nil => cases h
  | cons u r ih =>
    have n := List.nodup_cons.mp nd
    rcases List.mem_cons.mp h with e | h
    · subst e; exact valV_pos rfl
    · refine (valV_neg fun e => ?_).trans (ih n.2 h)
      have e : u.1 = t.1 := Sum.inr.inj e
      have m : t.1 ∈ r.map (·.1) := List.mem_map_of_mem h
      rw [← e] at m; exact n.1 m
theorem kT_no {ts : List (Str × Str)} {wd : Str} (h : wd ∉ ts.map (·.1)) : valV (kT ts) (.inr wd) = none := Gs.w_fresh (H := fun _ => none) (kT_nt ts) h
theorem kT_snoc (ts : List (Str × Str)) (t : Str × Str) : kT ts ++ [(Sum.inr t.1, V.str t.2)] = kT (ts ++ [t]) := by rw [kT, kT, List.map_append]; rfl
end D1
end L2
namespace L2
namespace Kt
end Kt
end L2
namespace L2
namespace Kt
section
variable {α : Type} {nx : α → List α} {ask : α → Ask}
/-- x is near, by those found and by those kept so far -/
def TstP (nx : α → List α) (ask : α → Ask) (ks ns : List α) (x : α) : Prop := ask x = .always ∨ ((∃ g ∈ nx x, g ∈ ns) ∧ (ask x = .some ∨ (ask x = .nearer ∧ ∀ g ∈ nx x, g ∈ ks)))
/-- those found near, among those kept so far -/
structure NearL (nx : α → List α) (ask : α → Ask) (ks ns : List α) : Prop where
  nd : ns.Nodup
  so : ∀ x ∈ ns, Near nx ask (fun x => x ∈ ks) x
theorem NearL.sub {ks ns : List α} (h : NearL nx ask ks ns) {x : α} (m : x ∈ ns) : x ∈ ks := (h.so x m).inS
theorem NearL.nil {ks : List α} : NearL nx ask ks [] := ⟨List.nodup_nil, fun x h => (by cases h)⟩
theorem NearL.add {ks ns : List α} (h : NearL nx ask ks ns) {x : α} (n : x ∉ ns) (hx : x ∈ ks) (t : TstP nx ask ks ns x) : NearL nx ask ks (ns ++ [x]) := by
  refine ⟨List.nodup_append.mpr ⟨h.nd, by simp, fun a ha b hb e => ?_⟩, fun y hy => ?_⟩
  · have : b = x := by simpa using hb
    exact n (by rw [← this, ← e]; exact ha)
  · rcases List.mem_append.mp hy with m | m
    · exact h.so y m
    · rw [List.mem_singleton.mp m]
      rcases t with a | ⟨⟨g, hg, gn⟩, a | ⟨a, al⟩⟩
      · exact .always hx a
      · exact .some hx a hg (h.so g gn)
      · exact .nearer hx a al hg (h.so g gn)
/-- .. all of them -/
def ClosedL (nx : α → List α) (ask : α → Ask) (ks ns : List α) : Prop := ∀ x ∈ ks, TstP nx ask ks ns x → x ∈ ns
theorem ClosedL.all {ks ns : List α} (c : ClosedL nx ask ks ns) (na : ∀ x, ask x ≠ .all) {x : α} (h : Near nx ask (fun x => x ∈ ks) x) : x ∈ ns := by
  induction h with
  | always a b => exact c _ a (.inl b)
  | all a b _ => exact absurd b (na _)
  | some a b d _ ih => exact c _ a (.inr ⟨⟨_, d, ih⟩, .inl b⟩)
  | nearer a b d e _ ih => exact c _ a (.inr ⟨⟨_, e, ih⟩, .inr ⟨b, d⟩⟩)
/-- the last round -/
theorem round_last [DecidableEq α] {ks ns : List α} (na : ∀ x, ask x ≠ .all) (kk : ∀ x, Kept nx ask x → x ∈ ks) (ndk : ks.Nodup) (h : NearL nx ask ks ns) (c : ClosedL nx ask ks ns) (l : ns.length = ks.length) (x : α) : x ∈ ns ↔ Kept nx ask x := by
  have same : ∀ x ∈ ks, x ∈ ns := fun x hx => by
    refine Classical.byContradiction fun n => ?_
    have a : (x :: ns).Nodup := List.nodup_cons.mpr ⟨n, h.nd⟩
    have := D1.pigeon (x :: ns) ks a fun y hy => by
      rcases List.mem_cons.mp hy with e | m
      · rw [e]; exact hx
      · exact h.sub m
    rw [List.length_cons] at this
    omega
  have good : Good nx ask (fun x => x ∈ ks) := fun y hy => h.so y (same y hy)
  exact ⟨fun m => kept_of good (h.sub m), fun k => same x (kk x k)⟩
/-- the next round -/
theorem round_next [DecidableEq α] {ks ns : List α} (na : ∀ x, ask x ≠ .all) (kk : ∀ x, Kept nx ask x → x ∈ ks) (h : NearL nx ask ks ns) (c : ClosedL nx ask ks ns) (l : ns.length ≠ ks.length) : (∀ x, Kept nx ask x → x ∈ ns) ∧ ns.length < ks.length := by
  refine ⟨fun x k => c.all na (k.near.mono kk), ?_⟩
  have := D1.pigeon ns ks h.nd fun x m => h.sub m
  omega
end
end Kt
end L2
namespace L2
namespace D1
open PySem PySem.Spec PyProof.Rows D2 X5 X6
section
variable {P : Program} {w : World} {K : PySem.W.Frag} {mg : Str → Option Value} {base : Heap} {C : Addr}
abbrev leN : List Str := ["_law_steps", "_law_pair", "_law_talk", "_law_word_here"]
end
end D1
end L2
namespace L2
namespace D1
open PySem PySem.Spec PyProof.Rows D2 X5 X6
end D1
end L2
namespace L2
namespace D1
open PySem PySem.Spec PyProof.Rows D2 X5 X6
structure Free4 (mg : Str → Option Value) : Prop extends Free3 mg where
  any : mg "any" = none
end D1
end L2
namespace L2
namespace D1
open PySem PySem.Spec PyProof.Rows D2 X5 X6 X7 Kt
/-- what is viable -/
def Viable (bk : Bk) (x : Str) : Prop := Kept (Gs.sc (vnx bk)) (vask bk) x
end D1
end L2
namespace L2
namespace D1
open PySem PySem.Spec PyProof.Rows D2 X5 X6 Kt
abbrev sViable : Stmt := top 64
def trD (ss : List Str) : List (Key × V) := ss.map fun s => (Sum.inr s, V.bl true)
theorem trD_keys (ss : List Str) : (trD ss).map (·.1) = ss.map Sum.inr := by rw [trD, List.map_map]; rfl
theorem trD_put (ss : List Str) (s : Str) : putK (trD ss) (.inr s) (.bl true) = trD (if s ∈ ss then ss else ss ++ [s]) := by
  by_cases h : s ∈ ss
  · rw [if_pos h]
    unfold putK
    rw [if_pos (show ((trD ss).any fun kv => decide (kv.1 = Sum.inr s)) = true from List.any_eq_true.mpr ⟨(Sum.inr s, V.bl true), List.mem_map.mpr ⟨s, h, rfl⟩, decide_eq_true rfl⟩), trD, List.map_map]
    refine List.map_congr_left fun x _ => ?_
    show (if (Sum.inr x : Key) = Sum.inr s then (Sum.inr x, V.bl true) else (Sum.inr x, V.bl true)) = _
    split <;> rfl
  · rw [if_neg h, D1.putK_new, trD, trD, List.map_append]
    · rfl
    · rw [trD_keys]
      exact fun m => by obtain ⟨x, hx, e⟩ := List.mem_map.mp m; exact h (Sum.inr.inj e ▸ hx)
theorem trD_is (ss : List Str) (x : Str) : (valV (trD ss) (.inr x)).isSome = decide (x ∈ ss) := Gs.val_dec (kvs := trD ss) (ps := ss) (trD_keys ss)
theorem vask_na (bk : Bk) : ∀ x, vask bk x ≠ .all := fun x => by
  unfold vask askK
  split
  · exact fun e => by cases e
  split
  · exact fun e => by cases e
  split <;> exact fun e => by cases e
/-- what the law asks of a state -/
theorem law_tst {bk : Bk} {x : Str} {ks ns : List Str} (kd : (rowOf bk x).1 = "says" ∨ (rowOf bk x).1 = "hears" ∨ (rowOf bk x).1 = "done") {b : Bool} (hb : b = ((rowOf bk x).2.map (·.2)).any fun g => decide (g ∈ ns)) :
    (decide ((rowOf bk x).1 = "done") || (b && (decide ((rowOf bk x).1 = "hears") || ((rowOf bk x).2.map (·.2)).all fun g => decide (g ∈ ks)))) = true ↔ TstP (Gs.sc (vnx bk)) (vask bk) ks ns x := by
  have hb2 : b = true ↔ ∃ g ∈ Gs.sc (vnx bk) x, g ∈ ns := by
    rw [hb, List.any_eq_true]
    exact ⟨fun ⟨g, a, c⟩ => ⟨g, a, of_decide_eq_true c⟩, fun ⟨g, a, c⟩ => ⟨g, a, decide_eq_true c⟩⟩
  have ha : (((rowOf bk x).2.map (·.2)).all fun g => decide (g ∈ ks)) = true ↔ ∀ g ∈ Gs.sc (vnx bk) x, g ∈ ks := by
    rw [List.all_eq_true]
    exact ⟨fun h g m => of_decide_eq_true (h g m), fun h g m => decide_eq_true (h g m)⟩
  unfold TstP vask
  rw [Bool.or_eq_true, Bool.and_eq_true, Bool.or_eq_true, decide_eq_true_iff, decide_eq_true_iff, hb2, ha]
  have n1 : ¬ ("says" : Str) = "done" := by decide +kernel
  have n2 : ¬ ("hears" : Str) = "done" := by decide +kernel
  have n3 : ¬ ("hears" : Str) = "says" := by decide +kernel
  have n4 : ¬ ("done" : Str) = "hears" := by decide +kernel
  rcases kd with a | a | a
  · have e : askK (rowOf bk x).1 = .nearer := by rw [a]; unfold askK; rw [if_neg n1, if_pos rfl]
    rw [e, a]; simp [n1, Ne.symm n3]
  · have e : askK (rowOf bk x).1 = .some := by rw [a]; unfold askK; rw [if_neg n2, if_neg n3, if_pos rfl]
    rw [e, a]; simp [n2]
  · have e : askK (rowOf bk x).1 = .always := by rw [a]; unfold askK; rw [if_pos rfl]
    rw [e, a]; simp
theorem any_map' {α : Type} (f : α → Bool) (l : List α) : ((l.map f).any id) = l.any f := by
  induction l with
  | nil => rfl
  | cons x r ih => rw [List.map_cons, List.any_cons, List.any_cons, ih]; rfl
theorem pigeonS : ∀ (l ns : List Str), l.Nodup → (∀ x ∈ l, x ∈ ns) → l.length ≤ ns.length := fun l ns nd h => pigeon l ns nd h
def spViable : Sp := fun vs H Q _ => ∃ (W : Addr) (bk : Bk) (st : Str), vs = [.ref W] ∧ WorldAt H W bk st ∧ DOk bk st ∧ ∀ H' R xs, Same H H' → H R = none → SL H' R xs → xs.length ≤ 60 → (∀ x, x ∈ xs ↔ Viable bk x) → xs.Nodup → sortedS xs = true → Q (.ref R) H'
abbrev lviN : List Str := ["_law_world_here", "_law_kept", "_law_turn", "_law_near", "_law_many", "_law_state", "_law_kind", "_law_turns_here", "_law_goals", "_law_is_near", "_law_word_here", "_law_goal"]
def tVt : TT := fun σ H Q => ∃ (W Kp N GL : Addr) (v2 v7 : Option V) (many : Int) (s k : Str) (b : Bool) (gs ks : List Str), σ = [some (.ref W), some (.ref Kp), v2, some (.ref N), some (.int many), some (.str s), some (.str k), v7, some (.ref GL), some (.bl b), none, none] ∧ SL H GL gs ∧ gs.length ≤ 60 ∧ H Kp = some (.dK (trD ks)) ∧ ∀ H', Same H H' → Q (decide (k = "done") || (b && (decide (k = "hears") || gs.all fun g => decide (g ∈ ks)))) H'
section
variable {P : Program} {w : World} {K : PySem.W.Frag} {mg : Str → Option Value} {base : Heap}
theorem scLvi : FnScope lviN ["_law_world_here"] (defScope sViable) := ⟨rfl, rfl, rfl, by decide +kernel, rfl, by decide +kernel, by decide +kernel⟩
theorem ok_viable {f : Addr} {fd : FuncData} (F : Fun K "_law_viable" "_law_viable" sViable f fd) (T : Free4 mg) : FnOk P w K mg base CX0 1 f fd ["_law_world_here"] spViable := by
  refine F.ok scLvi (fun vs H Q E h => ?_) (fun cdv A outer s H vs Q E0' hr h => ?_)
  · obtain ⟨W, bk, st, rfl, _⟩ := h; rfl
  · obtain ⟨W, bk, st, rfl, ⟨b, hW, kvs, hb, hR⟩, ok, k⟩ := h
    have hu := hu_of hr
    refine ⟨_, pss_cons (ps_set (i := 1) scLvi.nd rfl (Or.inr rfl) (pe_callTy (call_dictP rfl) (by rfl) T.dict (by decide +kernel) (pa_cons (pe_lock (pe_lc (own := [("_law_state", 5)]) (g := gName 5) (tt := tYes) (te := tTup (tCons (tVar 5) (tCons (tC (.bl true)) tNil))) rfl scLvi.nd (pi_keys (pe_ix ix_list (pv 0) pe_int (fun _ _ => rfl)))
        (blkOk_by (N := lviN) (sc := defScope sViable) (by decide +kernel)) (fun _ _ _ _ _ => pg_name (i := 5) scLvi.nd rfl (Or.inl rfl)) (fun _ _ _ _ _ => pts_nil) (fun _ _ _ _ _ => pe_tup (pa_cons (pv 5) (pa_cons pe_bl pa_nil))))) pa_nil)))
      (pss_cons (ps_for PassesOwn.never rfl (pi_range1 rfl T.range (pa_cons (pe_op op_add (pe_callB call_lenD (by rfl) T.len PySem.boot_len (pa_cons (pe_ix ix_list (pv 0) pe_int (fun _ _ => rfl)) pa_nil)) pe_int) pa_nil)) (pg_name (i := 2) scLvi.nd rfl (Or.inl rfl))
        (pss_cons (ps_asg (pe_tup (pa_cons pe_dnewK (pa_cons (pe_un un_neg pe_int) pa_nil))) (pg_tup rfl (pgs_cons (pg_name (i := 3) scLvi.nd rfl (Or.inr rfl)) (pgs_cons (pg_name (i := 4) scLvi.nd rfl (Or.inl rfl)) pgs_nil))))
        (pss_cons (ps_while PassesOwn.never (pt_cmpR op_lt (pv 4) (pe_callB call_lenD (by rfl) T.len PySem.boot_len (pa_cons (pv 3) pa_nil)) (nomark _))
          (pss_cons (ps_set (i := 4) scLvi.nd rfl (Or.inl rfl) (pe_callB call_lenD (by rfl) T.len PySem.boot_len (pa_cons (pv 3) pa_nil)))
          (pss_one (ps_for PassesOwn.never rfl (pi_list (pe_lock (pe_lc (own := [("_law_state", 5)]) (g := gName 5) (tt := tTest (tDNotIn (tVar 5) (tVar 3))) (te := tVar 5) rfl scLvi.nd (pi_keys (pv 1))
              (blkOk_by (N := lviN) (sc := defScope sViable) (by decide +kernel)) (fun _ _ _ _ _ => pg_name (i := 5) scLvi.nd rfl (Or.inl rfl)) (fun _ _ _ _ _ => pts_one (pt_cmp (pc_dnotin hu (pv 5) (pv 3)) rfl)) (fun _ _ _ _ _ => pv 5)))) (pg_name (i := 5) scLvi.nd rfl (Or.inl rfl))
            (pss_cons (ps_asg (pe_dget hu (pe_ix ix_list (pv 0) pe_int (fun _ _ => rfl)) (pv 5) (fun _ _ => rfl)) (pg_tup rfl (pgs_cons (pg_name (i := 6) scLvi.nd rfl (Or.inl rfl)) (pgs_cons (pg_name (i := 7) scLvi.nd rfl (Or.inr rfl)) pgs_nil))))
            (pss_cons (ps_lock (ps_setLc (i := 8) (own := [("_law_word_here", 10)]) (g := gName 10) (tt := tYes) (te := tDGet (tVar 7) (tVar 10)) rfl scLvi.nd rfl rfl (sw_true rfl rfl rfl rfl) (pi_keys (pv 7))
              (blkOk_by (N := lviN) (sc := defScope sViable) (by decide +kernel)) (fun _ _ _ _ _ => pg_name (i := 10) scLvi.nd rfl (Or.inl rfl)) (fun _ _ _ _ _ => pts_nil) (fun _ _ _ _ _ => pe_dget hu (pv 7) (pv 10) (fun _ _ => rfl))))
            (pss_cons (ps_set (i := 9) scLvi.nd rfl (Or.inl rfl) (pe_callB (cr_any rfl) (by rfl) T.any (by decide +kernel) (pa_cons (pe_lc (own := [("_law_goal", 11)]) (g := gName 11) (tt := tYes) (te := tDIn (tVar 11) (tVar 3)) rfl scLvi.nd (pi_list (pv 8))
              (blkOk_by (N := lviN) (sc := defScope sViable) (by decide +kernel)) (fun _ _ _ _ _ => pg_name (i := 11) scLvi.nd rfl (Or.inl rfl)) (fun _ _ _ _ _ => pts_nil) (fun _ _ _ _ _ => pe_cmp (pc_din hu (pv 11) (pv 3)) rfl)) pa_nil)))
            (pss_one (ps_if (pt_imp (t' := tVt) (PW.pt (pw_or (pt_cmpR op_eq (pv 6) pe_str (nomark _)) (pw_or1 (PW.pt (pw_and (pt_val (pv 9)) (pw_and1 (PW.pt (pw_or (pt_cmpR op_eq (pv 6) pe_str (nomark _)) (pw_or1 (pt_val (pe_callB (cr_all rfl) (by rfl) T.all (by decide +kernel) (pa_cons (pe_lc (own := [("_law_goal", 11)]) (g := gName 11) (tt := tYes) (te := tDIn (tVar 11) (tVar 1)) rfl scLvi.nd (pi_list (pv 8))
              (blkOk_by (N := lviN) (sc := defScope sViable) (by decide +kernel)) (fun _ _ _ _ _ => pg_name (i := 11) scLvi.nd rfl (Or.inl rfl)) (fun _ _ _ _ _ => pts_nil) (fun _ _ _ _ _ => pe_cmp (pc_din hu (pv 11) (pv 1)) rfl)) pa_nil)))))))))))) ?sub1)
              (pss_one (ps_dput hu (pv 3) (pv 5) pe_bl rfl)) pss_nil)))))))))
        (pss_cons (ps_if (pt_cmpR op_eq (pe_callB call_lenD (by rfl) T.len PySem.boot_len (pa_cons (pv 3) pa_nil)) (pe_callB call_lenD (by rfl) T.len PySem.boot_len (pa_cons (pv 1) pa_nil)) (nomark _)) (pss_one (ps_ret (pe_callB (call_sortedD rfl) (by rfl) T.sorted (by decide +kernel) (pa_cons (pv 3) pa_nil)))) pss_nil)
        (pss_one (ps_set (i := 1) scLvi.nd rfl (Or.inr rfl) (pv 3)))))))
      (pss_one (ps_ret (pe_callB (call_sortedD rfl) (by rfl) T.sorted (by decide +kernel) (pa_cons (pv 1) pa_nil))))), ?_⟩
    case sub1 =>
      rintro σ H Q ⟨W, Kp, N, GL, v2, v7, many, s, kd, b, gs, ks, rfl, hL, lg, hK, k⟩
      have dk : ∀ z : Str, decide (V.str kd = V.str z) = decide (kd = z) := fun z => by
        rw [Bool.eq_iff_iff, decide_eq_true_iff, decide_eq_true_iff]
        exact ⟨fun e => V.str.inj e, fun e => by rw [e]⟩
      refine ⟨_, rfl, rfl, _, rfl, ?_⟩
      by_cases c1 : kd = "done"
      · rw [decide_eq_true c1, Bool.true_or] at k
        exact (if_pos ((dk _).trans (decide_eq_true c1))).mpr (k _ (Same.refl _))
      rw [decide_eq_false c1, Bool.false_or] at k
      refine (if_neg (fun e => Bool.noConfusion (((dk _).trans (decide_eq_false c1)).symm.trans e))).mpr ⟨_, rfl, b, rfl, ?_⟩
      cases b with
      | false => exact iteF (k _ (Same.refl _))
      | true =>
      rw [Bool.true_and] at k
      refine iteT ⟨_, rfl, rfl, _, rfl, ?_⟩
      by_cases c2 : kd = "hears"
      · rw [decide_eq_true c2, Bool.true_or] at k
        exact (if_pos ((dk _).trans (decide_eq_true c2))).mpr (k _ (Same.refl _))
      rw [decide_eq_false c2, Bool.false_or] at k
      refine (if_neg (fun e => Bool.noConfusion (((dk _).trans (decide_eq_false c2)).symm.trans e))).mpr ⟨_, rfl, GL, rfl, ⟨_, hL.sq⟩, fun M hM => ?_⟩
      refine lc_list (K := K) (a := GL) (xs := gs.map V.str) (fun i H' => Same H H' ∧ H' M = some (.lst (((gs.take i).map fun g => decide (g ∈ ks)).map V.bl))) ⟨Same.new hM, upd_same⟩ (fun i H' _ z => (hL.same z.1).sq) ?_ ?_
      · rintro i x H2 hx ⟨s2, hM2⟩
        obtain ⟨g, hg, rfl⟩ := D1.get_map hx
        have li : i < gs.length := (List.getElem?_eq_some_iff.mp hg).1
        refine ⟨rfl, ?_⟩
        dsimp only [tYes]
        rw [if_pos rfl]
        refine ⟨_, rfl, _, rfl, Kp, _, rfl, .inl ⟨trD ks, .inr g, .inl (s2 _ _ hK), rfl, rfl⟩, ?_⟩
        rw [trD_is]
        refine ⟨_, hM2, by rw [List.length_map, List.length_map, List.length_take, sizeLine_eq]; omega, fun c u e => ?_, by rw [upd_same, take_succ_get hg, List.map_append, List.map_append]; rfl⟩
        rw [upd_ne (ne_of_none e hM)]; exact s2 _ _ e
      · rintro H2 ⟨s2, hM2⟩
        rw [List.length_map, List.take_length] at hM2
        refine ⟨M, _, rfl, SqL.of hM2, _, rfl, ?_⟩
        rw [all_map]
        exact k _ s2
    have l60 := ok.len
    have ekv : kvs.map (·.1) = (bk.map (·.1)).map Sum.inr := by rw [hR.keys, List.map_map]; rfl
    have lkv : kvs.length = bk.length := hR.len
    -- the first dict
    refine ⟨b, _, hb, trivial, fun od => ?_⟩
    have nWb : W ≠ b := fun e => by rw [e, hb] at hW; cases hW
    have hWL : (L2.upd H b (.frz od (.dK kvs))) W = some (.lst [.ref b, .str st]) := by rw [upd_ne nWb]; exact hW
    refine ⟨_, rfl, W, _, _, _, rfl, rfl, SqL.of hWL, atI_nat (j := 0) rfl, b, od, rfl, .inl ⟨kvs, upd_same, fun M hM => ?_⟩⟩
    have nM : M ≠ b := fun e => by rw [e, upd_same] at hM; cases hM
    refine lc_it (walk_keys (d := b) (o := od) (kvs := kvs)) (fun i H' => Same (L2.upd H b (.frz od (.dK kvs))) H' ∧ ∃ ps : List Addr, H' M = some (.lst (ps.map V.ref)) ∧ Paired (fun p (kv : Key × V) => (cut [M] H') p = some (.tup [kV kv.1, kv.2])) ps (trD ((bk.map (·.1)).take i))) ⟨Same.new hM, [], upd_same, .nil⟩ (fun i H' _ z => z.1 _ _ upd_same) ?_ ?_
    · rintro i x H2 H3 hi ⟨sm, ps, hM2, hps⟩ ⟨rfl, kk, v0, hkv, rfl⟩
      obtain ⟨r, hr', rfl, _⟩ := hR.at hkv
      have hs : (bk.map (·.1))[i]? = some r.1 := by rw [List.getElem?_map, hr']; rfl
      have hil : i < bk.length := (List.getElem?_eq_some_iff.mp hr').1
      refine ⟨rfl, ?_⟩
      dsimp only [tYes]
      rw [if_pos rfl]
      refine ⟨_, rfl, by show 2 ≤ sizeLine; decide, fun T1 hT1 => ?_⟩
      have g := Same.new (o := .tup [kV (Sum.inr r.1), .bl true]) hT1
      have nT : T1 ≠ M := fun e => by rw [e, hM2] at hT1; cases hT1
      have lps : ps.length = i := by
        have := paired_len hps
        rw [trD, List.length_map, List.length_take, List.length_map] at this
        omega
      refine ⟨_, g _ _ hM2, by rw [List.length_map, sizeLine_eq]; omega, fun c u e => ?_, ps ++ [T1], by rw [upd_same, List.map_append]; rfl, ?_⟩
      · rw [upd_ne (ne_of_none e hM)]; exact g _ _ (sm _ _ e)
      · rw [cut_upd (by simp), take_succ_get hs, trD, List.map_append]
        have hp' := paired_imp (fun p (kv : Key × V) (e : (cut [M] H3) p = some (.tup [kV kv.1, kv.2])) => cut_same g _ _ e) hps
        exact pair_app hp' (by rw [cut_out (by simpa using nT)]; exact upd_same)
    rintro H2 ⟨sm, ps, hM2, hps⟩
    rw [lkv, ← List.length_map (·.1), List.take_length] at hps
    have su := Same.unlock hb sm
    have hp3 : Paired (fun p (kv : Key × V) => SqT K (L2.upd H2 b (.dK kvs)) p [kV kv.1, kv.2]) ps (trD (bk.map (·.1))) := paired_imp (fun p kv e => SqT.of (unl_at (sm _ _ upd_same) (cut_le _ _ e))) hps
    refine ⟨sm _ _ upd_same, M, ps, _, rfl, SqL.of (by rw [upd_ne nM]; exact hM2), hp3, fun K0 hK0 => ?_⟩
    rw [merge_id2 (by rw [trD_keys]; exact inr_nd' ok.nd)]
    have s3 := Same.trans su (Same.new (o := .dK (trD (bk.map (·.1)))) hK0)
    have eK3 : (L2.upd (L2.upd H2 b (.dK kvs)) K0 (.dK (trD (bk.map (·.1))))) K0 = some (.dK (trD (bk.map (·.1)))) := upd_same
    have nK0 : H K0 = none := su.free hK0
    generalize L2.upd (L2.upd H2 b (.dK kvs)) K0 (.dK (trD (bk.map (·.1)))) = H3 at s3 eK3
    clear hps hp3 hM2 su sm hWL hM
    -- the end of either return
    have fin : ∀ (H' : Hp) (D : Addr) (ss : List Str), Same H H' → H' D = some (.dK (trD ss)) → ss.Nodup → (∀ x ∈ ss, x ∈ bk.map (·.1)) → (∀ x, x ∈ ss ↔ Viable bk x) → ∃ (a : Addr) (kvs : List (Key × V)) (ks : List Str), [V.ref D] = [.ref a] ∧ Rd H' a (.dK kvs) ∧ kvs.map (·.1) = ks.map Sum.inr ∧ ks.length < 64 ∧ ∀ ys q, ys.Perm ks → sortedS ys = true → H' q = none → Q (.ref q) (L2.upd H' q (.lst (ys.map V.str))) := fun H' D ss s hD nd sub via => by
      have l := pigeonS ss _ nd sub
      rw [List.length_map] at l
      refine ⟨D, _, ss, rfl, .inl hD, trD_keys ss, by omega, fun ys q pm so hq => ?_⟩
      exact k _ q ys (Same.trans s (Same.new hq)) (s.free hq) upd_same (by rw [pm.length_eq]; omega) (fun x => pm.mem_iff.trans (via x)) (pm.nodup_iff.mpr nd) so
    refine ⟨_, rfl, W, _, _, _, rfl, rfl, SqL.of (s3 _ _ hW), atI_nat (j := 0) rfl, b, kvs, rfl, s3 _ _ hb, _, _, rfl, rfl, (kvs.length : Int) + 1, rfl, by omega, by omega, ?_⟩
    refine for_range (n := ((kvs.length : Int) + 1).toNat) (fun i σ H' => ∃ (Kp : Addr) (ks : List Str) (v2 v3 v4 v5 v6 v7 v8 v9 : Option V), σ = [some (.ref W), some (.ref Kp), v2, v3, v4, v5, v6, v7, v8, v9, none, none] ∧ Same H H' ∧ H Kp = none ∧ H' Kp = some (.dK (trD ks)) ∧ ks.Nodup ∧ (∀ x ∈ ks, x ∈ bk.map (·.1)) ∧ (∀ x, Viable bk x → x ∈ ks) ∧ ks.length + i ≤ bk.length)
      ⟨K0, _, none, none, none, none, none, none, none, none, rfl, s3, nK0, eK3, ok.nd, fun x hx => hx, fun x h => kept_in x h, by rw [List.length_map]; omega⟩ ?_ ?_
    · rintro i σ H4 hi ⟨Kp, ks, v2, v3, v4, v5, v6, v7, v8, v9, rfl, s4, nK, hK, ndk, subk, kk, lki⟩
      have lks : ks.length ≤ 60 := by have := pigeonS ks _ ndk subk; rw [List.length_map] at this; omega
      refine fun N hN => ⟨_, rfl, by show 2 ≤ sizeLine; decide, fun T0 hT0 => ⟨T0, _, rfl, SqT.of upd_same, rfl, _, _, rfl, _, _, rfl, rfl, ?_⟩⟩
      have nKN : Kp ≠ N := ne_of_none hK hN
      have hN0 : H N = none := s4.free hN
      have g1 := Same.new (o := .dK []) hN
      have eN1 : (L2.upd H4 N (.dK [])) N = some (.dK (trD [])) := upd_same
      generalize L2.upd H4 N (.dK []) = H5 at g1 eN1 hT0
      have g2 := Same.new (o := .tup [.ref N, .int (-1)]) hT0
      have eN2 := g2 _ _ eN1
      generalize L2.upd H5 T0 (.tup [.ref N, .int (-1)]) = H6 at g2 eN2
      have s6 : Same H4 (cut [N] H6) := fun c u e => by
        have n := ne_of_none e hN
        rw [cut_out (by simpa using n)]; exact g2 _ _ (g1 _ _ e)
      clear g1 g2 eN1 hT0
      refine ⟨fun m σ H' => ∃ (many : Int) (ns : List Str) (v5 v6 v7 v8 v9 : Option V), σ = [some (.ref W), some (.ref Kp), some (.int (0 + (i : Int))), some (.ref N), some (.int many), v5, v6, v7, v8, v9, none, none] ∧ Same H4 (cut [N] H') ∧ H' N = some (.dK (trD ns)) ∧ NearL (Gs.sc (vnx bk)) (vask bk) ks ns ∧ ((ns.length : Int) ≤ many → ClosedL (Gs.sc (vnx bk)) (vask bk) ks ns) ∧ m = (61 - many).toNat,
        ⟨_, -1, [], v5, v6, v7, v8, v9, rfl, s6, eN2, NearL.nil, fun h => (by rw [List.length_nil] at h; omega), rfl⟩, ?_⟩
      rintro m σ H7 ⟨many, ns, v5, v6, v7, v8, v9, rfl, s7, hN7, nl, clo, rfl⟩
      have ndn := nl.nd
      have subn : ∀ x ∈ ns, x ∈ bk.map (·.1) := fun x m => subk x (nl.sub m)
      have lns : ns.length ≤ 60 := by have := pigeonS ns _ ndn subn; rw [List.length_map] at this; omega
      have ltr : ∀ ss : List Str, (trD ss).length = ss.length := fun ss => by rw [trD, List.length_map]
      refine ⟨_, rfl, _, rfl, N, _, rfl, hN7, _, _, rfl, rfl, _, rfl, ?_⟩
      rw [ltr]
      rcases (Classical.em (many < ns.length)).symm with hm | hm
      · refine (if_neg (by rw [decide_eq_false hm]; decide)).mpr ⟨_, rfl, N, _, rfl, hN7, _, rfl, Kp, _, rfl, cut_le _ _ (s7 _ _ hK), rfl, _, rfl, ?_⟩
        have cc := clo (by omega)
        have dl : decide (V.int (trD ns).length = V.int (trD ks).length) = decide (ns.length = ks.length) := by
          rw [ltr, ltr, Bool.eq_iff_iff]
          simp
          constructor <;> intro h <;> omega
        rw [dl]
        by_cases le : ns.length = ks.length
        · rw [decide_eq_true le]
          exact iteT ⟨_, rfl, fin _ _ _ (Same.trans s4 (Same.trans s7 cut_le)) hN7 ndn subn fun x => round_last (vask_na bk) kk ndk nl cc le x⟩
        · rw [decide_eq_false le]
          obtain ⟨k2, l2⟩ := round_next (vask_na bk) kk nl cc le
          exact iteF ⟨_, rfl, N, ns, _, _, _, _, _, _, _, _, rfl, Same.trans s4 (Same.trans s7 cut_le), hN0, hN7, ndn, subn, k2, by omega⟩
      refine (if_pos (decide_eq_true hm)).mpr ⟨_, fun σ' H' h => h, ?_⟩
      refine ⟨_, rfl, N, _, rfl, hN7, ?_⟩
      rw [ltr]
      have hK7c := s7 _ _ hK
      obtain ⟨nKc, hK7⟩ := cut_some hK7c
      refine ⟨Kp, _, hK7, trivial, fun od => ?_⟩
      have hNL : (L2.upd H7 Kp (.frz od (.dK (trD ks)))) N = some (.dK (trD ns)) := by rw [upd_ne nKN.symm]; exact hN7
      refine ⟨_, rfl, Kp, od, rfl, .inl ⟨trD ks, upd_same, fun M hM => ?_⟩⟩
      have nM : M ≠ Kp := fun e => by rw [e, upd_same] at hM; cases hM
      have hM7 : H7 M = none := by rw [upd_ne nM] at hM; exact hM
      refine lc_it (walk_keys (d := Kp) (o := od) (kvs := trD ks)) (fun j H' => Same (L2.upd H7 Kp (.frz od (.dK (trD ks)))) H' ∧ SL H' M ((ks.take j).filter fun x => !decide (x ∈ ns))) ⟨Same.new hM, upd_same⟩ (fun j H' _ z => z.1 _ _ upd_same) ?_ ?_
      · rintro j x H8 H9 hj ⟨sm, hM8⟩ ⟨rfl, k0, v0, hkv, rfl⟩
        rw [trD, List.getElem?_map] at hkv
        obtain ⟨sx, hs, e⟩ := Option.map_eq_some_iff.mp hkv
        cases e
        rw [ltr] at hj
        refine ⟨rfl, _, rfl, _, rfl, N, _, rfl, .inl ⟨trD ns, .inr sx, .inl (sm _ _ hNL), rfl, rfl⟩, _, rfl, ?_⟩
        rw [trD_is]
        have lf := List.length_filter_le (fun x => !decide (x ∈ ns)) (ks.take j)
        rw [List.length_take] at lf
        by_cases c : sx ∈ ns
        · refine (if_neg (by rw [decide_eq_true c]; decide)).mpr ⟨sm, ?_⟩
          rw [filt_no hs (by rw [decide_eq_true c]; rfl)]; exact hM8
        · refine (if_pos (by rw [decide_eq_false c]; rfl)).mpr ⟨_, rfl, _, hM8, by rw [List.length_map, sizeLine_eq]; omega, fun c u e => ?_, ?_⟩
          · rw [upd_ne (ne_of_none e hM)]; exact sm _ _ e
          · rw [filt_yes hs (by rw [decide_eq_false c]; rfl), SL, upd_same, List.map_append]; rfl
      rintro H8 ⟨sm, hM8⟩
      rw [ltr, List.take_length] at hM8
      have xsm : ∀ x, x ∈ (ks.filter fun x => !decide (x ∈ ns)) ↔ x ∈ ks ∧ x ∉ ns := fun x => by rw [List.mem_filter]; simp
      have sub : ∀ x ∈ (ks.filter fun x => !decide (x ∈ ns)), x ∈ ks := fun x m => ((xsm x).mp m).1
      have xnd : (ks.filter fun x => !decide (x ∈ ns)).Nodup := ndk.filter _
      generalize (ks.filter fun x => !decide (x ∈ ns)) = xs at *
      have su := Same.unlock hK7 sm
      have hM9 : SL (L2.upd H8 Kp (.dK (trD ks))) M xs := by rw [SL, upd_ne nM]; exact hM8
      refine ⟨sm _ _ upd_same, M, rfl, ⟨_, hM9.sq⟩, ?_⟩
      have hN9 : (L2.upd H8 Kp (.dK (trD ks))) N = some (.dK (trD ns)) := su _ _ hN7
      generalize L2.upd H8 Kp (.dK (trD ks)) = H9 at su hM9 hN9
      have nMN : M ≠ N := fun e => by rw [e, hN7] at hM7; cases hM7
      have s9 : Same H4 (cut [N] H9) := Same.trans s7 (cut_same su)
      have hM9c : SL (cut [N] H9) M xs := by rw [SL, cut_out (by simpa using nMN)]; exact hM9
      refine for_list (K := K) (a := M) (xs := xs.map V.str) (fun j σ H' => ∃ (ns2 : List Str) (v5 v6 v7 v8 v9 : Option V), (∀ x ∈ ns, x ∈ ns2) ∧ (∀ x ∈ xs.drop j, x ∉ ns2) ∧ (ns2.length ≤ ns.length → ns2 = ns ∧ ∀ x ∈ xs.take j, ¬ TstP (Gs.sc (vnx bk)) (vask bk) ks ns x) ∧ NearL (Gs.sc (vnx bk)) (vask bk) ks ns2 ∧ σ = [some (.ref W), some (.ref Kp), some (.int (0 + (i : Int))), some (.ref N), some (.int ns.length), v5, v6, v7, v8, v9, none, none] ∧ Same (cut [N] H9) (cut [N] H') ∧ H' N = some (.dK (trD ns2)))
        ⟨ns, _, _, _, _, _, fun x h => h, fun x h => ((xsm x).mp (List.mem_of_mem_drop h)).2, fun _ => ⟨rfl, fun x h => (by rw [List.take_zero] at h; cases h)⟩, nl, rfl, Same.refl _, hN9⟩ (fun j σ H' _ ⟨_, _, _, _, _, _, _, _, _, _, _, z, _⟩ => (SL.same (SL.same hM9c z) cut_le).sq) ?_ ?_
      · rintro j x σ H10 hx ⟨ns2, v5, v6, v7, v8, v9, gr2, nw2, st2, nl2, rfl, s10, hN10⟩
        have nd2 := nl2.nd
        have sub2 : ∀ x ∈ ns2, x ∈ bk.map (·.1) := fun x m => subk x (nl2.sub m)
        obtain ⟨sx, hs, rfl⟩ := D1.get_map hx
        have snm := subk _ (sub _ (List.mem_of_getElem? hs))
        have sH : Same H (cut [N] H10) := Same.trans s4 (Same.trans s9 s10)
        have hW10 := cut_le _ _ (sH _ _ hW)
        have hb10 := cut_le _ _ (sH _ _ hb)
        have hR10 := (hR.same sH)
        obtain ⟨v, ev, ⟨t1, a1, rfl, ht1, h1⟩, m1⟩ := hR10.look snm
        have lts : (rowOf bk sx).2.length ≤ 60 := ok.len2 _ m1
        refine ⟨_, rfl, W, _, _, _, rfl, rfl, SqL.of hW10, atI_nat (j := 0) rfl, _, rfl, b, _, rfl, .inl ⟨kvs, .inr sx, .inl hb10, rfl, ev.symm⟩, t1, _, rfl, SqT.of (cut_le _ _ ht1), rfl, _, _, rfl, _, _, rfl, rfl, ?_⟩
        obtain ⟨n1, h1'⟩ := cut_some h1
        have n1N : a1 ≠ N := fun e => n1 (by simp [e])
        have h1a : TurnsAt H10 a1 (rowOf bk sx).2 := h1'
        refine ⟨a1, _, h1a, trivial, fun od2 => ⟨_, rfl, a1, od2, rfl, .inl ⟨kT (rowOf bk sx).2, upd_same, fun GL hGL => ?_⟩⟩⟩
        have nGL : GL ≠ a1 := fun e => by rw [e, upd_same] at hGL; cases hGL
        refine lc_it (walk_keys (d := a1) (o := od2) (kvs := kT (rowOf bk sx).2)) (fun j H' => Same (L2.upd H10 a1 (.frz od2 (.dK (kT (rowOf bk sx).2)))) H' ∧ SL H' GL (((rowOf bk sx).2.take j).map (·.2))) ⟨Same.new hGL, upd_same⟩ (fun j H' _ z => z.1 _ _ upd_same) ?_ ?_
        · rintro j2 x H11 H12 hj ⟨sm2, hG11⟩ ⟨rfl, k0, v0, hkv, rfl⟩
          obtain ⟨u, hu1, rfl⟩ := kT_at hkv
          have lj := kT_lt hkv
          refine ⟨rfl, ?_⟩
          dsimp only [tYes]
          rw [if_pos rfl]
          refine ⟨_, rfl, _, rfl, a1, _, rfl, .inl ⟨kT (rowOf bk sx).2, .inr u.1, .inr ⟨od2, sm2 _ _ upd_same⟩, rfl, (kT_get (ok.tk _ m1) (List.mem_of_getElem? hu1)).symm⟩, _, hG11, by rw [List.length_map, List.length_map, List.length_take, sizeLine_eq]; omega, fun c w e => ?_, by rw [SL, upd_same, take_succ_get hu1, List.map_append, List.map_append]; rfl⟩
          rw [upd_ne (ne_of_none e hGL)]; exact sm2 _ _ e
        rintro H11 ⟨sm2, hG11⟩
        rw [show (kT (rowOf bk sx).2).length = (rowOf bk sx).2.length by rw [kT, List.length_map], List.take_length] at hG11
        have lg : ((rowOf bk sx).2.map (·.2)).length ≤ 60 := by rw [List.length_map]; exact lts
        have tst := fun b hb => law_tst (ks := ks) (ns := ns2) (b := b) (flip_kind (ok.rs _ m1).2.1) hb
        generalize ((rowOf bk sx).2.map (·.2)) = gs at *
        have su2 := Same.unlock h1a sm2
        refine ⟨sm2 _ _ upd_same, ?_⟩
        have hG12 : SL (L2.upd H11 a1 (.dK (kT (rowOf bk sx).2))) GL gs := by rw [SL, upd_ne nGL]; exact hG11
        generalize L2.upd H11 a1 (.dK (kT (rowOf bk sx).2)) = H12 at su2 hG12
        have hN12 := su2 _ _ hN10
        refine ⟨_, rfl, GL, rfl, ⟨_, hG12.sq⟩, fun M2 hM2 => ?_⟩
        refine lc_list (K := K) (a := GL) (xs := gs.map V.str) (fun i H' => Same H12 H' ∧ H' M2 = some (.lst (((gs.take i).map fun g => decide (g ∈ ns2)).map V.bl))) ⟨Same.new hM2, upd_same⟩ (fun i H' _ z => (hG12.same z.1).sq) ?_ ?_
        · rintro i2 x H13 hx ⟨s13, hM13⟩
          obtain ⟨g, hg, rfl⟩ := D1.get_map hx
          have li : i2 < gs.length := (List.getElem?_eq_some_iff.mp hg).1
          refine ⟨rfl, ?_⟩
          dsimp only [tYes]
          rw [if_pos rfl]
          refine ⟨_, rfl, _, rfl, N, _, rfl, .inl ⟨trD ns2, .inr g, .inl (s13 _ _ hN12), rfl, rfl⟩, ?_⟩
          rw [trD_is]
          refine ⟨_, hM13, by rw [List.length_map, List.length_map, List.length_take, sizeLine_eq]; omega, fun c u e => ?_, by rw [upd_same, take_succ_get hg, List.map_append, List.map_append]; rfl⟩
          rw [upd_ne (ne_of_none e hM2)]; exact s13 _ _ e
        rintro H13 ⟨s13, hM13⟩
        rw [List.length_map, List.take_length] at hM13
        have sA := Same.trans su2 s13
        refine ⟨M2, _, rfl, SqL.of hM13, ?_⟩
        rw [any_map']
        refine ⟨W, Kp, N, GL, _, _, _, sx, _, _, gs, ks, rfl, hG12.same s13, lg, sA _ _ (cut_le _ _ (s10 _ _ (s9 _ _ hK))), fun H14 s14 => ?_⟩
        have sB := Same.trans sA s14
        have hN14 := sB _ _ hN10
        have l2 : ns2.length ≤ 60 := by have := pigeonS ns2 _ nd2 sub2; rw [List.length_map] at this; omega
        have tt := tst _ rfl
        have dr : xs.drop j = sx :: xs.drop (j + 1) := by
          obtain ⟨lt, e⟩ := List.getElem?_eq_some_iff.mp hs
          rw [List.drop_eq_getElem_cons lt, e]
        have snn : sx ∉ ns2 := nw2 sx (by rw [dr]; exact List.mem_cons_self)
        by_cases c : TstP (Gs.sc (vnx bk)) (vask bk) ks ns2 sx
        · refine (if_pos (tt.mpr c)).mpr ⟨_, rfl, _, rfl, N, _, rfl, DPut.k (kvs := trD ns2) (k := Sum.inr sx) hN14 (by rw [ltr, sizeLine_eq]; omega), ?_⟩
          rw [trD_put, if_neg snn]
          refine ⟨ns2 ++ [sx], _, _, _, _, _, fun x h => List.mem_append_left _ (gr2 x h), fun x h m => ?_, fun le => ?_, nl2.add snn (sub _ (List.mem_of_getElem? hs)) c, rfl, by rw [cut_upd (by simp)]; exact Same.trans s10 (cut_same sB), upd_same⟩
          · rcases List.mem_append.mp m with m | m
            · exact nw2 x (by rw [dr]; exact List.mem_cons_of_mem _ h) m
            · rw [List.mem_singleton.mp m] at h
              have := (List.drop_sublist j xs).nodup xnd
              rw [dr] at this
              exact (List.nodup_cons.mp this).1 h
          · rw [List.length_append] at le
            have := pigeonS ns ns2 ndn gr2
            simp at le
            omega
        · refine (if_neg (fun e => c (tt.mp e))).mpr ⟨ns2, _, _, _, _, _, gr2, fun x h => nw2 x (by rw [dr]; exact List.mem_cons_of_mem _ h), fun le => ?_, nl2, rfl, Same.trans s10 (cut_same sB), hN14⟩
          obtain ⟨e, al⟩ := st2 le
          refine ⟨e, fun x h => ?_⟩
          rw [take_succ_get hs] at h
          rcases List.mem_append.mp h with m | m
          · exact al x m
          · rw [List.mem_singleton.mp m, ← e]; exact c
      · rintro σ H10 ⟨ns2, v5, v6, v7, v8, v9, gr2, nw2, st2, nl2, rfl, s10, hN10⟩
        rw [List.length_map, List.take_length] at st2
        refine ⟨_, by omega, _, ns2, _, _, _, _, _, rfl, Same.trans s9 s10, hN10, nl2, fun le => ?_, rfl⟩
        obtain ⟨e, al⟩ := st2 (by omega)
        rw [e]
        intro x hx c
        exact Classical.byContradiction fun n => al x ((xsm x).mpr ⟨hx, n⟩) c
    · rintro σ H4 ⟨Kp, ks, v2, v3, v4, v5, v6, v7, v8, v9, rfl, s4, nK, hK, ndk, subk, kk, lki⟩
      omega
end
end D1
end L2
namespace L2
namespace X6
open PySem PySem.Spec PyProof.Rows
end X6
end L2
namespace L2
namespace Dq
open PySem PySem.Spec PyProof.Rows PySem.W D1
/-- data of one type, as the heap has it -/
class Dt (α : Type) [DecidableEq α] [DatumOrd α] where
  At : Hp → V → α → Prop
  same : ∀ {H H' : Hp} {v : V} {x : α}, Same H H' → At H v x → At H' v x
  holds : ∀ {X : Cx} {pins : List (Addr × Obj)} {σ : St} {H : Hp} {s : Shared} {v : V} {u : Value} {x : α}, Inv X pins σ H s → At H v x → RelV v u → Holds s.heap u x
  sorts : (∀ b : α, ∃ x r, Datum.toD b = .tuple (x :: r)) ∨ ∀ b : α, Datum.toD b ≠ .none ∧ ∀ xs, Datum.toD b ≠ .tuple xs
instance : Dt Str where
  At _ v x := v = .str x
  same _ h := h
  holds _ h r := by
    subst h
    obtain ⟨t, rfl⟩ := r
    exact holds_str _ t
  sorts := .inr fun b => ⟨fun e => (by cases e), fun xs e => (by cases e)⟩
instance : Dt (Str × Str) where
  At H v p := ∃ z, v = .ref z ∧ H z = some (.tup [.str p.1, .str p.2])
  same s := fun ⟨z, e, h⟩ => ⟨z, e, s _ _ h⟩
  holds I h r := by
    obtain ⟨z, rfl, h⟩ := h
    cases r
    obtain ⟨its, rv, ht, _⟩ := I.tuple (SqT.of h)
    cases rv with
    | cons r1 rv => cases rv with
      | cons r2 rv =>
        cases rv
        obtain ⟨t1, rfl⟩ := r1
        obtain ⟨t2, rfl⟩ := r2
        exact holds_pair ht (holds_str _ t1) (holds_str _ t2)
  sorts := .inl fun b => ⟨_, _, rfl⟩
/-- item by item -/
def Ats {α : Type} [DecidableEq α] [DatumOrd α] [Dt α] (H : Hp) (vs : List V) (xs : List α) : Prop := Paired (Dt.At H) vs xs
section
variable {α : Type} [DecidableEq α] [DatumOrd α] [Dt α]
theorem Ats.same {H H' : Hp} {vs : List V} {xs : List α} (h : Ats H vs xs) (s : Same H H') : Ats H' vs xs := paired_imp (fun _ _ => Dt.same s) h
theorem Ats.len {H : Hp} {vs : List V} {xs : List α} (h : Ats H vs xs) : vs.length = xs.length := paired_len h
theorem Ats.holds {X : Cx} {pins : List (Addr × Obj)} {σ : St} {H : Hp} {s : Shared} (I : Inv X pins σ H s) : ∀ {vs : List V} {us : List Value} {xs : List α}, Ats H vs xs → Vals vs us → HoldAll s.heap us xs
  | _, _, _, .nil, .nil => HoldAll.nil
  | _, _, _, .cons h t, .cons r q => HoldAll.cons (Dt.holds I h r) (Ats.holds I t q)
instance : Dt (List α) where
  At H v xs := ∃ a vs, v = .ref a ∧ H a = some (.lst vs) ∧ Ats H vs xs
  same s := fun ⟨a, vs, e, h, t⟩ => ⟨a, vs, e, s _ _ h, t.same s⟩
  holds I h r := by
    obtain ⟨a, vs, rfl, h, t⟩ := h
    cases r
    obtain ⟨its, rv, hl, _⟩ := I.list (SqL.of h)
    exact holds_list hl.isList (by simpa using Ats.holds I t rv)
  sorts := .inr fun b => ⟨fun e => (by cases e), fun xs e => (by cases e)⟩
/-- x in xs, x == y: as truth values -/
def memG (p : α) (ps : List α) : Bool := decide (p ∈ ps)
def eqG (p q : α) : Bool := decide (p = q)
theorem memG_iff {p : α} {ps : List α} : memG p ps = true ↔ p ∈ ps := decide_eq_true_iff
theorem memG_not {p : α} {ps : List α} : memG p ps = false ↔ p ∉ ps := decide_eq_false_iff_not
theorem eqG_iff {p q : α} : eqG p q = true ↔ p = q := decide_eq_true_iff
theorem memG_nin (p : α) (ps : List α) : decide (p ∉ ps) = !memG p ps := by unfold memG; exact decide_not
theorem eqG_ne (p q : α) : decide (p ≠ q) = !eqG p q := by unfold eqG; exact decide_not
variable (α)
def rLt : R2 := fun x y H Q => ∃ p q : α, Dt.At H x p ∧ Dt.At H y q ∧ Q (.bl (DatumOrd.lt p q)) H
def rEq : R2 := fun x y H Q => ∃ p q : α, Dt.At H x p ∧ Dt.At H y q ∧ Q (.bl (eqG p q)) H
def rNe : R2 := fun x y H Q => ∃ p q : α, Dt.At H x p ∧ Dt.At H y q ∧ Q (.bl (!eqG p q)) H
def rIn (K : PySem.W.Frag) : R2 := fun x y H Q => ∃ (p : α) (ps : List α) (a : Addr) (vs : List V), Dt.At H x p ∧ y = .ref a ∧ SqL K H a vs ∧ Ats H vs ps ∧ Q (.bl (memG p ps)) H
def rNotIn (K : PySem.W.Frag) : R2 := fun x y H Q => ∃ (p : α) (ps : List α) (a : Addr) (vs : List V), Dt.At H x p ∧ y = .ref a ∧ SqL K H a vs ∧ Ats H vs ps ∧ Q (.bl (!memG p ps)) H
/-- in order: the least first -/
def leG (a b : α) : Bool := !DatumOrd.lt b a
def srtG (ps : List α) : List α := ps.mergeSort (leG α)
def rSort (K : PySem.W.Frag) : List V → Hp → VK → Prop := fun xs H Q => ∃ (a : Addr) (vs : List V) (ps : List α), xs = [.ref a] ∧ SqL K H a vs ∧ Ats H vs ps ∧
  ∀ (p : Addr) (ws : List V), Ats H ws (srtG α ps) → H p = none → Q (.ref p) (L2.upd H p (.lst ws))
/-- also: its items are the old ones -/
def rSortF (K : PySem.W.Frag) : List V → Hp → VK → Prop := fun xs H Q => ∃ (a : Addr) (vs : List V) (ps : List α), xs = [.ref a] ∧ SqL K H a vs ∧ Ats H vs ps ∧
  ∀ (p : Addr) (ws : List V), Ats H ws (srtG α ps) → H p = none → (∀ v ∈ ws, v ∈ vs) → Q (.ref p) (L2.upd H p (.lst ws))
/-- what is not yet in the heap -/
def Frs (H : Hp) (vs : List V) : Prop := ∀ v ∈ vs, ∀ a, v = .ref a → H a = none
theorem Frs.sub {H : Hp} {vs ws : List V} (h : Frs H vs) (s : ∀ v ∈ ws, v ∈ vs) : Frs H ws := fun v hv => h v (s v hv)
theorem Frs.app {H : Hp} {vs ws : List V} (h : Frs H vs) (g : Frs H ws) : Frs H (vs ++ ws) := fun v hv => (List.mem_append.mp hv).elim (h v) (g v)
theorem Frs.one {H : Hp} {a : Addr} (h : H a = none) : Frs H [.ref a] := fun v hv b e => by
  rw [List.mem_singleton.mp hv] at e
  rw [← V.ref.inj e]; exact h
theorem Frs.free {H H' : Hp} {vs : List V} (s : Same H H') (h : Frs H' vs) : Frs H vs := fun v hv a e => s.free (h v hv a e)
variable {α} {X : Cx}
theorem op_ltG (hu : X.A.units + Datum.depth α < cLine) : OpR X (compareOp .Lt) (rLt α) := by
  intro pins s σ H x y v u Q I rx ry h
  obtain ⟨p, q, hp, hq, k⟩ := h
  exact lt_datum (Dt.holds I hp rx) (Dt.holds I hq ry) hu ⟨.bl _, H, I, rfl, k⟩
theorem op_eqG (hu : X.A.units + Datum.depth α < cLine) : OpR X (compareOp .Eq) (rEq α) := by
  intro pins s σ H x y v u Q I rx ry h
  obtain ⟨p, q, hp, hq, k⟩ := h
  exact eq_datum (Dt.holds I hp rx) (Dt.holds I hq ry) hu ⟨.bl _, H, I, rfl, k⟩
theorem op_neG (hu : X.A.units + Datum.depth α < cLine) : OpR X (compareOp .NotEq) (rNe α) := by
  intro pins s σ H x y v u Q I rx ry h
  obtain ⟨p, q, hp, hq, k⟩ := h
  rw [← eqG_ne] at k
  exact ne_datum (Dt.holds I hp rx) (Dt.holds I hq ry) hu ⟨.bl _, H, I, rfl, k⟩
theorem op_inG (hu : X.A.units + 1 + Datum.depth α < cLine) : OpR X (compareOp .In) (rIn α X.K) := by
  intro pins s σ H x y v u Q I rx ry h
  obtain ⟨p, ps, a, vs, hp, rfl, hl, ha, k⟩ := h
  cases ry
  obtain ⟨its, rv, hL, _⟩ := I.list hl
  exact in_list_datum hL.isList (by simpa using Ats.holds I ha rv) (Dt.holds I hp rx) hu ⟨.bl _, H, I, rfl, k⟩
theorem op_ninG (hu : X.A.units + 1 + Datum.depth α < cLine) : OpR X (compareOp .NotIn) (rNotIn α X.K) := by
  intro pins s σ H x y v u Q I rx ry h
  obtain ⟨p, ps, a, vs, hp, rfl, hl, ha, k⟩ := h
  cases ry
  obtain ⟨its, rv, hL, _⟩ := I.list hl
  rw [← memG_nin] at k
  exact notIn_list_datum hL.isList (by simpa using Ats.holds I ha rv) (Dt.holds I hp rx) hu ⟨.bl _, H, I, rfl, k⟩
theorem each_of {X : Cx} {pins : List (Addr × Obj)} {σ : St} {H : Hp} {s : Shared} (I : Inv X pins σ H s) : ∀ {vs : List V} {us : List Value} {xs : List α}, Ats H vs xs → Vals vs us → EachIs (fun u (b : V × α) => RelV b.1 u ∧ Dt.At H b.1 b.2) us (vs.zip xs) ∧ EachIs (fun u (b : V × α) => ∃ as, Reads s.heap u (Datum.toD b.2) as) us (vs.zip xs) ∧ (vs.zip xs).map (·.2) = xs
  | _, _, _, .nil, .nil => ⟨.nil, .nil, rfl⟩
  | _, _, _, .cons h t, .cons r q => by
    obtain ⟨a, b, c⟩ := each_of I t q
    exact ⟨.cons ⟨r, h⟩ a, .cons (Dt.holds I h r) b, by rw [List.zip_cons_cons, List.map_cons, c]⟩
theorem of_each {H : Hp} : ∀ {us : List Value} {bs : List (V × α)}, EachIs (fun u (b : V × α) => RelV b.1 u ∧ Dt.At H b.1 b.2) us bs → Vals (bs.map (·.1)) us ∧ Ats H (bs.map (·.1)) (bs.map (·.2))
  | _, _, .nil => ⟨.nil, .nil⟩
  | _, _, .cons h t => ⟨.cons h.1 (of_each t).1, .cons h.2 (of_each t).2⟩
theorem leG_data (a b : α) : leG α a b = dataLe false (Datum.toD : α → PyData) a b := by
  rw [dataLe_eq]
  show _ = !dataLt (Datum.toD b) (Datum.toD a)
  rw [DatumOrd.lt_eq]; rfl
theorem leG_total : TotalLe (leG α) := by
  have e : leG α = dataLe false (Datum.toD : α → PyData) := by funext a b; exact leG_data a b
  rw [e]
  exact sortLe_total _ false _
theorem srtG_perm (ps : List α) : (srtG α ps).Perm ps := List.mergeSort_perm _ _
theorem srtG_pw (ps : List α) : (srtG α ps).Pairwise fun a b => leG α a b = true := sort_pairwise leG_total ps
theorem cr_sortGF (hu : X.A.units + 2 + Datum.depth α < cLine) : CallR X (.builtin "sorted") (rSortF α X.K) := by
  intro pins s σ H vs us Q I r h
  obtain ⟨a, ws, ps, rfl, hs, hp, q⟩ := h
  obtain ⟨its, rv, hl, hz⟩ := I.list hs
  obtain rfl := Vals.ref1 r
  obtain ⟨e1, e2, e3⟩ := each_of I hp rv
  have lz : (ws.zip ps).length = ws.length := by rw [List.length_zip, hp.len, Nat.min_self]
  refine sorted_data (enc := fun b : V × α => Datum.toD b.2) hl.isList e1 e2 (AllAlike.of fun b b' => DatumOrd.alike _ _) ?_ (by rw [lz]; exact hz) (fun b _ => ?_) fun out _ srtd => ?_
  · rcases (Dt.sorts : (∀ b : α, _) ∨ _) with h | h
    · exact .tuples fun b => h b.2
    · exact .others fun b => h b.2
  · have := Datum.depth_le b.2
    omega
  · obtain ⟨v1, a1⟩ := of_each srtd
    obtain ⟨ep, he⟩ := PyProof.Rows.sortedAll_at s.heap its out.toArray
    have em : ((ws.zip ps).mergeSort (dataLe false fun b : V × α => Datum.toD b.2)).map (·.2) = srtG α ps := by
      have z := List.map_mergeSort (r := dataLe false fun b : V × α => Datum.toD b.2) (s := leG α) (f := Prod.snd) (l := ws.zip ps) (fun a _ b _ => by rw [leG_data]; rfl)
      rw [show (ws.zip ps).map Prod.snd = ps from e3] at z
      exact z
    have ln : (((ws.zip ps).mergeSort (dataLe false fun b : V × α => Datum.toD b.2)).map (·.1)).length ≤ sizeLine := by rw [List.length_map, List.length_mergeSort, lz]; exact hz
    rw [em] at a1
    have ef : (ws.zip ps).map (·.1) = ws := List.map_fst_zip (by rw [hp.len]; exact Nat.le_refl _)
    have sub : ∀ v ∈ ((ws.zip ps).mergeSort (dataLe false fun b : V × α => Datum.toD b.2)).map (·.1), v ∈ ws := fun v hv => by
      rw [← ef]; exact (((List.mergeSort_perm _ _).map _).mem_iff).mp hv
    exact ⟨.ref _, L2.upd H (s.heap.objs.size + 1) (.lst _), I.laid (t' := s.toks) (fun _ _ => PyProof.Rows.sortedAll_old) (Nat.le_succ _) ⟨ln, out, ep, v1, he⟩, rfl, q _ _ a1 (I.hok.fresh (Nat.le_succ _)) sub⟩
theorem cr_sortG (hu : X.A.units + 2 + Datum.depth α < cLine) : CallR X (.builtin "sorted") (rSort α X.K) := by
  intro pins s σ H vs us Q I r h
  obtain ⟨a, ws, ps, e, hs, hp, q⟩ := h
  exact cr_sortGF hu pins s σ H vs us Q I r ⟨a, ws, ps, e, hs, hp, fun p us h n _ => q p us h n⟩
end
end Dq
end L2
namespace L2
namespace D1
open PySem PySem.Spec PyProof.Rows D2 X5 X6 Dq
abbrev sAsc : Stmt := top 6
abbrev ltP (p q : Pr) : Bool := PySem.W.DatumOrd.lt p q
def atP (ps : List Pr) (i : Nat) : Pr := ps.getD i ("", "")
def ascB (ps : List Pr) : Bool := (List.range (ps.length - 1)).all fun i => ltP (atP ps i) (atP ps (i + 1))
def spAsc (K : PySem.W.Frag) : Sp := fun vs H Q _ => ∃ (a : Addr) (us : List V) (ps : List Pr), vs = [.ref a] ∧ H a = some (.lst us) ∧ Ats H us ps ∧ ps.length ≤ 10000 ∧ ∀ H', Same H H' → Q (.bl (ascB ps)) H'
theorem Room.u65 {k : Nat} {A : Around} (r : Room k A) : A.units + 65 < cLine := by have := r.un; omega
theorem Room.u9 {k : Nat} {A : Around} (r : Room k A) {n : Nat} (h : n ≤ 9) : A.units + n < cLine := by have := Room.u65 r; omega
theorem ats_get {H : Hp} {us : List V} {ps : List Pr} (h : Ats H us ps) {i : Nat} {p : Pr} (e : ps[i]? = some p) : ∃ z, us[i]? = some (.ref z) ∧ PAt H z p := by
  have li : i < us.length := by rw [h.len]; exact (List.getElem?_eq_some_iff.mp e).1
  obtain ⟨q, hq, z, e1, hz⟩ := paired_get h (List.getElem?_eq_getElem li)
  rw [e] at hq
  cases hq
  exact ⟨z, by rw [List.getElem?_eq_getElem li, e1], hz⟩
theorem ltP_irrefl (p : Pr) : ltP p p = false := by
  have := (leG_total (α := Pr)).refl p
  unfold leG at this
  exact Bool.not_eq_true' _ ▸ this
theorem lt_trans {p q r : Pr} (h : ltP p q = true) (g : ltP q r = true) : ltP p r = true := by
  cases c : ltP p r with
  | true => rfl
  | false =>
    have h1 : leG Pr r p = true := by unfold leG; exact congrArg (!·) c
    have h2 : leG Pr p q = true := by
      rcases (leG_total (α := Pr)).total p q with z | z
      · exact z
      · unfold leG at z; rw [show PySem.W.DatumOrd.lt p q = true from h] at z; cases z
    have h3 := (leG_total (α := Pr)).trans r p q h1 h2
    unfold leG at h3
    rw [show PySem.W.DatumOrd.lt q r = true from g] at h3; cases h3
theorem ascB_cons {p q : Pr} {r : List Pr} : ascB (p :: q :: r) = (ltP p q && ascB (q :: r)) := by
  unfold ascB
  rw [show (p :: q :: r).length - 1 = (q :: r).length - 1 + 1 by simp, List.range_succ_eq_map, List.all_cons, List.all_map]
  rfl
theorem ascB_iff : ∀ {ps : List Pr}, ascB ps = true ↔ ps.Pairwise fun a b => ltP a b = true
  | [] => ⟨fun _ => .nil, fun _ => rfl⟩
  | [p] => ⟨fun _ => List.pairwise_singleton _ _, fun _ => rfl⟩
  | p :: q :: r => by
    rw [ascB_cons, Bool.and_eq_true, ascB_iff (ps := q :: r)]
    constructor
    · rintro ⟨a, b⟩
      refine List.pairwise_cons.mpr ⟨fun x hx => ?_, b⟩
      rcases List.mem_cons.mp hx with e | m
      · rw [e]; exact a
      · exact lt_trans a ((List.pairwise_cons.mp b).1 x m)
    · intro h
      have h := List.pairwise_cons.mp h
      exact ⟨h.1 q List.mem_cons_self, h.2⟩
section
variable {P : Program} {w : World} {K : PySem.W.Frag} {mg : Str → Option Value} {base : Heap}
theorem scAs : FnScope ["items", "at"] ["items"] (defScope sAsc) := ⟨rfl, rfl, rfl, by decide +kernel, rfl, by decide +kernel, by decide +kernel⟩
theorem ok_asc {f : Addr} {fd : FuncData} (F : Fun K "is_ascending" "is_ascending" sAsc f fd) (T : Free3 mg) : FnOk P w K mg base CX0 1 f fd ["items"] (spAsc K) := by
  refine F.ok scAs (fun vs H Q E h => ?_) (fun cdv A outer s H vs Q E0' hr h => ?_)
  · obtain ⟨a, us, ps, rfl, _⟩ := h; rfl
  · obtain ⟨a, us, ps, rfl, hS, hA, l, k⟩ := h
    have hu := hu_of hr
    refine ⟨_, pss_one (ps_ret (pe_callB (cr_all rfl) (by rfl) T.all (by decide +kernel) (pa_cons (pe_lc (own := [("at", 1)]) (g := gName 1) (tt := tYes) (te := tOp (rLt Pr) (tOp (rIxL K) (tVar 0) (tVar 1)) (tOp (rIxL K) (tVar 0) (tOp (rI0 fun i j => .int (i + j)) (tVar 1) (tC (.int 1))))) rfl scAs.nd (pi_range1 rfl T.range (pa_cons (pe_op op_sub (pe_callB call_len_seq (by rfl) T.len PySem.boot_len (pa_cons (pv 0) pa_nil)) pe_int) pa_nil))
        (blkOk_by (N := ["items", "at"]) (sc := defScope sAsc) (by decide +kernel)) (fun _ _ _ _ _ => pg_name (i := 1) scAs.nd rfl (Or.inl rfl)) (fun _ _ _ _ _ => pts_nil) (fun _ _ _ _ _ => pe_cmpR (op_ltG (Room.u9 hr (by decide))) (pe_ix ix_list (pv 0) (pv 1) (fun _ _ => rfl)) (pe_ix ix_list (pv 0) (pe_op op_add (pv 1) pe_int) (fun _ _ => rfl)) (by rfl))) pa_nil))), ?_⟩
    have lu := hA.len
    refine ⟨_, rfl, a, _, rfl, .inl (SqL.of hS), _, _, rfl, rfl, _, rfl, by omega, by omega, fun D hD => ?_⟩
    have hn : ((us.length : Int) - 1).toNat = ps.length - 1 := by omega
    rw [hn]
    refine lc_range (lo := 0) (n := ps.length - 1) (fun i H' => Same H H' ∧ H' D = some (.lst (((List.range i).map fun i => ltP (atP ps i) (atP ps (i + 1))).map V.bl))) ⟨Same.new hD, upd_same⟩ ?_ ?_
    · rintro i H1 hi ⟨sm, hD'⟩
      have h1 := List.getElem?_eq_getElem (show i < ps.length by omega)
      have h2 := List.getElem?_eq_getElem (show i + 1 < ps.length by omega)
      obtain ⟨z1, e1, hz1⟩ := ats_get hA h1
      obtain ⟨z2, e2, hz2⟩ := ats_get hA h2
      have g1 : atP ps i = ps[i]'(by omega) := by unfold atP; rw [List.getD_eq_getElem?_getD, h1]; rfl
      have g2 : atP ps (i + 1) = ps[i + 1]'(by omega) := by unfold atP; rw [List.getD_eq_getElem?_getD, h2]; rfl
      refine ⟨rfl, ?_⟩
      dsimp only [tYes]
      rw [if_pos rfl]
      refine ⟨_, rfl, _, rfl, a, _, _, _, rfl, rfl, SqL.of (sm _ _ hS), by rw [Int.zero_add]; exact atI_nat (j := i) e1, _, rfl, _, rfl, _, _, rfl, rfl, a, _, _, _, rfl, rfl, SqL.of (sm _ _ hS), by rw [Int.zero_add]; exact atI_nat (j := i + 1) e2, _, _, ⟨z1, rfl, sm _ _ hz1⟩, ⟨z2, rfl, sm _ _ hz2⟩, ?_⟩
      refine ⟨_, hD', by rw [List.length_map, List.length_map, List.length_range, sizeLine_eq]; omega, fun c u e => ?_, ?_⟩
      · rw [upd_ne (ne_of_none e hD)]; exact sm _ _ e
      · rw [upd_same, List.range_succ, List.map_append, List.map_append, ← g1, ← g2]; rfl
    · rintro H' ⟨sm, hD'⟩
      refine ⟨D, _, rfl, SqL.of hD', ?_⟩
      rw [all_map]
      exact k H' sm
end
end D1
end L2
namespace L2
namespace D1
open PySem PySem.Spec PyProof.Rows D2 X5 X6 X7 Kt Dq
abbrev sBookW : Stmt := top 24
abbrev sRowW : Stmt := top 25
/-- a lot of pairs: in a list, or as the keys of a dict -/
def LotAt (H : Hp) (v : V) (ps : List Pr) : Prop := (∃ a us, v = .ref a ∧ H a = some (.lst us) ∧ Ats H us ps) ∨ ∃ D, v = .ref D ∧ H D = some (.dT (FT ps))
theorem LotAt.same {H H' : Hp} {v : V} {ps : List Pr} (h : LotAt H v ps) (s : Same H H') : LotAt H' v ps := h.imp (fun ⟨a, us, e, x, y⟩ => ⟨a, us, e, s _ _ x, y.same s⟩) fun ⟨D, e, x⟩ => ⟨D, e, s _ _ x⟩
theorem ats_dK {H : Hp} {a : Addr} {k : List (Key × V)} {o : HO} (e : H a = some (.dK k)) {us : List V} {ps : List Pr} (h : Ats H us ps) : Ats (L2.upd H a o) us ps :=
  paired_imp (fun v p ⟨z, ez, hz⟩ => ⟨z, ez, by rw [upd_ne (fun q => by rw [q, e] at hz; cases hz)]; exact hz⟩) h
theorem LotAt.dK {H : Hp} {a : Addr} {k : List (Key × V)} {o : HO} (e : H a = some (.dK k)) {v : V} {ps : List Pr} (h : LotAt H v ps) : LotAt (L2.upd H a o) v ps :=
  h.imp (fun ⟨b, us, ev, x, y⟩ => ⟨b, us, ev, by rw [upd_ne (fun q => by rw [q, e] at x; cases x)]; exact x, ats_dK e y⟩) fun ⟨D, ev, x⟩ => ⟨D, ev, by rw [upd_ne (fun q => by rw [q, e] at x; cases x)]; exact x⟩
def rNinLot : R2 := fun x y H Q => ∃ (z : Addr) (p : Pr) (ps : List Pr), x = .ref z ∧ PAt H z p ∧ LotAt H y ps ∧ Q (.bl (!memG p ps)) H
theorem op_ninLot {X : Cx} (hu : X.A.units + 1 < cLine) (hu2 : X.A.units + 1 + PySem.W.Datum.depth Pr < cLine) : OpR X (compareOp .NotIn) rNinLot := by
  intro pins s σ H x y v u Q I rx ry h
  obtain ⟨z, p, ps, rfl, hz, hl, k⟩ := h
  rcases hl with ⟨a, us, rfl, ha, hA⟩ | ⟨D, rfl, hD⟩
  · exact op_ninG (α := Pr) hu2 pins s σ H _ _ v u Q I rx ry ⟨p, ps, a, us, ⟨z, rfl, hz⟩, rfl, SqL.of ha, hA, k⟩
  · obtain rfl : u = Value.ref D := ry
    have e : (!(valV (FT ps) (kP p)).isSome) = !memG p ps := by
      rw [FT_val, Bool.eq_iff_iff, Bool.not_eq_true', Bool.not_eq_true', decide_eq_false_iff_not, memG_not]
    exact d_notIn hu I (DGet.t (k := kP p) hD hz) rx fun s3 I3 => ⟨.bl _, H, I3, rfl, by rw [e]; exact k⟩
/-- the turns of a row without the lot's words -/
def wT (s : Str) (ps : List Pr) (ts : List (Str × Str)) : List (Str × Str) := ts.filter fun t => !memG (s, t.1) ps
def wB (ps : List Pr) (bk : Bk) : Bk := bk.map fun r => (r.1, r.2.1, wT r.1 ps r.2.2)
theorem wB_names (ps : List Pr) (bk : Bk) : (wB ps bk).map (·.1) = bk.map (·.1) := by rw [wB, List.map_map]; rfl
def empB (k : Str) (b : Bk) : Bool := b.any fun r => decide (r.2.1 = k) && decide (r.2.2.length = 0)
def spRowW : Sp := fun vs H Q _ => ∃ (t a : Addr) (s : Str) (v : V) (k : Str) (ts : List (Str × Str)) (ps : List Pr), vs = [.ref t, .str s, v] ∧ H t = some (.tup [.str k, .ref a]) ∧ TurnsAt H a ts ∧ (ts.map (·.1)).Nodup ∧ ts.length ≤ 60 ∧ LotAt H v ps ∧
  ∀ H' t' a', Same H H' → H' t' = some (.tup [.str k, .ref a']) → TurnsAt H' a' (wT s ps ts) → H a' = none → Q (.ref t') H'
def spBookW : Sp := fun vs H Q _ => ∃ (B : Addr) (kd : Str) (v : V) (bk : Bk) (ps : List Pr), vs = [.ref B, .str kd, v] ∧ BookAt H B bk ∧ VOk bk ∧ bk ≠ [] ∧ LotAt H v ps ∧
  ∀ H' D, Same H H' → H D = none → BookAt H' D (wB ps bk) → Q (if empB kd (wB ps bk) = true then .non else .ref D) H'
section
variable {P : Program} {w : World} {K : PySem.W.Frag} {mg : Str → Option Value} {base : Heap} {C : Addr}
abbrev CRowW (P : Program) (w : World) (K : PySem.W.Frag) (mg : Str → Option Value) (base : Heap) := Cal P w K mg base "row_without" 1 ["row", "state", "lot"] spRowW
abbrev rwN : List Str := ["row", "state", "lot", "kind", "turns", "word"]
theorem scRw : FnScope rwN ["row", "state", "lot"] (defScope sRowW) := ⟨rfl, rfl, rfl, by decide +kernel, rfl, by decide +kernel, by decide +kernel⟩
theorem ok_roww {f : Addr} {fd : FuncData} (F : Fun K "row_without" "row_without" sRowW f fd) : FnOk P w K mg base CX0 1 f fd ["row", "state", "lot"] spRowW := by
  refine F.ok scRw (fun vs H Q E h => ?_) (fun cdv A0 outer s H vs Q E hr h => ?_)
  · obtain ⟨t, a, s, v, k, ts, ps, rfl, _⟩ := h; rfl
  · obtain ⟨t, a, s, v, kd, ts, ps, rfl, ht, ha, nd, l60, hl, k⟩ := h
    have hu := hu_of hr
    refine ⟨_, pss_cons (ps_asg (pv 0) (pg_tup rfl (pgs_cons (pg_name (i := 3) scRw.nd rfl (Or.inl rfl)) (pgs_cons (pg_name (i := 4) scRw.nd rfl (Or.inr rfl)) pgs_nil))))
      (pss_one (ps_ret (pe_tup (pa_cons (pv 3) (pa_cons (pe_lock (pe_dc (own := [("word", 5)]) (g := gName 5) (tt := tTest (tOp rNinLot (tTup (tCons (tVar 1) (tCons (tVar 5) tNil))) (tVar 2))) (tk := tVar 5) (tv := tDGet (tVar 4) (tVar 5)) rfl scRw.nd (pi_keys (pv 4)) (blkOk_by (N := rwN) (sc := defScope sRowW) (by decide +kernel))
          (fun _ _ _ _ _ => pg_name (i := 5) scRw.nd rfl (Or.inl rfl)) (fun _ _ _ _ _ => pts_one (pt_cmpR (op_ninLot (Room.u9 hr (n := 1) (by decide)) (Room.u9 hr (n := 1 + PySem.W.Datum.depth Pr) (by decide))) (pe_tup (pa_cons (pv 1) (pa_cons (pv 5) pa_nil))) (pv 2) (by rfl))) (fun _ _ _ _ _ => pv 5) (fun _ _ _ _ _ => pe_dget hu (pv 4) (pv 5) (fun _ _ => rfl)))) pa_nil))))), ?_⟩
    refine ⟨_, rfl, t, _, rfl, SqT.of ht, rfl, _, _, rfl, _, _, rfl, rfl, ?_⟩
    refine ⟨_, rfl, a, _, ha, trivial, fun od => ⟨_, rfl, a, od, rfl, .inl ⟨kT ts, upd_same, fun D hD => ?_⟩⟩⟩
    have nD : D ≠ a := fun e => by rw [e, upd_same] at hD; cases hD
    have hD0 : H D = none := upd_none' hD
    have lk : (kT ts).length = ts.length := by rw [kT, List.length_map]
    have hlL := hl.dK (o := .frz od (.dK (kT ts))) ha
    refine dc_it (walk_keys (d := a) (o := od) (kvs := kT ts)) (fun j H' => Same (L2.upd H a (.frz od (.dK (kT ts)))) H' ∧ H' D = some (.dK (kT (wT s ps (ts.take j))))) ⟨Same.new hD, upd_same⟩ (fun j H' _ z => z.1 _ _ upd_same) ?_ ?_
    · rintro j xv H2 H3 hj ⟨s2, hD2⟩ ⟨rfl, k0, v0, hkv, rfl⟩
      rw [kT, List.getElem?_map] at hkv
      obtain ⟨u, hu2, e⟩ := Option.map_eq_some_iff.mp hkv
      have e1 : Sum.inr u.1 = k0 := (Prod.mk.inj e).1
      subst e1
      have um := List.mem_of_getElem? hu2
      refine ⟨rfl, _, rfl, _, rfl, (by show 2 ≤ sizeLine; decide), fun T1 hT1 => ?_⟩
      have g1 := Same.new (o := .tup [.str s, kV (Sum.inr u.1)]) hT1
      have s21 := Same.trans s2 g1
      have hD1 := g1 _ _ hD2
      have hz : PAt (L2.upd H3 T1 (.tup [.str s, kV (Sum.inr u.1)])) T1 (s, u.1) := upd_same
      generalize L2.upd H3 T1 (.tup [.str s, kV (Sum.inr u.1)]) = H4 at g1 s21 hD1 hz
      have dg : DGet H4 a (V.str u.1) (some (.str u.2)) := .inl ⟨kT ts, .inr u.1, .inr ⟨od, s21 _ _ upd_same⟩, rfl, (kT_get nd um).symm⟩
      refine ⟨_, rfl, T1, (s, u.1), ps, rfl, hz, hlL.same s21, ?_⟩
      have lf : (kT (wT s ps (ts.take j))).length ≤ 60 := by
        rw [kT, List.length_map, wT]
        have := List.length_filter_le (fun t : Str × Str => !memG (s, t.1) ps) (ts.take j)
        rw [List.length_take] at this
        omega
      refine ⟨_, rfl, ?_⟩
      cases c : memG (s, u.1) ps with
      | false =>
        refine iteT ⟨_, rfl, _, rfl, _, rfl, a, _, rfl, dg, _, .inr u.1, rfl, hD1, by rw [sizeLine_eq]; omega, fun b o e => ?_, ?_⟩
        · rw [upd_ne (ne_of_none e hD)]; exact s21 _ _ e
        · rw [upd_same, L2.putK_new _ (kT_no fun m => ?_)]
          · unfold wT
            rw [filt_yes hu2 (by rw [c]; rfl), kT_snoc]
          · obtain ⟨y, hy, ey⟩ := List.mem_map.mp m
            have h2 : (ts.map (·.1))[j]? = some u.1 := by rw [List.getElem?_map, hu2]; rfl
            have := not_before (gs := []) (ls := ts.map (·.1)) (by simpa using nd) h2
            rw [List.nil_append, ← List.map_take] at this
            exact this (ey ▸ List.mem_map_of_mem (List.mem_filter.mp hy).1)
      | true => exact iteF ⟨s21, by unfold wT; rw [filt_no hu2 (by rw [c]; rfl)]; exact hD1⟩
    rintro H2 ⟨s2, hD2⟩
    rw [lk, List.take_length] at hD2
    have s3 : Same H (L2.upd H2 a (.dK (kT ts))) := Same.unlock ha s2
    refine ⟨s2 _ _ upd_same, (show 2 ≤ sizeLine by rw [sizeLine_eq]; decide), fun T hT => ?_⟩
    have hD3 : (L2.upd H2 a (.dK (kT ts))) D = some (.dK (kT (wT s ps ts))) := by rw [upd_ne nD]; exact hD2
    refine k _ T D (Same.trans s3 (Same.new hT)) upd_same ?_ hD0
    rw [TurnsAt, upd_ne (ne_of_none hD3 hT)]; exact hD3
abbrev bwN : List Str := ["book", "kind", "lot", "left", "state"]
theorem scBw : FnScope bwN ["book", "kind", "lot"] (defScope sBookW) := ⟨rfl, rfl, rfl, by decide +kernel, rfl, by decide +kernel, by decide +kernel⟩
/-- a row of the kind, without words -/
def tEmR : TE := fun σ H Q => ∃ (B D t a : Addr) (v : V) (kd k s : Str) (kvs : List (Key × V)) (ts : List (Str × Str)), σ = [some (.ref B), some (.str kd), some v, some (.ref D), some (.str s)] ∧ Rd H D (.dK kvs) ∧ valV kvs (.inr s) = some (.ref t) ∧ H t = some (.tup [.str k, .ref a]) ∧ TurnsAt H a ts ∧
  Q (.bl (decide (k = kd) && decide (ts.length = 0))) H
def tEm : TE := fun σ H Q => ∃ (B D : Addr) (v : V) (kd : Str) (b : Bk) (v4 : Option V), σ = [some (.ref B), some (.str kd), some v, some (.ref D), v4] ∧ BookAt H D b ∧ (b.map (·.1)).Nodup ∧ b ≠ [] ∧ b.length ≤ 3600 ∧ ∀ H', Same H H' → Q (.bl (empB kd b)) H'
theorem dec_str (a b : Str) : decide (V.str a = V.str b) = decide (a = b) := by
  rw [Bool.eq_iff_iff, decide_eq_true_iff, decide_eq_true_iff]
  exact ⟨fun e => V.str.inj e, fun e => by rw [e]⟩
theorem em_ok {X : Cx} {σ : St} {H : Hp} {Q : VK} (h : tEm σ H Q) : tLockE (tLc (iKeys (tVar 3)) (gName 4) tYes tEmR [4]) σ H fun x H1 => rAny X.K [x] H1 Q := by
  obtain ⟨B, D, v, kd, b, v4, rfl, ⟨kvs, hD, hR⟩, nd, ne, l, k⟩ := h
  have lk : kvs.length = b.length := hR.len
  refine ⟨D, _, hD, trivial, fun od => ⟨_, rfl, D, od, rfl, .inl ⟨kvs, upd_same, fun M hM => ?_⟩⟩⟩
  have nM : M ≠ D := fun e => by rw [e, upd_same] at hM; cases hM
  have hRL := hR.lock (o := .frz od (.dK kvs)) hD ne
  refine lc_it (walk_keys (d := D) (o := od) (kvs := kvs)) (fun j H' => Same (L2.upd H D (.frz od (.dK kvs))) H' ∧ H' M = some (.lst (((b.take j).map fun r => decide (r.2.1 = kd) && decide (r.2.2.length = 0)).map V.bl))) ⟨Same.new hM, upd_same⟩ (fun j H' _ z => z.1 _ _ upd_same) ?_ ?_
  · rintro j xv H2 H3 hj ⟨s2, hM2⟩ ⟨rfl, k0, v0, hkv, rfl⟩
    obtain ⟨r, hr', ek, _⟩ := paired_get hR hkv
    have ek : k0 = .inr r.1 := ek
    subst ek
    have rm : r ∈ b := List.mem_of_getElem? hr'
    obtain ⟨v1, ev, ⟨t, a, rfl, ht, ha⟩, _⟩ := (hRL.same s2).look (List.mem_map_of_mem rm)
    rw [rowOf_self nd rm] at ht ha
    have jl : j < b.length := (List.getElem?_eq_some_iff.mp hr').1
    refine ⟨rfl, ?_⟩
    dsimp only [tYes]
    rw [if_pos rfl]
    refine ⟨B, D, t, a, v, kd, r.2.1, r.1, kvs, r.2.2, rfl, .inr ⟨od, s2 _ _ upd_same⟩, ev, ht, ha, _, hM2, by rw [List.length_map, List.length_map, List.length_take, sizeLine_eq]; omega, fun c u e => ?_, by rw [upd_same, take_succ_get hr', List.map_append, List.map_append]; rfl⟩
    rw [upd_ne (ne_of_none e hM)]; exact s2 _ _ e
  · rintro H2 ⟨s2, hM2⟩
    rw [lk, List.take_length] at hM2
    have su := Same.unlock hD s2
    refine ⟨s2 _ _ upd_same, M, _, rfl, SqL.of (by rw [upd_ne nM]; exact hM2), ?_⟩
    have e : ((b.map fun r => decide (r.2.1 = kd) && decide (r.2.2.length = 0)).any id) = empB kd b := by rw [List.any_map]; rfl
    rw [e]
    exact k _ su
theorem ok_bookw {f : Addr} {fd : FuncData} (F : Fun K "book_without" "book_without" sBookW f fd) (T : Free4 mg) (CR : CRowW P w K mg base) : FnOk P w K mg base CX0 2 f fd ["book", "kind", "lot"] spBookW := by
  refine F.ok scBw (fun vs H Q E h => ?_) (fun cdv A0 outer s H vs Q E hr h => ?_)
  · obtain ⟨B, kd, v, bk, ps, rfl, _⟩ := h; rfl
  · obtain ⟨B, kd, v, bk, ps, rfl, hBk, ok, ne, hl, k⟩ := h
    obtain ⟨kvs, hB, hRc⟩ := id hBk
    have hu := hu_of hr
    refine ⟨_, pss_cons (ps_lock (ps_set (i := 3) scBw.nd rfl (Or.inr rfl) (pe_dc (own := [("state", 4)]) (g := gName 4) (tt := tYes) (tk := tVar 4) (tv := tCall spRowW [] E0 (tCons (tDGet (tVar 0) (tVar 4)) (tCons (tVar 4) (tCons (tVar 2) tNil)))) rfl scBw.nd (pi_keys (pv 0)) (blkOk_by (N := bwN) (sc := defScope sBookW) (by decide +kernel))
          (fun _ _ _ _ _ => pg_name (i := 4) scBw.nd rfl (Or.inl rfl)) (fun _ _ _ _ _ => pts_nil) (fun _ _ _ _ _ => pv 4) (fun _ _ _ _ _ => pe_cal CR (hr.mono (by decide)) rfl (pa_cons (pe_dget hu (pv 0) (pv 4) (fun _ _ => rfl)) (pa_cons (pv 4) (pa_cons (pv 2) pa_nil)))))))
      (pss_cons (ps_if (pt_val (pe_imp (t' := tEm) (pe_callB (cr_any rfl) (by rfl) T.any (by decide +kernel) (pa_cons (pe_lock (pe_lc (own := [("state", 4)]) (g := gName 4) (tt := tYes) (te := tEmR) rfl scBw.nd (pi_keys (pv 3))
          (blkOk_by (N := bwN) (sc := defScope sBookW) (by decide +kernel)) (fun _ _ _ _ _ => pg_name (i := 4) scBw.nd rfl (Or.inl rfl)) (fun _ _ _ _ _ => pts_nil) (fun _ _ _ _ _ => pe_imp (t' := tEmR) (pe_and (pe_cmpR op_eq (pe_ix ix_tup (pe_dget hu (pv 3) (pv 4) (fun _ _ => rfl)) pe_int (fun _ _ => rfl)) (pv 1) (nomark _)) (pe_one (pe_cmpR op_eq (pe_callB call_lenD (by rfl) T.len PySem.boot_len (pa_cons (pe_ix ix_tup (pe_dget hu (pv 3) (pv 4) (fun _ _ => rfl)) pe_int (fun _ _ => rfl)) pa_nil)) pe_int (nomark _)))) (by
            rintro σ H Q ⟨B, D, t, a, v, kd, k, s, kvs, ts, rfl, hD, hv, ht, ha, q⟩
            have dg : DGet H D (V.str s) (some (.ref t)) := .inl ⟨kvs, .inr s, hD, rfl, hv.symm⟩
            refine ⟨_, rfl, _, rfl, D, _, rfl, dg, t, _, _, _, rfl, rfl, SqT.of ht, atI_nat (j := 0) rfl, ?_⟩
            refine ⟨_, rfl, rfl, _, rfl, ?_⟩
            rw [dec_str]
            by_cases c : k = kd
            · refine (if_pos (decide_eq_true c)).mpr ⟨_, rfl, _, rfl, D, _, rfl, dg, t, _, _, _, rfl, rfl, SqT.of ht, atI_nat (j := 1) rfl, a, _, rfl, ha, rfl, ?_⟩
              have e : decide (V.int ((kT ts).length : Int) = V.int 0) = decide (ts.length = 0) := by
                rw [kT, List.length_map, Bool.eq_iff_iff, decide_eq_true_iff, decide_eq_true_iff]
                exact ⟨fun e => by have := V.int.inj e; omega, fun e => by rw [e]; rfl⟩
              rw [e]
              rw [decide_eq_true c, Bool.true_and] at q
              exact q
            · refine (if_neg (by rw [decide_eq_false c]; decide)).mpr ?_
              rw [decide_eq_false c, Bool.false_and] at q
              exact q)))) pa_nil)) (fun σ H Q h => em_ok h))) (pss_one (ps_ret pe_non)) pss_nil)
      (pss_one (ps_ret (pv 3)))), ?_⟩
    refine ⟨B, _, hB, trivial, fun od => ⟨_, rfl, B, od, rfl, .inl ⟨kvs, upd_same, fun D hD => ?_⟩⟩⟩
    have nD : D ≠ B := fun e => by rw [e, upd_same] at hD; cases hD
    have hD0 : H D = none := upd_none' hD
    have hlk : kvs.length = bk.length := hRc.len
    have hlL := hl.dK (o := .frz od (.dK kvs)) hB
    refine dc_it (walk_keys (d := B) (o := od) (kvs := kvs)) (fun i H' => Same (L2.upd H B (.frz od (.dK kvs))) H' ∧ ∃ kv2, H' D = some (.dK kv2) ∧ Rows (cut [D] H') kv2 (wB ps (bk.take i))) ⟨Same.new hD, [], upd_same, .nil⟩ (fun i H' _ z => z.1 _ _ upd_same) ?_ ?_
    · rintro i xv H2 H3 hi ⟨s2, kv2, hD2, hR2⟩ ⟨rfl, k0, v0, hkv, rfl⟩
      obtain ⟨r, hr', ek, _⟩ := paired_get hRc hkv
      have ek : k0 = .inr r.1 := ek
      subst ek
      have rm : r ∈ bk := List.mem_of_getElem? hr'
      have xm : r.1 ∈ bk.map (·.1) := List.mem_map_of_mem rm
      obtain ⟨t, a, ev, ntB, naB, ht, ha⟩ := hRc.apart hB xm
      rw [rowOf_self ok.nd rm] at ht ha
      have ht3 : H3 t = some (.tup [.str r.2.1, .ref a]) := s2 _ _ (by rw [upd_ne ntB]; exact ht)
      have ha3 : TurnsAt H3 a r.2.2 := s2 _ _ (by rw [upd_ne naB]; exact ha)
      have dg : DGet H3 B (V.str r.1) (some (.ref t)) := .inl ⟨kvs, .inr r.1, .inr ⟨od, s2 _ _ upd_same⟩, rfl, ev.symm⟩
      have nn : r.1 ∉ (wB ps (bk.take i)).map (·.1) := by
        rw [wB_names, List.map_take]
        exact nd_take ok.nd (by rw [List.getElem?_map, hr']; rfl)
      have fr := hR2.fresh nn
      have l2 : kv2.length ≤ 3600 := by
        rw [hR2.len, wB, List.length_map, List.length_take]
        have := ok.len
        omega
      refine ⟨rfl, ?_⟩
      dsimp only [tYes]
      rw [if_pos rfl]
      refine ⟨_, rfl, _, rfl, _, rfl, B, _, rfl, dg, _, rfl, _, rfl, t, a, r.1, v, r.2.1, r.2.2, ps, rfl, ht3, ha3, ok.wn r rm, ok.l60 r rm, hlL.same s2, fun H4 t' a' s4 ht4 ha4 fr4 => ?_⟩
      have hD4 := s4 _ _ hD2
      have nt' : t' ≠ D := fun e => by rw [e, hD4] at ht4; cases ht4
      have na' : a' ≠ D := fun e => by rw [e, hD2] at fr4; cases fr4
      refine ⟨kv2, .inr r.1, rfl, hD4, by rw [sizeLine_eq]; omega, fun c u e => ?_, _, upd_same, ?_⟩
      · rw [upd_ne (ne_of_none e hD)]; exact s4 _ _ (s2 _ _ e)
      · rw [D1.putK_new fr, take_succ_get hr', wB, List.map_append, cut_upd (by simp)]
        refine (hR2.same (cut_same s4)).app ⟨t', a', rfl, ?_, ?_⟩
        · rw [cut_out (by simpa using nt')]; exact ht4
        · rw [TurnsAt, cut_out (by simpa using na')]; exact ha4
    rintro H2 ⟨s2, kv2, hD2, hR2⟩
    rw [hlk, List.take_length] at hR2
    have fB := s2 _ _ upd_same
    have su := Same.unlock hB s2
    have hDk : BookAt (L2.upd H2 B (.dK kvs)) D (wB ps bk) := ⟨kv2, by rw [upd_ne nD]; exact hD2, rows_nf (hR2.same cut_le) fun z o e nf => by rw [upd_ne (fun q => by rw [q, fB] at e; exact nf _ _ (Option.some.inj e).symm)]; exact e⟩
    refine ⟨fB, ?_⟩
    generalize L2.upd H2 B (.dK kvs) = H3 at su hDk
    have fin := fun H4 (s4 : Same H3 H4) => k H4 D (Same.trans su s4) hD0 (hDk.same s4)
    refine ⟨B, D, v, kd, wB ps bk, none, rfl, hDk, by rw [wB_names]; exact ok.nd, fun e => ne (List.map_eq_nil_iff.mp e), by rw [wB, List.length_map]; exact ok.len, fun H4 s4 => ⟨_, rfl, ?_⟩⟩
    cases c : empB kd (wB ps bk) with
    | true =>
      have := fin H4 s4
      rw [c, if_pos rfl] at this
      exact iteT this
    | false =>
      have := fin H4 s4
      rw [c, if_neg (by decide)] at this
      exact iteF ⟨_, rfl, this⟩
end
end D1
end L2
namespace L2
namespace D1
open PySem PySem.Spec PyProof.Rows D2 X5 X6 X7 Kt Dq
abbrev sWordsAt : Stmt := top 23
def rowW (k : Str) (r : Str × Str × List (Str × Str)) : List Pr := if r.2.1 = k then r.2.2.map fun t => (r.1, t.1) else []
/-- the words of the states of a kind, with their states -/
def wordsB (k : Str) (bk : Bk) : List Pr := bk.flatMap (rowW k)
def spWordsAt : Sp := fun vs H Q _ => ∃ (B : Addr) (kd : Str) (bk : Bk), vs = [.ref B, .str kd] ∧ BookAt H B bk ∧ VOk bk ∧ bk ≠ [] ∧
  ∀ H' R us, Same H H' → H R = none → H' R = some (.lst us) → Ats H' us (srtG Pr (wordsB kd bk)) → Q (.ref R) H'
theorem wordsB_len {k : Str} : ∀ {b : Bk} (_ : ∀ r ∈ b, r.2.2.length ≤ 60), (wordsB k b).length ≤ 60 * b.length
  | [], _ => Nat.le_refl _
  | r :: b, h => by
    have ih := wordsB_len (k := k) (b := b) fun x hx => h x (List.mem_cons_of_mem _ hx)
    unfold wordsB at ih ⊢
    rw [List.flatMap_cons, List.length_append, List.length_cons]
    have : (rowW k r).length ≤ 60 := by
      unfold rowW
      split
      · rw [List.length_map]; exact h r List.mem_cons_self
      · exact Nat.zero_le _
    omega
theorem wordsB_snoc {k : Str} {bk : Bk} {i : Nat} {r : Str × Str × List (Str × Str)} (h : bk[i]? = some r) : wordsB k (bk.take (i + 1)) = wordsB k (bk.take i) ++ rowW k r := by
  unfold wordsB
  rw [take_succ_get h, List.flatMap_append, List.flatMap_singleton]
section
variable {P : Program} {w : World} {K : PySem.W.Frag} {mg : Str → Option Value} {base : Heap} {C : Addr}
abbrev waN : List Str := ["book", "kind", "state", "word"]
theorem scWa : FnScope waN ["book", "kind"] (defScope sWordsAt) := ⟨rfl, rfl, rfl, by decide +kernel, rfl, by decide +kernel, by decide +kernel⟩
theorem ok_wordsat {f : Addr} {fd : FuncData} (F : Fun K "words_at" "words_at" sWordsAt f fd) (T : Free4 mg) : FnOk P w K mg base CX0 1 f fd ["book", "kind"] spWordsAt := by
  refine F.ok scWa (fun vs H Q E h => ?_) (fun cdv A0 outer s H vs Q E hr h => ?_)
  · obtain ⟨B, kd, bk, rfl, _⟩ := h; rfl
  · obtain ⟨B, kd, bk, rfl, ⟨kvs, hB, hRc⟩, ok, ne, k⟩ := h
    have hu := hu_of hr
    refine ⟨_, pss_one (ps_ret (pe_callB (cr_sortG (α := Pr) (Room.u9 hr (n := 2 + PySem.W.Datum.depth Pr) (by decide))) (by rfl) T.sorted (by decide +kernel) (pa_cons (pe_lkAny (pe_lc2 (own := [("state", 2), ("word", 3)]) (vs1 := [3]) (g := gName 2) (tt := tTest (tOp rEq (tOp (rIxT K) (tDGet (tVar 0) (tVar 2)) (tC (.int 0))) (tVar 1))) (g1 := gName 3) (tt1 := tYes) (wi1 := iKeys (tOp (rIxT K) (tDGet (tVar 0) (tVar 2)) (tC (.int 1)))) (te := tTup (tCons (tVar 2) (tCons (tVar 3) tNil))) rfl scWa.nd (pi_keys (pv 0))
          (blkOk_by (N := waN) (sc := defScope sWordsAt) (by decide +kernel)) (by decide) (fun _ _ _ _ _ => pg_name (i := 2) scWa.nd rfl (Or.inl rfl)) (fun _ _ _ _ _ => pts_one (pt_cmpR op_eq (pe_ix ix_tup (pe_dget hu (pv 0) (pv 2) (fun _ _ => rfl)) pe_int (fun _ _ => rfl)) (pv 1) (nomark _)))
          (fun _ _ _ _ _ => pi_keys (pe_ix ix_tup (pe_dget hu (pv 0) (pv 2) (fun _ _ => rfl)) pe_int (fun _ _ => rfl))) (fun _ _ _ _ _ => pg_name (i := 3) scWa.nd rfl (Or.inl rfl)) (fun _ _ _ _ _ => pts_nil)
          (fun _ _ _ _ _ => pe_tup (pa_cons (pv 2) (pa_cons (pv 3) pa_nil))))) pa_nil))), ?_⟩
    have lk0 : kvs.length = bk.length := hRc.len
    obtain ⟨as, ha1, ha2⟩ := rows_addrs hRc (bk.map (·.1)) fun s hs => hs
    obtain ⟨ds, nds, hds⟩ := dedup as
    have nb : B ∉ ds := fun z => by
      obtain ⟨ts, hts⟩ := ha1 B ((hds B).mp z)
      exact book_ne hB hRc ne hts rfl
    have mtb : ∀ d ∈ B :: ds, ∃ kv, H d = some (.dK kv) := fun d hd => by
      rcases List.mem_cons.mp hd with e | e
      · rw [e]; exact ⟨_, hB⟩
      · obtain ⟨ts, hts⟩ := ha1 d ((hds d).mp e)
        exact ⟨_, hts⟩
    refine ⟨(B :: ds).length, lk_all _ _ (fun v H3 => (∀ d ∈ B :: ds, ∃ od u, H3 d = some (.frz od u)) ∧ ∃ D us, v = .ref D ∧ H3 D = some (.lst us) ∧ Ats H3 us (wordsB kd bk)) (B :: ds) H _ (List.nodup_cons.mpr ⟨nb, nds⟩) (fun d hd => ?_) ?_ ?_⟩
    · obtain ⟨kv, e⟩ := mtb d hd
      exact ⟨_, e, trivial⟩
    · intro H2 Q2 lk k2
      obtain ⟨od, u, h1, hB2⟩ := lk.2 B List.mem_cons_self
      rw [hB] at h1
      cases h1
      refine ⟨_, rfl, B, od, rfl, .inl ⟨kvs, hB2, fun D hD => ?_⟩⟩
      refine lp_it (walk_keys (d := B) (o := od) (kvs := kvs)) (fun i H' => Same H2 H' ∧ ∃ us, H' D = some (.lst us) ∧ Ats (cut [D] H') us (wordsB kd (bk.take i))) ⟨Same.new hD, [], upd_same, .nil⟩ (fun i H' _ z => z.1 _ _ hB2) ?_ ?_
      · rintro i x H6 H7 hi ⟨sm, us, hD7, hA⟩ ⟨rfl, kk, v0, hkv, rfl⟩
        obtain ⟨r, hr', ek, _⟩ := paired_get hRc hkv
        have ek : kk = .inr r.1 := ek
        subst ek
        have rm : r ∈ bk := List.mem_of_getElem? hr'
        obtain ⟨v1, a, ev, haa, t, rfl, ht, ha⟩ := ha2 r.1 (List.mem_map_of_mem rm)
        rw [rowOf_self ok.nd rm] at ht ha
        have ht2 : H2 t = some (.tup [.str r.2.1, .ref a]) := by
          rw [lk.1 t fun z => by
            obtain ⟨kv, e⟩ := mtb t z
            rw [e] at ht; cases ht]
          exact ht
        obtain ⟨oa, ua, h3, ha3⟩ := lk.2 a (List.mem_cons_of_mem _ ((hds a).mpr haa))
        rw [ha] at h3
        cases h3
        have dg : ∀ {H8}, Same H2 H8 → DGet H8 B (V.str r.1) (some (.ref t)) := fun s => .inl ⟨kvs, .inr r.1, .inr ⟨od, s _ _ hB2⟩, rfl, ev.symm⟩
        refine ⟨rfl, ?_⟩
        refine ⟨_, rfl, _, rfl, B, _, rfl, dg sm, t, _, _, _, rfl, rfl, SqT.of (sm _ _ ht2), atI_nat (j := 0) rfl, _, rfl, rfl, _, rfl, ?_⟩
        rw [dec_str]
        by_cases c : r.2.1 = kd
        · refine (if_pos (decide_eq_true c)).mpr ⟨_, rfl, _, rfl, B, _, rfl, dg sm, t, _, _, _, rfl, rfl, SqT.of (sm _ _ ht2), atI_nat (j := 1) rfl, a, oa, rfl, .inl ⟨kT r.2.2, sm _ _ ha3, ?_⟩⟩
          have lw := wordsB_len (k := kd) (b := bk.take i) fun x hx => ok.l60 x (List.mem_of_mem_take hx)
          rw [List.length_take] at lw
          have l36 := ok.len
          have l60 := ok.l60 r rm
          refine lp_it (walk_keys (d := a) (o := oa) (kvs := kT r.2.2)) (fun j H' => Same H2 H' ∧ ∃ us, H' D = some (.lst us) ∧ Ats (cut [D] H') us (wordsB kd (bk.take i) ++ (r.2.2.take j).map fun t => (r.1, t.1))) ⟨sm, us, hD7, by rw [List.take_zero, List.map_nil, List.append_nil]; exact hA⟩ (fun j H' _ z => z.1 _ _ ha3) ?_ ?_
          · rintro j x H8 H9 hj ⟨sm8, us8, hD8, hA8⟩ ⟨rfl, k9, v9, hk9, rfl⟩
            rw [kT, List.getElem?_map] at hk9
            obtain ⟨tt, htt, e9⟩ := Option.map_eq_some_iff.mp hk9
            cases e9
            have lus : us8.length ≤ 60 * 3600 + 60 := by
              rw [hA8.len, List.length_append, List.length_map, List.length_take]
              omega
            refine ⟨rfl, ?_⟩
            dsimp only [tYes]
            rw [if_pos rfl]
            refine ⟨_, rfl, _, rfl, (by show 2 ≤ sizeLine; decide), fun T1 hT1 => ?_⟩
            have nT : T1 ≠ D := fun e => by rw [e, hD8] at hT1; cases hT1
            have g := Same.new (o := .tup [kV (Sum.inr r.1), kV (Sum.inr tt.1)]) hT1
            refine ⟨us8, g _ _ hD8, by rw [sizeLine_eq]; omega, fun c u e => ?_, us8 ++ [.ref T1], by rw [upd_same], ?_⟩
            · rw [upd_ne (ne_of_none e hD)]; exact g _ _ (sm8 _ _ e)
            · rw [cut_upd (by simp), take_succ_get htt, List.map_append, ← List.append_assoc]
              exact paired_snoc (hA8.same (cut_same g)) ⟨T1, rfl, by rw [cut_out (by simpa using nT)]; exact upd_same⟩
          · rintro H8 ⟨sm8, us8, hD8, hA8⟩
            rw [kT, List.length_map, List.take_length] at hA8
            refine ⟨sm8, us8, hD8, ?_⟩
            rw [wordsB_snoc hr', rowW, if_pos c]
            exact hA8
        · refine (if_neg (by rw [decide_eq_false c]; decide)).mpr ⟨sm, us, hD7, ?_⟩
          rw [wordsB_snoc hr', rowW, if_neg c, List.append_nil]
          exact hA
      · rintro H6 ⟨sm, us, hD6, hA⟩
        rw [lk0, List.take_length] at hA
        exact k2 _ _ sm ⟨fun d hd => by
          obtain ⟨od, u, _, h⟩ := lk.2 d hd
          exact ⟨od, u, sm _ _ h⟩, D, us, rfl, hD6, hA.same cut_le⟩
    · rintro v H3 ⟨fz, D, us, rfl, hD3, hA⟩ H4 s4 e4
      have st : ∀ {c o}, H3 c = some o → (∀ od u, o ≠ .frz od u) → H4 c = some o := fun {c o} e n => by
        rw [e4 c fun z => by
          obtain ⟨od, u, h⟩ := fz c z
          rw [h] at e
          exact n _ _ (Option.some.inj e).symm]
        exact e
      have hD4 := st hD3 fun _ _ q => by cases q
      have hA4 : Ats H4 us (wordsB kd bk) := paired_imp (fun _ _ ⟨z, ez, hz⟩ => ⟨z, ez, st hz fun _ _ q => by cases q⟩) hA
      refine ⟨D, us, _, rfl, SqL.of hD4, hA4, fun p ws hw hp => ?_⟩
      exact k _ p ws (Same.trans s4 (Same.new hp)) (s4.free hp) upd_same (hw.same (Same.new hp))
end
end D1
end L2
namespace L2
namespace Kt
section
variable {α : Type} {nx nx' : α → List α} {ask ask' : α → Ask}
theorem kept_congr (ha : ∀ x, ask x = ask' x) (hn : ∀ x, ask x ≠ .always → ask x ≠ .never → ∀ y, y ∈ nx x ↔ y ∈ nx' x) {x : α} (h : Kept nx ask x) : Kept nx' ask' x := by
  obtain ⟨S, g, h⟩ := h
  refine ⟨S, fun x h => ?_, h⟩
  have n := g x h
  clear h
  induction n with
  | always a b => exact .always a ((ha _).symm.trans b)
  | all a b c => exact .all a ((ha _).symm.trans b) fun y hy => c y ((hn _ (by rw [b]; decide) (by rw [b]; decide) y).mpr hy)
  | some a b c _ ih => exact .some a ((ha _).symm.trans b) ((hn _ (by rw [b]; decide) (by rw [b]; decide) _).mp c) ih
  | nearer a b c d _ ih => exact .nearer a ((ha _).symm.trans b) (fun y hy => c y ((hn _ (by rw [b]; decide) (by rw [b]; decide) y).mpr hy)) ((hn _ (by rw [b]; decide) (by rw [b]; decide) _).mp d) ih
end
end Kt
namespace D1
open PySem PySem.Spec PyProof.Rows D2 X5 X6 X7 Kt Dq
abbrev sHasP : Stmt := top 41
abbrev sRank : Stmt := top 42
abbrev sResW : Stmt := top 44
/-- two books with the same rows, the turns in any order -/
def SameB (X Y : Bk) : Prop := ∀ s, (rowOf X s).1 = (rowOf Y s).1 ∧ ∀ t, t ∈ (rowOf X s).2 ↔ t ∈ (rowOf Y s).2
theorem via_same {X Y : Bk} (h : SameB X Y) {x : Str} : Viable X x ↔ Viable Y x := by
  have e1 : ∀ x, vask X x = vask Y x := fun x => by unfold vask; rw [(h x).1]
  have e2 : ∀ x y, y ∈ Gs.sc (vnx X) x ↔ y ∈ Gs.sc (vnx Y) x := fun x y => by
    unfold Gs.sc vnx
    rw [List.mem_map, List.mem_map]
    exact ⟨fun ⟨t, a, b⟩ => ⟨t, ((h x).2 t).mp a, b⟩, fun ⟨t, a, b⟩ => ⟨t, ((h x).2 t).mpr a, b⟩⟩
  exact ⟨kept_congr e1 fun x _ _ y => e2 x y, kept_congr (fun x => (e1 x).symm) fun x _ _ y => (e2 x y).symm⟩
theorem mem_ordTV {ts : List (Str × Str)} (nd : (ts.map (·.1)).Nodup) {t : Str × Str} : t ∈ ordT ts ↔ t ∈ ts := by
  unfold ordT
  rw [List.mem_map]
  constructor
  · rintro ⟨k, hk, rfl⟩
    obtain ⟨u, hu, rfl⟩ := List.mem_map.mp ((srt_perm _).mem_iff.mp hk)
    rw [goalT_at nd hu]; exact hu
  · intro h
    exact ⟨t.1, (srt_perm _).mem_iff.mpr (List.mem_map_of_mem h), by rw [goalT_at nd h]⟩
theorem sameB_ord {bk : Bk} {st : Str} (ok : DOk bk st) : SameB (ordB bk) bk := fun s => by
  by_cases h : s ∈ bk.map (·.1)
  · rw [rowOf_ord ok.nd h]
    exact ⟨rfl, fun t => mem_ordTV (ok.tk _ (row_mem h))⟩
  · rw [rowOf_no h, rowOf_no (bk := ordB bk) (by rw [ordB_names]; exact fun m => h ((srt_perm _).mem_iff.mp m))]
    exact ⟨rfl, fun t => Iff.rfl⟩
theorem wB_row {ps : List Pr} {bk : Bk} (nd : (bk.map (·.1)).Nodup) (s : Str) : rowOf (wB ps bk) s = if s ∈ bk.map (·.1) then ((rowOf bk s).1, wT s ps (rowOf bk s).2) else rowOf bk s := by
  by_cases h : s ∈ bk.map (·.1)
  · rw [if_pos h]
    exact rowOf_self (bk := wB ps bk) (by rw [wB_names]; exact nd) (r := (s, (rowOf bk s).1, wT s ps (rowOf bk s).2)) (List.mem_map.mpr ⟨_, row_mem h, rfl⟩)
  · rw [if_neg h, rowOf_no h, rowOf_no (by rw [wB_names]; exact h)]
theorem sameB_w {ps qs : List Pr} {X Y : Bk} (nx : (X.map (·.1)).Nodup) (ny : (Y.map (·.1)).Nodup) (nm : ∀ s, s ∈ X.map (·.1) ↔ s ∈ Y.map (·.1)) (hp : ∀ p, p ∈ ps ↔ p ∈ qs) (h : SameB X Y) : SameB (wB ps X) (wB qs Y) := fun s => by
  rw [wB_row nx, wB_row ny]
  by_cases c : s ∈ X.map (·.1)
  · rw [if_pos c, if_pos ((nm s).mp c)]
    refine ⟨(h s).1, fun t => ?_⟩
    show t ∈ wT _ _ _ ↔ t ∈ wT _ _ _
    unfold wT
    rw [List.mem_filter, List.mem_filter, (h s).2 t]
    refine and_congr Iff.rfl ?_
    rw [Bool.not_eq_true', Bool.not_eq_true', memG_not, memG_not, hp]
  · rw [if_neg c, if_neg fun q => c ((nm s).mpr q)]
    exact h s
theorem wT_sub {s : Str} {ps : List Pr} {ts : List (Str × Str)} : (wT s ps ts).Sublist ts := List.filter_sublist
theorem VOk.w {bk : Bk} (h : VOk bk) (ps : List Pr) : VOk (wB ps bk) := by
  have mem : ∀ r ∈ wB ps bk, ∃ x ∈ bk, r = (x.1, x.2.1, wT x.1 ps x.2.2) := fun r hr => by
    obtain ⟨x, hx, e⟩ := List.mem_map.mp hr
    exact ⟨x, hx, e.symm⟩
  refine ⟨by rw [wB_names]; exact h.nd, by rw [wB, List.length_map]; exact h.len, fun r hr => ?_, fun r hr t ht => ?_, fun r hr => ?_, fun r hr => ?_, fun r hr => ?_, fun r hr e => ?_⟩
  all_goals obtain ⟨x, hx, rfl⟩ := mem r hr
  · exact Nat.le_trans wT_sub.length_le (h.l60 x hx)
  · rw [wB_names]; exact h.cl x hx t (wT_sub.subset ht)
  · exact (h.wn x hx).sublist (wT_sub.map _)
  · exact h.kd x hx
  · exact h.wd x hx
  · have := h.dn x hx e
    show wT _ _ _ = []
    rw [this]; rfl
/-- the lot dropped, a partner is there -/
def ResP (bk : Bk) (st : Str) (ps : List Pr) : Prop := empB "says" (wB ps bk) = false ∧ Viable (wB ps bk) st
def spRank (C : Addr) : Sp := fun vs H Q _ => ∃ (q : Addr) (bk : Bk) (st : Str), vs = [.ref q] ∧ DeskAt C H q bk st ∧ DOk bk st ∧ ∀ H' v, Same H H' → (v = .non ↔ ¬ Viable (ordB bk) st) → Q v H'
def spHasP (C : Addr) : Sp := fun vs H Q _ => ∃ (q : Addr) (bk : Bk) (st : Str), vs = [.ref q] ∧ DeskAt C H q bk st ∧ DOk bk st ∧ ∀ H' b, Same H H' → (b = true ↔ Viable (ordB bk) st) → Q (.bl b) H'
def spResW : Sp := fun vs H Q _ => ∃ (T B : Addr) (v : V) (bk : Bk) (st : Str) (ps : List Pr), vs = [.ref T, v] ∧ H T = some (.tup [.ref B, .str st]) ∧ BookAt H B bk ∧ VOk bk ∧ bk ≠ [] ∧ LotAt H v ps ∧ ∀ H' b, Same H H' → (b = true ↔ ResP bk st ps) → Q (.bl b) H'
section
variable {P : Program} {w : World} {K : PySem.W.Frag} {mg : Str → Option Value} {base : Heap} {C : Addr}
abbrev CVRanks (P : Program) (w : World) (K : PySem.W.Frag) (mg : Str → Option Value) (base : Heap) := Cal P w K mg base "viable_ranks" 6 ["rows"] spVRanks
abbrev CBookW (P : Program) (w : World) (K : PySem.W.Frag) (mg : Str → Option Value) (base : Heap) := Cal P w K mg base "book_without" 2 ["book", "kind", "lot"] spBookW
abbrev CRank (P : Program) (w : World) (K : PySem.W.Frag) (mg : Str → Option Value) (base : Heap) (C : Addr) := Cal P w K mg base "desk_rank" 7 ["desk"] (spRank C)
theorem scRk2 : FnScope ["desk"] ["desk"] (defScope sRank) := ⟨rfl, rfl, rfl, by decide +kernel, rfl, by decide +kernel, by decide +kernel⟩
theorem ok_rank {f : Addr} {fd : FuncData} (F : Fun K "desk_rank" "desk_rank" sRank f fd) (D : DTxt K mg C) (CN : CNeed P w K mg base C) (CV : CVRanks P w K mg base) (MB : CMBook P w K mg base C) (MS : CMStart P w K mg base C) : FnOk P w K mg base CX0 7 f fd ["desk"] (spRank C) := by
  obtain ⟨fB, fdB, mB, FB, bB⟩ := MB.ex
  obtain ⟨fS, fdS, mS, FS, bS⟩ := MS.ex
  refine F.ok scRk2 (fun vs H Q E h => ?_) (fun cdv A0 outer s H vs Q E hr h => ?_)
  · obtain ⟨q, bk, st, rfl, _⟩ := h; rfl
  · obtain ⟨q, bk, st, rfl, hq, ok, k⟩ := h
    have hu := hu_of hr
    refine ⟨_, pss_cons (ps_expr (pe_cal CN (hr.mono (by decide)) rfl (pa_cons (pv 0) pa_nil)))
      (pss_one (ps_ret (pe_dget1 hu (pe_cal CV (hr.mono (by decide)) rfl (pa_cons (pe_meth0 (pv 0) D.cl mB FB (hr.mono (by decide)) bB .nil pass0) pa_nil)) (pe_meth0 (pv 0) D.cl mS FS (hr.mono (by decide)) bS .nil pass0) (by constructor <;> rfl)))), ?_⟩
    obtain ⟨dx, b0, e0, _⟩ := id hq
    refine ⟨_, rfl, q, dx, _, rfl, e0, ?_⟩
    refine ⟨_, rfl, q, dx, _, rfl, e0, dflds_no _ _ (by decide +kernel) (by decide +kernel), q, bk, st, rfl, hq, ok, fun H1 B s1 nB hB _ => ?_⟩
    refine ⟨B, ordB bk, rfl, hB, ok.ord.vok, fun H2 M rk ks s2 hM nM => ?_⟩
    obtain ⟨hMd, _, _, hks, hrk, _⟩ := id hM
    have s12 := Same.trans s1 s2
    refine ⟨M, rfl, .inl ⟨_, .inl hMd⟩, _, rfl, q, dx, _, rfl, s12 _ _ e0, dflds_no _ _ (by decide +kernel) (by decide +kernel), q, bk, st, rfl, hq.same s12, _, Gs.dget (.inl hMd) (x := st) rfl, ?_⟩
    refine k H2 _ s12 ?_
    by_cases c : st ∈ ks
    · rw [Gs.iKn_val c]
      exact ⟨fun e => (by cases e), fun n => absurd ((hrk st).mp ((hks st).mp c)) n⟩
    · rw [Gs.val_none c (Gs.iKn_keys _ _ _)]
      exact ⟨fun _ v => c ((hks st).mpr ((hrk st).mpr v)), fun _ => rfl⟩
theorem scHp : FnScope ["desk"] ["desk"] (defScope sHasP) := ⟨rfl, rfl, rfl, by decide +kernel, rfl, by decide +kernel, by decide +kernel⟩
theorem ok_hasp {f : Addr} {fd : FuncData} (F : Fun K "has_partner" "has_partner" sHasP f fd) (CR : CRank P w K mg base C) : FnOk P w K mg base CX0 8 f fd ["desk"] (spHasP C) := by
  refine F.ok scHp (fun vs H Q E h => ?_) (fun cdv A0 outer s H vs Q E hr h => ?_)
  · obtain ⟨q, bk, st, rfl, _⟩ := h; rfl
  · obtain ⟨q, bk, st, rfl, hq, ok, k⟩ := h
    refine ⟨_, pss_one (ps_ret (pe_cmp (pc_notN (pe_cal CR (hr.mono (by decide)) rfl (pa_cons (pv 0) pa_nil))) rfl)), ?_⟩
    refine ⟨_, rfl, q, bk, st, rfl, hq, ok, fun H1 v s1 hv => k H1 _ s1 ?_⟩
    rw [Bool.not_eq_true', decide_eq_false_iff_not, hv]
    exact Classical.not_not
abbrev reN2 : List Str := ["told", "lot", "book", "start", "left"]
theorem scRw2 : FnScope reN2 ["told", "lot"] (defScope sResW) := ⟨rfl, rfl, rfl, by decide +kernel, rfl, by decide +kernel, by decide +kernel⟩
theorem ok_resw {f : Addr} {fd : FuncData} (F : Fun K "rescues_without" "rescues_without" sResW f fd) (CB : CBookW P w K mg base) (CV : CVRanks P w K mg base) : FnOk P w K mg base CX0 7 f fd ["told", "lot"] spResW := by
  refine F.ok scRw2 (fun vs H Q E h => ?_) (fun cdv A0 outer s H vs Q E hr h => ?_)
  · obtain ⟨T, B, v, bk, st, ps, rfl, _⟩ := h; rfl
  · obtain ⟨T, B, v, bk, st, ps, rfl, hT, hB, ok, ne, hl, k⟩ := h
    have hu := hu_of hr
    refine ⟨_, pss_cons (ps_asg (pv 0) (pg_tup rfl (pgs_cons (pg_name (i := 2) scRw2.nd rfl (Or.inl rfl)) (pgs_cons (pg_name (i := 3) scRw2.nd rfl (Or.inl rfl)) pgs_nil))))
      (pss_cons (ps_set (i := 4) scRw2.nd rfl (Or.inl rfl) (pe_cal CB (hr.mono (by decide)) rfl (pa_cons (pv 2) (pa_cons pe_str (pa_cons (pv 1) pa_nil)))))
      (pss_one (ps_ret (pe_and (pe_cmp (pc_notN (pv 4)) rfl) (pe_one (pe_cmp (pc_din hu (pv 3) (pe_cal CV (hr.mono (by decide)) rfl (pa_cons (pv 4) pa_nil))) rfl)))))), ?_⟩
    refine ⟨_, rfl, T, _, rfl, SqT.of hT, rfl, _, _, rfl, _, _, rfl, rfl, ?_⟩
    refine ⟨_, rfl, _, rfl, B, "says", v, bk, ps, rfl, hB, ok, ne, hl, fun H1 D s1 nD hD => ?_⟩
    cases c : empB "says" (wB ps bk) with
    | true =>
      rw [if_pos rfl]
      refine ⟨_, rfl, _, rfl, iteF (k H1 false s1 ⟨fun e => (by cases e), fun h => (by have h := h.1; rw [c] at h; cases h)⟩)⟩
    | false =>
      rw [if_neg (by decide)]
      refine ⟨_, rfl, _, rfl, iteT ⟨_, rfl, _, rfl, D, wB ps bk, rfl, hD, ok.w ps, fun H2 M rk ks s2 hM nM => ?_⟩⟩
      obtain ⟨hMd, _, _, hks, hrk, _⟩ := id hM
      refine ⟨M, _, rfl, Gs.dget (.inl hMd) (x := st) rfl, ?_⟩
      rw [Gs.val_dec (Gs.iKn_keys _ _ _)]
      refine k H2 _ (Same.trans s1 s2) ?_
      rw [decide_eq_true_iff, hks st, hrk st]
      exact ⟨fun h => ⟨c, h⟩, fun h => h.2⟩
end
end D1
end L2
namespace L2
namespace D1
open PySem PySem.Spec PyProof.Rows D2 X5 X6 Dq
abbrev Lot := List Pr
def Asc (p : Lot) : Prop := p.Pairwise fun a b => ltP a b = true
def SubL (its p : Lot) : Prop := Asc p ∧ ∀ x ∈ p, x ∈ its
/-- a least lot -/
def Minl (its : Lot) (hP : Lot → Prop) (p : Lot) : Prop := SubL its p ∧ hP p ∧ ∀ q, SubL its q → hP q → (∀ x ∈ q, x ∈ p) → q = p
theorem lt_ne {a b : Pr} (h : ltP a b = true) : a ≠ b := fun e => by rw [e, ltP_irrefl] at h; cases h
theorem asc_nd {p : Lot} (h : Asc p) : p.Nodup := h.imp fun e => lt_ne e
theorem asc_sub : ∀ {p q : Lot}, Asc p → Asc q → (∀ x ∈ q, x ∈ p) → q.Sublist p
  | [], [], _, _, _ => .slnil
  | [], b :: q, _, _, h => by cases h b List.mem_cons_self
  | a :: p, [], _, _, _ => List.nil_sublist _
  | a :: p, b :: q, hp, hq, h => by
    obtain ⟨p1, p2⟩ := List.pairwise_cons.mp hp
    obtain ⟨q1, q2⟩ := List.pairwise_cons.mp hq
    by_cases e : b = a
    · subst e
      refine .cons₂ _ (asc_sub p2 q2 fun x hx => ?_)
      rcases List.mem_cons.mp (h x (List.mem_cons_of_mem _ hx)) with z | z
      · exact absurd z.symm (lt_ne (q1 x hx))
      · exact z
    · refine .cons _ (asc_sub p2 hq fun x hx => ?_)
      have ab : ltP a b = true := by
        rcases List.mem_cons.mp (h b List.mem_cons_self) with z | z
        · exact absurd z e
        · exact p1 b z
      rcases List.mem_cons.mp (h x hx) with z | z
      · subst z
        rcases List.mem_cons.mp hx with y | y
        · exact absurd y.symm e
        · have := lt_trans ab (q1 _ y)
          rw [ltP_irrefl] at this; cases this
      · exact z
theorem asc_eq {p q : Lot} (hp : Asc p) (hq : Asc q) (h : ∀ x ∈ q, x ∈ p) (l : p.length ≤ q.length) : q = p := (asc_sub hp hq h).eq_of_length_le l
theorem sub_len {its p : Lot} (hi : Asc its) (h : SubL its p) : p.length ≤ its.length := (asc_sub hi h.1 h.2).length_le
theorem min_in {its : Lot} {hP : Lot → Prop} : ∀ n (q : Lot), q.length ≤ n → SubL its q → hP q → ∃ m, Minl its hP m ∧ ∀ x ∈ m, x ∈ q
  | 0, q, l, hs, hq => ⟨q, ⟨hs, hq, fun r hr _ h => by
      have e : q = [] := List.length_eq_zero_iff.mp (by omega)
      subst e
      cases r with
      | nil => rfl
      | cons a _ => cases h a List.mem_cons_self⟩, fun _ h => h⟩
  | n + 1, q, l, hs, hq => by
    by_cases c : ∃ r, SubL its r ∧ hP r ∧ (∀ x ∈ r, x ∈ q) ∧ r ≠ q
    · obtain ⟨r, h1, h2, h3, h4⟩ := c
      have lr : r.length < q.length := by
        have sb := asc_sub hs.1 h1.1 h3
        rcases Nat.lt_or_ge r.length q.length with z | z
        · exact z
        · exact absurd (sb.eq_of_length_le z) h4
      obtain ⟨m, hm, e⟩ := min_in n r (by omega) h1 h2
      exact ⟨m, hm, fun x hx => h3 x (e x hx)⟩
    · refine ⟨q, ⟨hs, hq, fun r h1 h2 h3 => ?_⟩, fun _ h => h⟩
      by_cases e : r = q
      · exact e
      · exact absurd ⟨r, h1, h2, h3, e⟩ c
theorem SubL.nil {its : Lot} : SubL its [] := ⟨.nil, fun _ h => by cases h⟩
/-- rounds of lots, one word more each -/
structure LP (its : Lot) (hP : Lot → Prop) (n : Nat) (found parts : List Lot) : Prop where
  p : ∀ x, x ∈ parts ↔ SubL its x ∧ x.length = n ∧ ∀ m, Minl its hP m → m.length < n → ¬ ∀ y ∈ m, y ∈ x
  f : ∀ x, x ∈ found ↔ Minl its hP x ∧ x.length < n
  pn : parts.Nodup
  fn : found.Nodup
theorem LP.zero (its : Lot) (hP : Lot → Prop) : LP its hP 0 [] [[]] := by
  refine ⟨fun x => ?_, fun x => ⟨fun h => (by cases h), fun h => absurd h.2 (by omega)⟩, by simp, List.nodup_nil⟩
  rw [List.mem_singleton]
  exact ⟨fun e => by rw [e]; exact ⟨.nil, rfl, fun m _ h => absurd h (by omega)⟩, fun h => List.length_eq_zero_iff.mp h.2.1⟩
theorem LP.done {its : Lot} {hP : Lot → Prop} {n : Nat} {found : List Lot} (h : LP its hP n found []) : ∀ x, x ∈ found ↔ Minl its hP x := fun x => by
  rw [h.f]
  refine ⟨fun z => z.1, fun z => ⟨z, ?_⟩⟩
  rcases Nat.lt_or_ge x.length n with l | l
  · exact l
  · have hs : SubL its (x.take n) := ⟨z.1.1.sublist (List.take_sublist _ _), fun y hy => z.1.2 y (List.mem_of_mem_take hy)⟩
    refine absurd ((h.p (x.take n)).mpr ⟨hs, by rw [List.length_take]; omega, fun m hm hl hx => ?_⟩) (by simp)
    have e := z.2.2 m hm.1 hm.2.1 fun y hy => List.mem_of_mem_take (hx y hy)
    rw [e] at hl; omega
def lastP (x : Lot) : Pr := x.getLast?.getD ("", "")
def canB (x : Lot) (it : Pr) : Bool := decide (x.length = 0) || ltP (lastP x) it
def extL (its x : Lot) : List Lot := (its.filter fun it => canB x it).map fun it => x ++ [it]
def longerL (its : Lot) (parts : List Lot) : List Lot := parts.flatMap (extL its)
def holdB (x m : Lot) : Bool := m.all fun y => memG y x
theorem holdB_iff {x m : Lot} : holdB x m = true ↔ ∀ y ∈ m, y ∈ x := by
  unfold holdB
  rw [List.all_eq_true]
  exact forall_congr' fun y => forall_congr' fun _ => memG_iff
theorem asc_snoc {x : Lot} {it : Pr} : Asc (x ++ [it]) ↔ Asc x ∧ canB x it = true := by
  unfold Asc canB
  rw [List.pairwise_append]
  constructor
  · rintro ⟨a, _, b⟩
    refine ⟨a, ?_⟩
    rw [Bool.or_eq_true, decide_eq_true_iff]
    rcases List.eq_nil_or_concat x with e | ⟨y, z, e⟩
    · left; rw [e]; rfl
    · right
      rw [e, lastP, List.concat_eq_append, List.getLast?_concat]
      exact b z (by rw [e]; simp) it (by simp)
  · rintro ⟨a, b⟩
    refine ⟨a, List.pairwise_singleton _ _, fun u hu v hv => ?_⟩
    rw [List.mem_singleton.mp hv]
    rw [Bool.or_eq_true, decide_eq_true_iff] at b
    rcases List.eq_nil_or_concat x with e | ⟨y, z, e⟩
    · rw [e] at hu; cases hu
    · rw [List.concat_eq_append] at e
      subst e
      rcases b with b | b
      · rw [List.length_append, List.length_singleton] at b; omega
      · rw [lastP, List.getLast?_concat] at b
        have b : ltP z it = true := b
        rcases List.mem_append.mp hu with m | m
        · exact lt_trans ((List.pairwise_append.mp a).2.2 u m z (by simp)) b
        · rw [List.mem_singleton.mp m]; exact b
theorem mem_longer {its : Lot} {parts : List Lot} {y : Lot} : y ∈ longerL its parts ↔ ∃ x ∈ parts, ∃ it ∈ its, canB x it = true ∧ y = x ++ [it] := by
  unfold longerL extL
  rw [List.mem_flatMap]
  constructor
  · rintro ⟨x, hx, h⟩
    obtain ⟨it, hi, e⟩ := List.mem_map.mp h
    obtain ⟨a, b⟩ := List.mem_filter.mp hi
    exact ⟨x, hx, it, a, b, e.symm⟩
  · rintro ⟨x, hx, it, a, b, e⟩
    exact ⟨x, hx, List.mem_map.mpr ⟨it, List.mem_filter.mpr ⟨a, b⟩, e.symm⟩⟩
theorem nd_longer {its : Lot} (hi : its.Nodup) : ∀ {parts : List Lot}, parts.Nodup → (longerL its parts).Nodup
  | [], _ => List.nodup_nil
  | x :: r, h => by
    have n := List.nodup_cons.mp h
    show (extL its x ++ longerL its r).Nodup
    have h1 : (extL its x).Nodup := by
      unfold extL
      refine List.Pairwise.map _ (fun a b e q => e ?_) (hi.filter _)
      exact List.singleton_inj.mp (List.append_cancel_left q)
    refine List.nodup_append.mpr ⟨h1, nd_longer hi n.2, fun y hy z hz e => ?_⟩
    subst e
    unfold extL at hy
    obtain ⟨it, _, rfl⟩ := List.mem_map.mp hy
    obtain ⟨x', hx', it', _, _, e⟩ := mem_longer.mp hz
    have := (List.append_inj' e rfl).1
    exact n.1 (this ▸ hx')
theorem len_longer {its : Lot} : ∀ {parts : List Lot}, (longerL its parts).length ≤ parts.length * its.length
  | [] => Nat.zero_le _
  | x :: r => by
    show (extL its x ++ longerL its r).length ≤ _
    rw [List.length_append, List.length_cons, Nat.succ_mul]
    have := len_longer (its := its) (parts := r)
    have l1 : (extL its x).length ≤ its.length := by unfold extL; rw [List.length_map]; exact List.length_filter_le _ _
    omega
theorem LP.step {its : Lot} {hP : Lot → Prop} {hb : Lot → Bool} (hh : ∀ x, hb x = true ↔ hP x) (hi : Asc its) {n : Nat} {found parts : List Lot} (h : LP its hP n found parts) :
    LP its hP (n + 1) (found ++ parts.filter hb) ((longerL its parts).filter fun x => !(found ++ parts.filter hb).any fun m => holdB x m) := by
  have fm : ∀ x, x ∈ found ++ parts.filter hb ↔ Minl its hP x ∧ x.length < n + 1 := fun x => by
    rw [List.mem_append, h.f, List.mem_filter, h.p, hh]
    constructor
    · rintro (⟨a, b⟩ | ⟨⟨a, b, c⟩, d⟩)
      · exact ⟨a, by omega⟩
      · refine ⟨⟨a, d, fun q h1 h2 h3 => ?_⟩, by omega⟩
        obtain ⟨m, hm, e⟩ := min_in q.length q (Nat.le_refl _) h1 h2
        have hmx : ∀ y ∈ m, y ∈ x := fun y hy => h3 y (e y hy)
        have lm : ¬ m.length < n := fun l => c m hm l hmx
        have exm : m = x := asc_eq a.1 hm.1.1 hmx (by omega)
        subst exm
        have lq := (asc_sub h1.1 hm.1.1 e).length_le
        exact asc_eq hm.1.1 h1.1 h3 lq
    · rintro ⟨a, b⟩
      rcases Nat.lt_or_ge x.length n with l | l
      · exact .inl ⟨a, l⟩
      · refine .inr ⟨⟨a.1, by omega, fun m hm lm hx => ?_⟩, a.2.1⟩
        have := a.2.2 m hm.1 hm.2.1 hx
        rw [this] at lm; omega
  refine ⟨fun y => ?_, fm, (nd_longer (asc_nd hi) h.pn).filter _, ?_⟩
  · rw [List.mem_filter, mem_longer]
    have key : (!((found ++ parts.filter hb).any fun m => holdB y m)) = true ↔ ∀ m, Minl its hP m → m.length < n + 1 → ¬ ∀ z ∈ m, z ∈ y := by
      rw [Bool.not_eq_true', List.any_eq_false]
      constructor
      · intro q m hm l hx
        exact q m ((fm m).mpr ⟨hm, l⟩) (holdB_iff.mpr hx)
      · intro q m hm hx
        obtain ⟨a, b⟩ := (fm m).mp hm
        exact q m a b (holdB_iff.mp hx)
    rw [key]
    constructor
    · rintro ⟨⟨x, hx, it, hit, c, rfl⟩, k⟩
      obtain ⟨a, b, _⟩ := (h.p x).mp hx
      refine ⟨⟨asc_snoc.mpr ⟨a.1, c⟩, fun z hz => ?_⟩, by rw [List.length_append, b]; rfl, k⟩
      rcases List.mem_append.mp hz with m | m
      · exact a.2 z m
      · rw [List.mem_singleton.mp m]; exact hit
    · rintro ⟨a, b, k⟩
      refine ⟨?_, k⟩
      rcases List.eq_nil_or_concat y with e | ⟨x, it, e⟩
      · rw [e] at b; cases b
      · rw [List.concat_eq_append] at e
        subst e
        obtain ⟨ax, c⟩ := asc_snoc.mp a.1
        refine ⟨x, (h.p x).mpr ⟨⟨ax, fun z hz => a.2 z (List.mem_append_left _ hz)⟩, by rw [List.length_append, List.length_singleton] at b; omega, fun m hm lm hx => ?_⟩, it, a.2 it (by simp), c, rfl⟩
        exact k m hm (by omega) fun z hz => List.mem_append_left _ (hx z hz)
  · refine List.nodup_append.mpr ⟨h.fn, h.pn.filter _, fun x hx y hy e => ?_⟩
    subst e
    have l1 := ((h.f x).mp hx).2
    have l2 := ((h.p x).mp (List.mem_filter.mp hy).1).2.1
    omega
end D1
end L2
namespace L2
namespace D1
open PySem PySem.Spec PyProof.Rows D2 X5 X6 X7 Kt Dq
abbrev sLeast : Stmt := top 26
abbrev sHolds : Stmt := top 27
def spHolds : Sp := fun vs H Q _ => ∃ (v u : V) (x m : Lot), vs = [v, u] ∧ Dt.At H v x ∧ Dt.At H u m ∧ m.length ≤ 10000 ∧ ∀ H', Same H H' → Q (.bl (holdB x m)) H'
open Classical in
noncomputable def resB (bk : Bk) (st : Str) (x : Lot) : Bool := decide (ResP bk st x)
open Classical in
theorem resB_iff {bk : Bk} {st : Str} {x : Lot} : resB bk st x = true ↔ ResP bk st x := decide_eq_true_iff
theorem resB_of {bk : Bk} {st : Str} {x : Lot} {b : Bool} (h : b = true ↔ ResP bk st x) : b = resB bk st x := Bool.eq_iff_iff.mpr (h.trans resB_iff.symm)
/-- a desk's rows and start, told -/
def TolAt (H : Hp) (T : Addr) (bk : Bk) (st : Str) : Prop := ∃ B, H T = some (.tup [.ref B, .str st]) ∧ BookAt H B bk
theorem TolAt.same {H H' : Hp} {T : Addr} {bk : Bk} {st : Str} (h : TolAt H T bk st) (s : Same H H') : TolAt H' T bk st := let ⟨B, e, b⟩ := h; ⟨B, s _ _ e, b.same s⟩
def spLeast (fN : Addr) : Sp := fun vs H Q _ => ∃ (I T : Addr) (us : List V) (its : Lot) (bk : Bk) (st : Str), vs = [.ref I, .ref fN, .ref T] ∧ H I = some (.lst us) ∧ Ats H us its ∧ Asc its ∧ its.length ≤ 6 ∧ TolAt H T bk st ∧ VOk bk ∧ bk ≠ [] ∧
  ∀ H' R ws ls, Same H H' → H R = none → H' R = some (.lst ws) → Ats H' ws (srtG Lot ls) → Frs H ws → ls.Nodup → (∀ x, x ∈ ls ↔ Minl its (ResP bk st) x) → Q (.ref R) H'
section
variable {P : Program} {w : World} {K : PySem.W.Frag} {mg : Str → Option Value} {base : Heap} {C : Addr}
abbrev CHolds (P : Program) (w : World) (K : PySem.W.Frag) (mg : Str → Option Value) (base : Heap) := Cal P w K mg base "holds" 1 ["part", "other"] spHolds
theorem scHo : FnScope ["part", "other", "item"] ["part", "other"] (defScope sHolds) := ⟨rfl, rfl, rfl, by decide +kernel, rfl, by decide +kernel, by decide +kernel⟩
theorem ok_holds {f : Addr} {fd : FuncData} (F : Fun K "holds" "holds" sHolds f fd) (T : Free3 mg) : FnOk P w K mg base CX0 1 f fd ["part", "other"] spHolds := by
  refine F.ok scHo (fun vs H Q E h => ?_) (fun cdv A0 outer s H vs Q E hr h => ?_)
  · obtain ⟨v, u, x, m, rfl, _⟩ := h; rfl
  · obtain ⟨v, u, x, m, rfl, hx, ⟨b, ms, rfl, hM, hm⟩, l, k⟩ := h
    obtain ⟨a, xs, rfl, hX, hx⟩ := hx
    have lm := hm.len
    refine ⟨_, pss_one (ps_ret (pe_callB (cr_all rfl) (by rfl) T.all (by decide +kernel) (pa_cons (pe_lc (own := [("item", 2)]) (g := gName 2) (tt := tYes) (te := tOp (Dq.rIn Pr K) (tVar 2) (tVar 0)) rfl scHo.nd (pi_list (pv 1))
        (blkOk_by (N := ["part", "other", "item"]) (sc := defScope sHolds) (by decide +kernel)) (fun _ _ _ _ _ => pg_name (i := 2) scHo.nd rfl (Or.inl rfl)) (fun _ _ _ _ _ => pts_nil) (fun _ _ _ _ _ => pe_cmpR (op_inG (α := Pr) (Room.u9 hr (n := 1 + PySem.W.Datum.depth Pr) (by decide))) (pv 2) (pv 0) (by rfl))) pa_nil))), ?_⟩
    refine ⟨_, rfl, b, rfl, ⟨_, SqL.of hM⟩, fun D hD => ?_⟩
    refine lc_list (K := K) (a := b) (xs := ms) (fun i H' => Same H H' ∧ H' D = some (.lst (((m.take i).map fun y => memG y x).map V.bl))) ⟨Same.new hD, upd_same⟩ (fun i H' _ z => SqL.of (z.1 _ _ hM)) ?_ ?_
    · rintro i v H1 hv ⟨sm, hD1⟩
      have li : i < m.length := by rw [← lm]; exact (List.getElem?_eq_some_iff.mp hv).1
      obtain ⟨y, hy, hvy⟩ := paired_get hm hv
      refine ⟨rfl, ?_⟩
      dsimp only [tYes]
      rw [if_pos rfl]
      refine ⟨_, rfl, _, rfl, y, x, a, xs, Dt.same sm hvy, rfl, SqL.of (sm _ _ hX), hx.same sm, ?_⟩
      refine ⟨_, hD1, by rw [List.length_map, List.length_map, List.length_take, sizeLine_eq]; omega, fun c o e => ?_, by rw [upd_same, take_succ_get hy, List.map_append, List.map_append]; rfl⟩
      rw [upd_ne (ne_of_none e hD)]; exact sm _ _ e
    · rintro H1 ⟨sm, hD1⟩
      rw [lm, List.take_length] at hD1
      refine ⟨D, _, rfl, SqL.of hD1, ?_⟩
      rw [all_map]
      exact k H1 sm
theorem ps_imp {X : Cx} {st : Stmt} {t t' : TS} (h : PS X st t) (i : ∀ D σ H, t' D σ H → t D σ H) : PS X st t' := ⟨fun pins s σ H D I q => h.run pins s σ H D I (i _ _ _ q)⟩
theorem paired_append {α β : Type} {R : α → β → Prop} : ∀ {xs : List α} {ys : List β} {as : List α} {bs : List β}, Paired R xs ys → Paired R as bs → Paired R (xs ++ as) (ys ++ bs)
  | _, _, _, _, .nil, h => h
  | _, _, _, _, .cons a t, h => .cons a (paired_append t h)
theorem ats_last {H : Hp} {us : List V} {x : Lot} (h : Ats H us x) (ne : x.length ≠ 0) : ∃ u, atI us (-1) = some u ∧ Dt.At H u (lastP x) := by
  have l := h.len
  rcases List.eq_nil_or_concat us with e | ⟨ys, u, e⟩
  · rw [e] at l; exact absurd l.symm ne
  · rw [List.concat_eq_append] at e
    subst e
    rw [List.length_append, List.length_singleton] at l
    obtain ⟨q, hq, hu⟩ := paired_get h (show (ys ++ [u])[ys.length]? = some u by simp)
    refine ⟨u, L2.atI_last ys u, ?_⟩
    have e : lastP x = q := by
      unfold lastP
      rw [List.getLast?_eq_getElem?, show x.length - 1 = ys.length by omega, hq]; rfl
    rw [e]; exact hu
/-- the item comes behind the part's last one -/
def tCan : TT := fun σ H Q => ∃ (v0 v1 v2 v3 v4 v5 v6 v9 : Option V) (a : Addr) (z : V) (us : List V) (x : Lot) (it : Pr), σ = [v0, v1, v2, v3, v4, v5, v6, some (.ref a), some z, v9] ∧ H a = some (.lst us) ∧ Ats H us x ∧ Dt.At H z it ∧ Q (canB x it) H
abbrev lpN : List Str := ["items", "helps", "told", "found", "parts", "helping", "longer", "part", "item", "least"]
theorem scLp : FnScope lpN ["items", "helps", "told"] (defScope sLeast) := ⟨rfl, rfl, rfl, by decide +kernel, rfl, by decide +kernel, by decide +kernel⟩
def scInL : Scope := { kind := ScopeKind.function, names := [(Str.ofString ".0", NameKind.local), (Str.ofString "part", NameKind.cell), (Str.ofString "any", NameKind.globalImplicit), (Str.ofString "found", NameKind.cell)], isGenerator := false, isCoroutine := false }
abbrev slL (I fN T Fd Pt : Addr) (v5 v6 v7 v8 v9 : Option V) : St := [some (.ref I), some (.ref fN), some (.ref T), some (.ref Fd), some (.ref Pt), v5, v6, v7, v8, v9]
def tHelping (fN : Addr) : TS := fun D σ H => ∃ (I T Fd Pt : Addr) (v5 v6 v7 v8 v9 : Option V) (us : List V) (ps : List Lot) (bk : Bk) (st : Str), σ = slL I fN T Fd Pt v5 v6 v7 v8 v9 ∧ TolAt H T bk st ∧ VOk bk ∧ bk ≠ [] ∧ H Pt = some (.lst us) ∧ Ats H us ps ∧ ps.length ≤ 1000000 ∧
  ∀ H' L ws, Same H H' → H L = none → H' L = some (.lst ws) → Ats H' ws (ps.filter (resB bk st)) → (∀ v ∈ ws, v ∈ us) → D.nx (slL I fN T Fd Pt (some (.ref L)) v6 v7 v8 v9) H'
def tLonger : TS := fun D σ H => ∃ (I fN T Fd Pt : Addr) (v5 v6 v7 v8 v9 : Option V) (us is : List V) (ps : List Lot) (its : Lot), σ = slL I fN T Fd Pt v5 v6 v7 v8 v9 ∧ H I = some (.lst is) ∧ Ats H is its ∧ its.length ≤ 6 ∧ H Pt = some (.lst us) ∧ Ats H us ps ∧ ps.length ≤ 1000000 ∧ (∀ x ∈ ps, x.length ≤ 1000) ∧
  ∀ H' L ws, Same H H' → H L = none → H' L = some (.lst ws) → Ats H' ws (longerL its ps) → Frs H ws → D.nx (slL I fN T Fd Pt v5 (some (.ref L)) v7 v8 v9) H'
def tParts : TS := fun D σ H => ∃ (I fN T Fd Pt Lg : Addr) (v5 v7 v8 v9 : Option V) (us fs : List V) (ls found : List Lot), σ = slL I fN T Fd Pt v5 (some (.ref Lg)) v7 v8 v9 ∧ H Fd = some (.lst fs) ∧ Ats H fs found ∧ H Lg = some (.lst us) ∧ Ats H us ls ∧ ls.length ≤ 10000000 ∧ found.length ≤ 10000000 ∧ (∀ x ∈ found, x.length ≤ 1000) ∧
  ∀ H' L ws, Same H H' → H L = none → H' L = some (.lst ws) → Ats H' ws (ls.filter fun x => !found.any fun m => holdB x m) → (∀ v ∈ ws, v ∈ us) → D.nx (slL I fN T Fd L v5 (some (.ref Lg)) v7 v8 v9) H'
theorem ok_least {f fN : Addr} {fd fdN : FuncData} (F : Fun K "least_parts" "least_parts" sLeast f fd) (T : Free4 mg) (kN : PySem.W.keepIn K (.ref fN) = true) (GN : FnOk P w K mg base CX0 7 fN fdN ["told", "lot"] spResW) (bN : Binds K fdN ["told", "lot"] []) (CH : CHolds P w K mg base) : FnOk P w K mg base CX0 8 f fd ["items", "helps", "told"] (spLeast fN) := by
  refine F.ok scLp (fun vs H Q E h => ?_) (fun cdv A0 outer s H vs Q E hr h => ?_)
  · obtain ⟨I, T, us, its, bk, st, rfl, _⟩ := h; rfl
  · obtain ⟨I, Td, us, its, bk, st, rfl, hI, hIs, asc, l6, hT, ok, ne, k⟩ := h
    have hu := hu_of hr
    refine ⟨_, pss_cons (ps_set (i := 3) scLp.nd rfl (Or.inr rfl) (pe_lst pa_nil))
      (pss_cons (ps_set (i := 4) scLp.nd rfl (Or.inl rfl) (pe_lst (pa_cons (pe_lst pa_nil) pa_nil)))
      (pss_cons (ps_while PassesOwn.never (pt_truth (pv 4) (fun _ => rfl))
        (pss_cons (ps_imp (t' := tHelping fN) (ps_setLc (i := 5) (own := [("part", 7)]) (g := gName 7) (tt := tB (tCallL 1 fN spResW [] E0 (tCons (tVar 2) (tCons (tVar 7) tNil)))) (te := tVar 7) rfl scLp.nd rfl rfl (sw_true rfl rfl rfl rfl) (pi_list (pv 4)) (blkOk_by (N := lpN) (sc := defScope sLeast) (by decide +kernel)) (fun _ _ _ _ _ => pg_name (i := 7) scLp.nd rfl (Or.inl rfl))
            (fun _ _ _ _ _ => pts_one (pt_val (pe_callL (i := 1) GN (hr.mono (by decide)) rfl (Or.inr (Or.inl rfl)) kN bN .nil pass0 (pa_cons (pv 2) (pa_cons (pv 7) pa_nil))))) (fun _ _ _ _ _ => pv 7)) ?helping)
        (pss_cons (ps_imp (t' := tLonger) (ps_setLc2 (i := 6) (own := [("part", 7), ("item", 8)]) (vs1 := [8]) (g := gName 7) (tt := tYes) (g1 := gName 8) (tt1 := tCan) (wi1 := iList K (tVar 0)) (te := tOp rCat (tVar 7) (tLst (tCons (tVar 8) tNil))) rfl scLp.nd rfl rfl (sw_true rfl rfl rfl rfl) (pi_list (pv 4)) (blkOk_by (N := lpN) (sc := defScope sLeast) (by decide +kernel)) (by decide) (fun _ _ _ _ _ => pg_name (i := 7) scLp.nd rfl (Or.inl rfl)) (fun _ _ _ _ _ => pts_nil)
            (fun _ _ _ _ _ => pi_list (pv 0)) (fun _ _ _ _ _ => pg_name (i := 8) scLp.nd rfl (Or.inl rfl)) (fun _ _ _ _ _ => pts_one (pt_imp (t' := tCan) (PW.pt (pw_or (pt_cmpR op_eq (pe_callB call_len_seq (by rfl) T.len PySem.boot_len (pa_cons (pv 7) pa_nil)) pe_int (nomark _)) (pw_or1 (pt_cmpR (op_ltG (α := Pr) (Room.u9 hr (n := PySem.W.Datum.depth Pr) (by decide))) (pe_ix ix_list (pv 7) (pe_un un_neg pe_int) (fun _ _ => rfl)) (pv 8) (by rfl))))) (by
              rintro σ H Q ⟨v0, v1, v2, v3, v4, v5, v6, v9, a, z, us, x, it, rfl, ha, hA, hz, q⟩
              refine ⟨_, rfl, a, _, rfl, .inl (SqL.of ha), rfl, ?_⟩
              have lx := hA.len
              have e0 : decide (V.int (us.length : Int) = V.int 0) = decide (x.length = 0) := by
                rw [Bool.eq_iff_iff, decide_eq_true_iff, decide_eq_true_iff]
                exact ⟨fun e => by have := V.int.inj e; omega, fun e => by rw [show us.length = 0 by omega]; rfl⟩
              rw [e0]
              refine ⟨_, rfl, ?_⟩
              unfold canB at q
              by_cases c : x.length = 0
              · refine (if_pos (decide_eq_true c)).mpr ?_
                rw [decide_eq_true c, Bool.true_or] at q; exact q
              · obtain ⟨u, hu1, hu2⟩ := ats_last hA c
                refine (if_neg (by rw [decide_eq_false c]; decide)).mpr ⟨_, rfl, _, rfl, a, _, _, _, rfl, rfl, SqL.of ha, hu1, _, rfl, _, _, hu2, hz, _, rfl, ?_⟩
                rw [decide_eq_false c, Bool.false_or] at q; exact q))) (fun _ _ _ _ _ => pe_op op_cat (pv 7) (pe_lst (pa_cons (pv 8) pa_nil)))) ?longer)
        (pss_cons (ps_set (i := 3) scLp.nd rfl (Or.inr rfl) (pe_op op_cat (pv 3) (pv 5)))
        (pss_one (ps_imp (t' := tParts) (ps_setLc (i := 4) (own := [("part", 7)]) (g := gName 7) (tt := tNot (tB (tCB (rAny K) (tCons (tLc (iList K (tVar 3)) (gName 9) tYes (tCall spHolds [] E0 (tCons (tVar 7) (tCons (tVar 9) tNil))) [9]) tNil)))) (te := tVar 7) rfl scLp.nd rfl rfl (sw_true rfl rfl rfl rfl) (pi_list (pv 6)) (blkOk_by (N := lpN) (sc := defScope sLeast) (by decide +kernel)) (fun _ _ _ _ _ => pg_name (i := 7) scLp.nd rfl (Or.inr rfl))
            (fun _ _ _ _ _ => pts_one (pt_not (pt_val (pe_callB (cr_any rfl) (by rfl) T.any (by decide +kernel) (pa_cons (pe_lc (own := [("least", 9)]) (g := gName 9) (tt := tYes) (te := tCall spHolds [] E0 (tCons (tVar 7) (tCons (tVar 9) tNil))) rfl scLp.nd (pi_list (pv 3)) (blkOk_by (N := lpN) (sc := scInL) (by decide +kernel)) (fun _ _ _ _ _ => pg_name (i := 9) scLp.nd rfl (Or.inl rfl)) (fun _ _ _ _ _ => pts_nil) (fun _ _ _ _ _ => pe_cal CH (hr.mono (by decide)) rfl (pa_cons (pv 7) (pa_cons (pv 9) pa_nil)))) pa_nil))))) (fun _ _ _ _ _ => pv 7)) ?parts))))))
      (pss_one (ps_ret (pe_callB (cr_sortGF (α := Lot) (Room.u9 hr (n := 2 + PySem.W.Datum.depth Lot) (by decide))) (by rfl) T.sorted (by decide +kernel) (pa_cons (pv 3) pa_nil)))))), ?_⟩
    case helping =>
      rintro Dn σ H ⟨I, T, Fd, Pt, v5, v6, v7, v8, v9, us, ps, bk, st, rfl, hT, ok, ne, hP, hA, l, k⟩
      have lu := hA.len
      refine ⟨_, rfl, Pt, rfl, ⟨_, SqL.of hP⟩, fun L hL => ?_⟩
      refine lc_list (K := K) (a := Pt) (xs := us) (fun i H' => Same H H' ∧ ∃ ws, H' L = some (.lst ws) ∧ Ats H ws ((ps.take i).filter (resB bk st)) ∧ ∀ v ∈ ws, v ∈ us) ⟨Same.new hL, [], upd_same, .nil, fun _ h => by cases h⟩ (fun i H' _ z => SqL.of (z.1 _ _ hP)) ?_ ?_
      · rintro i v H1 hv ⟨sm, ws, hL1, hW, hS⟩
        have li : i < us.length := (List.getElem?_eq_some_iff.mp hv).1
        have vm := List.mem_of_getElem? hv
        obtain ⟨x, hx, hvx⟩ := paired_get hA hv
        obtain ⟨B, hTB, hB⟩ := hT.same sm
        have hvx2 := hvx
        obtain ⟨a, xs, rfl, ha, hax⟩ := hvx2
        refine ⟨rfl, rfl, _, rfl, _, rfl, T, B, _, bk, st, x, rfl, hTB, hB, ok, ne, .inl ⟨a, xs, rfl, sm _ _ ha, hax.same sm⟩, fun H2 b s2 hb => ⟨_, rfl, ?_⟩⟩
        have hL2 := s2 _ _ hL1
        have lw : ws.length ≤ 1000000 := by
          rw [hW.len]
          have := List.length_filter_le (resB bk st) (ps.take i)
          rw [List.length_take] at this
          omega
        rw [resB_of hb]
        cases c : resB bk st x with
        | false => exact iteF ⟨Same.trans sm s2, ws, hL2, by rw [filt_no hx c]; exact hW, hS⟩
        | true =>
          refine iteT ⟨_, rfl, ws, hL2, by rw [sizeLine_eq]; omega, fun c2 o e => ?_, ws ++ [.ref a], by rw [upd_same], ?_, fun v hv => (List.mem_append.mp hv).elim (hS v) fun h => by rw [List.mem_singleton.mp h]; exact vm⟩
          · rw [upd_ne (ne_of_none e hL)]; exact s2 _ _ (sm _ _ e)
          · rw [filt_yes hx c]
            exact paired_snoc hW hvx
      · rintro H1 ⟨sm, ws, hL1, hW, hS⟩
        rw [lu, List.take_length] at hW
        exact k H1 L ws sm hL hL1 (hW.same sm) hS
    case longer =>
      rintro Dn σ H ⟨I, fN, T, Fd, Pt, v5, v6, v7, v8, v9, us, is, ps, its, rfl, hI, hIs, l6, hP, hA, l, lx, k⟩
      have lu := hA.len
      have li0 := hIs.len
      have snoc : ∀ {i x}, ps[i]? = some x → longerL its (ps.take (i + 1)) = longerL its (ps.take i) ++ extL its x := fun {i x} e => by
        unfold longerL
        rw [take_succ_get e, List.flatMap_append, List.flatMap_singleton]
      refine ⟨_, rfl, Pt, rfl, ⟨_, SqL.of hP⟩, fun L hL => ?_⟩
      have old : ∀ {H'}, Same H H' → Same H (cut [L] H') := fun s b o e => by rw [cut_out (by simpa using ne_of_none e hL)]; exact s _ _ e
      refine lp_it (walk_list (a := Pt) (xs := us)) (fun i H' => Same H H' ∧ ∃ ws, H' L = some (.lst ws) ∧ Ats (cut [L] H') ws (longerL its (ps.take i)) ∧ Frs H ws) ⟨Same.new hL, [], upd_same, .nil, fun _ h => by cases h⟩ (fun i H' _ z => SqL.of (z.1 _ _ hP)) ?_ ?_
      · rintro i v H1 H2 hi ⟨sm, ws, hL1, hW, hS⟩ ⟨rfl, hv⟩
        obtain ⟨x, hx, hvx⟩ := paired_get hA hv
        have xm : x ∈ ps := List.mem_of_getElem? hx
        have lw : (longerL its (ps.take i)).length ≤ 6000000 := by
          have h1 := len_longer (its := its) (parts := ps.take i)
          have h2 : (ps.take i).length * its.length ≤ 1000000 * 6 := Nat.mul_le_mul (by rw [List.length_take]; omega) l6
          omega
        obtain ⟨a, xs, rfl, ha, hax⟩ := id hvx
        refine ⟨rfl, ?_⟩
        dsimp only [tYes]
        rw [if_pos rfl]
        refine ⟨_, rfl, I, rfl, ⟨_, SqL.of (sm _ _ hI)⟩, ?_⟩
        refine lp_it (walk_list (a := I) (xs := is)) (fun j H' => Same H H' ∧ ∃ ws, H' L = some (.lst ws) ∧ Ats (cut [L] H') ws (longerL its (ps.take i) ++ ((its.take j).filter fun it => canB x it).map fun it => x ++ [it]) ∧ Frs H ws) ⟨sm, ws, hL1, by rw [List.take_zero, List.filter_nil, List.map_nil, List.append_nil]; exact hW, hS⟩ (fun j H' _ z => SqL.of (z.1 _ _ hI)) ?_ ?_
        · rintro j u H3 H4 hj ⟨sm3, ws3, hL3, hW3, hS3⟩ ⟨rfl, hu2⟩
          obtain ⟨it, hit, hui⟩ := paired_get hIs hu2
          refine ⟨rfl, ?_⟩
          refine ⟨_, _, _, _, _, _, _, _, a, u, xs, x, it, rfl, sm3 _ _ ha, hax.same sm3, Dt.same sm3 hui, ?_⟩
          cases c : canB x it with
          | false => exact (if_neg (by decide)).mpr ⟨sm3, ws3, hL3, by rw [filt_no hit c]; exact hW3, hS3⟩
          | true =>
            refine (if_pos rfl).mpr ⟨_, rfl, _, rfl, (by show 1 ≤ sizeLine; decide), fun S hS => ?_⟩
            have g1 := Same.new (o := .lst [u]) hS
            have s4 := Same.trans sm3 g1
            have hL4 := g1 _ _ hL3
            have eS : (L2.upd H4 S (.lst [u])) S = some (.lst [u]) := upd_same
            generalize L2.upd H4 S (.lst [u]) = H5 at g1 s4 hL4 eS
            have lxs : xs.length ≤ 1000 := by rw [hax.len]; exact lx x xm
            refine ⟨a, S, xs, [u], rfl, rfl, s4 _ _ ha, eS, by rw [List.length_singleton, sizeLine_eq]; omega, fun N hN => ?_⟩
            have g2 := Same.new (o := .lst (xs ++ [u])) hN
            have hL5 := g2 _ _ hL4
            have nN : N ≠ L := fun e => by rw [e, hL4] at hN; cases hN
            have lw3 : ws3.length ≤ 6000006 := by
              rw [hW3.len, List.length_append, List.length_map]
              have := List.length_filter_le (fun it => canB x it) (its.take j)
              rw [List.length_take] at this
              omega
            refine ⟨ws3, hL5, by rw [sizeLine_eq]; omega, fun c2 o e => ?_, ws3 ++ [.ref N], by rw [upd_same], ?_, hS3.app (Frs.one (s4.free hN))⟩
            · rw [upd_ne (ne_of_none e hL)]; exact g2 _ _ (s4 _ _ e)
            · rw [cut_upd (by simp), filt_yes hit c, List.map_append, ← List.append_assoc]
              refine paired_snoc (hW3.same (cut_same (Same.trans g1 g2))) ⟨N, xs ++ [u], rfl, by rw [cut_out (by simpa using nN)]; exact upd_same, ?_⟩
              have so := old (Same.trans s4 g2)
              exact paired_snoc (hax.same so) (Dt.same so hui)
        · rintro H3 ⟨sm3, ws3, hL3, hW3, hS3⟩
          rw [li0, List.take_length] at hW3
          refine ⟨sm3, ws3, hL3, ?_, hS3⟩
          rw [snoc hx]; exact hW3
      · rintro H1 ⟨sm, ws, hL1, hW, hS⟩
        rw [lu, List.take_length] at hW
        exact k H1 L ws sm hL hL1 (hW.same cut_le) hS
    case parts =>
      rintro Dn σ H ⟨I, fN, T, Fd, Pt, Lg, v5, v7, v8, v9, us, fs, ls, found, rfl, hF, hAf, hG, hA, l, lf, lx, k⟩
      have lu := hA.len
      have lfs := hAf.len
      refine ⟨_, rfl, Lg, rfl, ⟨_, SqL.of hG⟩, fun L hL => ?_⟩
      refine lc_list (K := K) (a := Lg) (xs := us) (fun i H' => Same H H' ∧ ∃ ws, H' L = some (.lst ws) ∧ Ats H ws ((ls.take i).filter fun x => !found.any fun m => holdB x m) ∧ ∀ v ∈ ws, v ∈ us) ⟨Same.new hL, [], upd_same, .nil, fun _ h => by cases h⟩ (fun i H' _ z => SqL.of (z.1 _ _ hG)) ?_ ?_
      · rintro i v H1 hv ⟨sm, ws, hL1, hW, hS⟩
        have li : i < us.length := (List.getElem?_eq_some_iff.mp hv).1
        have vm := List.mem_of_getElem? hv
        obtain ⟨x, hx, hvx⟩ := paired_get hA hv
        refine ⟨rfl, ?_⟩
        refine ⟨_, rfl, Fd, rfl, ⟨_, SqL.of (sm _ _ hF)⟩, fun M hM => ?_⟩
        refine lc_list (K := K) (a := Fd) (xs := fs) (fun j H' => Same H1 H' ∧ H' M = some (.lst (((found.take j).map fun m => holdB x m).map V.bl))) ⟨Same.new hM, upd_same⟩ (fun j H' _ z => SqL.of (z.1 _ _ (sm _ _ hF))) ?_ ?_
        · rintro j u H2 hu2 ⟨sm2, hM2⟩
          have lj : j < fs.length := (List.getElem?_eq_some_iff.mp hu2).1
          obtain ⟨m, hm, hum⟩ := paired_get hAf hu2
          refine ⟨rfl, ?_⟩
          dsimp only [tYes]
          rw [if_pos rfl]
          refine ⟨_, rfl, _, rfl, v, u, x, m, rfl, Dt.same (Same.trans sm sm2) hvx, Dt.same (Same.trans sm sm2) hum, by have := lx m (List.mem_of_getElem? hm); omega, fun H3 s3 => ?_⟩
          refine ⟨_, s3 _ _ hM2, by rw [List.length_map, List.length_map, List.length_take, sizeLine_eq]; omega, fun c o e => ?_, by rw [upd_same, take_succ_get hm, List.map_append, List.map_append]; rfl⟩
          rw [upd_ne (ne_of_none e hM)]; exact s3 _ _ (sm2 _ _ e)
        · rintro H2 ⟨sm2, hM2⟩
          rw [lfs, List.take_length] at hM2
          have hL2 := sm2 _ _ hL1
          have lw : ws.length ≤ 10000000 := by
            rw [hW.len]
            have := List.length_filter_le (fun x => !found.any fun m => holdB x m) (ls.take i)
            rw [List.length_take] at this
            omega
          refine ⟨M, _, rfl, SqL.of hM2, _, rfl, ?_⟩
          rw [any_map']
          cases c : found.any fun m => holdB x m with
          | true => exact iteF ⟨Same.trans sm sm2, ws, hL2, by rw [filt_no hx (by rw [c]; rfl)]; exact hW, hS⟩
          | false =>
            refine iteT ⟨_, rfl, ws, hL2, by rw [sizeLine_eq]; omega, fun c2 o e => ?_, ws ++ [v], by rw [upd_same], ?_, fun v2 hv2 => (List.mem_append.mp hv2).elim (hS v2) fun h => by rw [List.mem_singleton.mp h]; exact vm⟩
            · rw [upd_ne (ne_of_none e hL)]; exact sm2 _ _ (sm _ _ e)
            · rw [filt_yes hx (by rw [c]; rfl)]
              exact paired_snoc hW hvx
      · rintro H1 ⟨sm, ws, hL1, hW, hS⟩
        rw [lu, List.take_length] at hW
        exact k H1 L ws sm hL hL1 (hW.same sm) hS
    have z0 : (0 : Nat) ≤ sizeLine := Nat.zero_le _
    refine ⟨z0, fun F0 hF0 => ?_⟩
    have g0 := Same.new (o := .lst []) hF0
    have eF0 : (L2.upd H F0 (.lst [])) F0 = some (.lst []) := upd_same
    generalize L2.upd H F0 (.lst []) = H1 at g0 eF0
    refine ⟨z0, fun E1 hE1 => ⟨by show 1 ≤ sizeLine; decide, fun P0 hP0 => ?_⟩⟩
    have g1 := Same.new (o := .lst []) hE1
    have eE1 : (L2.upd H1 E1 (.lst [])) E1 = some (.lst []) := upd_same
    generalize L2.upd H1 E1 (.lst []) = H2 at g1 eE1 hP0
    have g2 := Same.new (o := .lst [.ref E1]) hP0
    have eP0 : (L2.upd H2 P0 (.lst [.ref E1])) P0 = some (.lst [.ref E1]) := upd_same
    generalize L2.upd H2 P0 (.lst [.ref E1]) = H3 at g2 eP0
    refine ⟨fun m σ H' => ∃ (n : Nat) (Fd Pt : Addr) (v5 v6 v7 v8 v9 : Option V) (fs us : List V) (found parts : List Lot), σ = slL I fN Td Fd Pt v5 v6 v7 v8 v9 ∧ Same H H' ∧ H' Fd = some (.lst fs) ∧ Ats H' fs found ∧ H' Pt = some (.lst us) ∧ Ats H' us parts ∧ LP its (ResP bk st) n found parts ∧ parts.length ≤ 6 ^ n ∧ found.length ≤ n * 46656 ∧ n ≤ 7 ∧ Frs H fs ∧ Frs H us ∧ m = 8 - n,
      ⟨_, 0, F0, P0, none, none, none, none, none, [], [.ref E1], [], [[]], rfl, Same.trans g0 (Same.trans g1 g2), g2 _ _ (g1 _ _ eF0), .nil, eP0, .cons ⟨E1, [], rfl, g2 _ _ eE1, .nil⟩ .nil, LP.zero _ _, by simp, by simp, by decide, (fun _ h => by cases h), Frs.one (g0.free hE1), rfl⟩, ?_⟩
    rintro m σ H4 ⟨n, Fd, Pt, v5, v6, v7, v8, v9, fs, ps', found, parts, rfl, s4, hF4, hAf, hP4, hAp, lp, bp, bf, n7, fF, fU, rfl⟩
    refine ⟨_, rfl, _, .inl ⟨_, SqL.of hP4, rfl⟩, ?_⟩
    have lpp := hAp.len
    cases ps' with
    | nil =>
      have e : parts = [] := List.length_eq_zero_iff.mp lpp.symm
      subst e
      refine iteF ⟨_, rfl, Fd, fs, found, rfl, SqL.of hF4, hAf, fun p ws hw hp sub => ?_⟩
      exact k _ p ws found (Same.trans s4 (Same.new hp)) (s4.free hp) upd_same (hw.same (Same.new hp)) (fF.sub sub) lp.fn lp.done
    | cons p0 pr =>
      have ne0 : parts ≠ [] := fun e => by rw [e] at lpp; cases lpp
      obtain ⟨x0, hx0⟩ := List.exists_mem_of_ne_nil _ ne0
      have n6 : n ≤ 6 := by
        obtain ⟨a, b, _⟩ := (lp.p x0).mp hx0
        have := sub_len asc a
        omega
      have b6 : 6 ^ n ≤ 46656 := Nat.le_trans (Nat.pow_le_pow_right (by decide) n6) (by decide)
      refine iteT ⟨_, fun σ' H' h => h, ?_⟩
      refine ⟨I, Td, Fd, Pt, v5, v6, v7, v8, v9, p0 :: pr, parts, bk, st, rfl, hT.same s4, ok, ne, hP4, hAp, by omega, fun H5 L5 w5 s5 n5 hL5 hA5 hS5 => ?_⟩
      refine ⟨I, fN, Td, Fd, Pt, _, v6, v7, v8, v9, p0 :: pr, us, parts, its, rfl, s5 _ _ (s4 _ _ hI), (hIs.same s4).same s5, l6, s5 _ _ hP4, hAp.same s5, by omega, fun x hx => by have := ((lp.p x).mp hx).2.1; omega, fun H6 L6 w6 s6 n6' hL6 hA6 hS6 => ?_⟩
      have s46 := Same.trans s5 s6
      have lfil : (parts.filter (resB bk st)).length ≤ 46656 := Nat.le_trans (List.length_filter_le _ _) (by omega)
      refine ⟨_, rfl, _, rfl, Fd, L5, fs, w5, rfl, rfl, s46 _ _ hF4, s6 _ _ hL5, by rw [hAf.len, hA5.len, sizeLine_eq]; omega, fun F7 hF7 => ?_⟩
      have g7 := Same.new (o := .lst (fs ++ w5)) hF7
      have eF7 : (L2.upd H6 F7 (.lst (fs ++ w5))) F7 = some (.lst (fs ++ w5)) := upd_same
      generalize L2.upd H6 F7 (.lst (fs ++ w5)) = H7 at g7 eF7
      have hA7 : Ats H7 (fs ++ w5) (found ++ parts.filter (resB bk st)) := paired_append (hAf.same (Same.trans s46 g7)) (hA5.same (Same.trans s6 g7))
      have st7 := lp.step (hb := resB bk st) (fun x => resB_iff) asc
      have llg : (longerL its parts).length ≤ 6 ^ (n + 1) := by
        rw [Nat.pow_succ]
        exact Nat.le_trans len_longer (Nat.mul_le_mul bp l6)
      have b7 : 6 ^ (n + 1) ≤ 279936 := Nat.le_trans (Nat.pow_le_pow_right (by decide) (show n + 1 ≤ 7 by omega)) (by decide)
      have lff : (found ++ parts.filter (resB bk st)).length ≤ (n + 1) * 46656 := by rw [List.length_append]; omega
      refine ⟨I, fN, Td, F7, Pt, L6, _, v7, v8, v9, w6, fs ++ w5, longerL its parts, found ++ parts.filter (resB bk st), rfl, eF7, hA7, g7 _ _ hL6, hA6.same g7, by omega, by omega, fun x hx => by have := ((st7.f x).mp hx).2; omega, fun H8 L8 w8 s8 n8 hL8 hA8 hS8 => ?_⟩
      refine ⟨8 - (n + 1), by omega, n + 1, F7, L8, _, _, v7, v8, v9, fs ++ w5, w8, _, _, rfl, Same.trans s4 (Same.trans s46 (Same.trans g7 s8)), s8 _ _ eF7, hA7.same s8, hL8, hA8, st7, Nat.le_trans (List.length_filter_le _ _) llg, lff, by omega, fF.app (fU.sub hS5), Frs.free (Same.trans s4 s5) (hS6.sub hS8), rfl⟩
end
end D1
end L2
namespace L2
namespace D1
open PySem PySem.Spec PyProof.Rows D2 X5 X6 X7 Kt Dq
abbrev sRescues : Stmt := top 43
abbrev sIsWA : Stmt := top 46
abbrev sDeskW : Stmt := top 47
abbrev sDropped2 : Stmt := top 48
theorem ltP_ps (p q : Pr) : ltP p q = ltPS p q := by
  show (if p.1 = q.1 then decide (p.2.cps.toList < q.2.cps.toList) else decide (p.1.cps.toList < q.1.cps.toList)) = _
  unfold ltPS
  rw [ltCps_eq, ltCps_eq]
theorem leG_lt {a b : Pr} (h : leG Pr a b = true) (n : a ≠ b) : ltP a b = true := by
  cases c : ltP a b with
  | true => rfl
  | false =>
    unfold leG at h
    have h1 : ltP b a = false := Bool.not_eq_true' _ ▸ h
    rw [ltP_ps] at c h1
    exact absurd (lePS_anti (p := a) (q := b) h1 c) n
theorem asc_srt {ps : Lot} (h : ps.Nodup) : Asc (srtG Pr ps) := by
  have nd : (srtG Pr ps).Nodup := (srtG_perm ps).nodup_iff.mpr h
  have pw := srtG_pw ps
  exact (pw.and nd).imp fun ⟨a, b⟩ => leG_lt a b
theorem words_mem {k : Str} {bk : Bk} {p : Pr} : p ∈ wordsB k bk ↔ ∃ r ∈ bk, r.2.1 = k ∧ p.1 = r.1 ∧ p.2 ∈ r.2.2.map (·.1) := by
  unfold wordsB rowW
  rw [List.mem_flatMap]
  constructor
  · rintro ⟨r, hr, h⟩
    split at h
    · rename_i e
      obtain ⟨t, ht, rfl⟩ := List.mem_map.mp h
      exact ⟨r, hr, e, rfl, List.mem_map_of_mem ht⟩
    · cases h
  · rintro ⟨r, hr, e, e1, h⟩
    refine ⟨r, hr, ?_⟩
    rw [if_pos e]
    obtain ⟨t, ht, e2⟩ := List.mem_map.mp h
    exact List.mem_map.mpr ⟨t, ht, Prod.ext e1.symm e2⟩
theorem words_nd {k : Str} : ∀ {bk : Bk}, (bk.map (·.1)).Nodup → (∀ r ∈ bk, (r.2.2.map (·.1)).Nodup) → (wordsB k bk).Nodup
  | [], _, _ => List.nodup_nil
  | r :: b, nd, h => by
    have n := List.nodup_cons.mp nd
    show (rowW k r ++ wordsB k b).Nodup
    have h1 : (rowW k r).Nodup := by
      unfold rowW
      split
      · have e : r.2.2.map (fun t => (r.1, t.1)) = (r.2.2.map (·.1)).map fun w => (r.1, w) := by rw [List.map_map]; rfl
        rw [e]
        exact List.Pairwise.map _ (fun a b e q => e (Prod.mk.inj q).2) (h r List.mem_cons_self)
      · exact List.nodup_nil
    refine List.nodup_append.mpr ⟨h1, words_nd n.2 fun x hx => h x (List.mem_cons_of_mem _ hx), fun x hx y hy e => ?_⟩
    subst e
    obtain ⟨r', hr', _, e1, _⟩ := words_mem.mp hy
    have e2 : x.1 = r.1 := by
      unfold rowW at hx
      split at hx
      · obtain ⟨t, _, rfl⟩ := List.mem_map.mp hx; rfl
      · cases hx
    exact n.1 (List.mem_map.mpr ⟨r', hr', by rw [← e1, e2]⟩)
theorem emp_iff {k : Str} {b : Bk} : empB k b = false ↔ ∀ r ∈ b, r.2.1 = k → r.2.2 ≠ [] := by
  unfold empB
  rw [List.any_eq_false]
  constructor
  · intro h r hr e n
    exact h r hr (by rw [decide_eq_true e, n]; rfl)
  · intro h r hr q
    rw [Bool.and_eq_true, decide_eq_true_iff, decide_eq_true_iff] at q
    exact h r hr q.1 (List.length_eq_zero_iff.mp q.2)
theorem DOk.w {bk : Bk} {st : Str} {ps : Lot} (ok : DOk bk st) (hs : ∀ p ∈ ps, p ∈ wordsB "says" bk) (e : empB "says" (wB ps bk) = false) : DOk (wB ps bk) st := by
  have mem : ∀ r ∈ wB ps bk, ∃ x ∈ bk, r = (x.1, x.2.1, wT x.1 ps x.2.2) := fun r hr => by
    obtain ⟨x, hx, e⟩ := List.mem_map.mp hr
    exact ⟨x, hx, e.symm⟩
  have hear : ∀ x ∈ bk, x.2.1 ≠ "says" → wT x.1 ps x.2.2 = x.2.2 := fun x hx n => by
    unfold wT
    refine List.filter_eq_self.mpr fun t ht => ?_
    rw [Bool.not_eq_true', memG_not]
    intro m
    obtain ⟨r, hr, er, e1, _⟩ := words_mem.mp (hs _ m)
    have e1 : x.1 = r.1 := e1
    have : r = x := by
      have h1 := rowOf_self ok.nd hr
      have h2 := rowOf_self ok.nd hx
      rw [e1, h1] at h2
      exact Prod.ext e1.symm h2
    exact n (this ▸ er)
  refine ⟨⟨fun q => ok.ne (List.map_eq_nil_iff.mp q), by rw [wB_names]; exact ok.nd, by rw [wB, List.length_map]; exact ok.len, fun r hr => ?_, fun r hr => ?_⟩, fun r hr => ?_, by rw [wB_names]; exact ok.st⟩
  all_goals obtain ⟨x, hx, rfl⟩ := mem r hr
  · obtain ⟨a, b, c⟩ := ok.rs x hx
    refine ⟨a, ?_, fun t ht => by rw [wB_names]; exact c t (wT_sub.subset ht)⟩
    by_cases n : x.2.1 = "says"
    · rcases b with ⟨z, _⟩ | ⟨z, _, l, w⟩
      · exact absurd (n.symm.trans z) (by decide +kernel)
      · exact .inr ⟨z, emp_iff.mp e _ hr n, Nat.le_trans wT_sub.length_le l, fun t ht => w t (wT_sub.subset ht)⟩
    · show RForm x.2.1 (wT x.1 ps x.2.2)
      rw [hear x hx n]; exact b
  · exact Nat.le_trans wT_sub.length_le (ok.len2 x hx)
  · exact (ok.tk x hx).sublist (wT_sub.map _)
def spIsWA : Sp := fun vs H Q _ => ∃ (B z : Addr) (kd : Str) (bk : Bk) (p : Pr), vs = [.ref B, .str kd, .ref z] ∧ BookAt H B bk ∧ (bk.map (·.1)).Nodup ∧ PAt H z p ∧ p ∈ wordsB kd bk ∧ ∀ H', Same H H' → Q (.bl true) H'
def spDeskW (C : Addr) : Sp := fun vs H Q _ => ∃ (q L : Addr) (us : List V) (bk : Bk) (st : Str) (ps : Lot), vs = [.ref q, .str "says", .ref L] ∧ DeskAt C H q bk st ∧ DOk bk st ∧ H L = some (.lst us) ∧ Ats H us ps ∧ Asc ps ∧ ps.length ≤ 1000 ∧ (∀ p ∈ ps, p ∈ wordsB "says" (ordB bk)) ∧ empB "says" (wB ps (ordB bk)) = false ∧
  ∀ H' q', Same H H' → DeskAt C H' q' (wB ps (ordB bk)) st → Q (.ref q') H'
def spDropD (C : Addr) : Sp := fun vs H Q _ => ∃ (q L : Addr) (us : List V) (bk : Bk) (st : Str) (ps : Lot), vs = [.ref q, .ref L] ∧ DeskAt C H q bk st ∧ DOk bk st ∧ H L = some (.lst us) ∧ Ats H us ps ∧ Asc ps ∧ ps.length ≤ 1000 ∧ (∀ p ∈ ps, p ∈ wordsB "says" (ordB bk)) ∧ empB "says" (wB ps (ordB bk)) = false ∧
  ∀ H' q', Same H H' → DeskAt C H' q' (wB ps (ordB bk)) st → Q (.ref q') H'
def spRescues (C : Addr) : Sp := fun vs H Q _ => ∃ (q : Addr) (bk : Bk) (st : Str), vs = [.ref q] ∧ DeskAt C H q bk st ∧ DOk bk st ∧ (wordsB "says" (ordB bk)).length ≤ 6 ∧
  ∀ H' R ws ls, Same H H' → H R = none → H' R = some (.lst ws) → Ats H' ws (srtG Lot ls) → Frs H ws → ls.Nodup → (∀ x, x ∈ ls ↔ Minl (srtG Pr (wordsB "says" (ordB bk))) (ResP (ordB bk) st) x) → Q (.ref R) H'
section
variable {P : Program} {w : World} {K : PySem.W.Frag} {mg : Str → Option Value} {base : Heap} {C : Addr}
abbrev CWordsAt (P : Program) (w : World) (K : PySem.W.Frag) (mg : Str → Option Value) (base : Heap) := Cal P w K mg base "words_at" 1 ["book", "kind"] spWordsAt
abbrev CLeast (P : Program) (w : World) (K : PySem.W.Frag) (mg : Str → Option Value) (base : Heap) (fN : Addr) := Cal P w K mg base "least_parts" 8 ["items", "helps", "told"] (spLeast fN)
abbrev CIsWA (P : Program) (w : World) (K : PySem.W.Frag) (mg : Str → Option Value) (base : Heap) := Cal P w K mg base "is_word_at" 2 ["book", "kind", "value"] spIsWA
abbrev CAsc (P : Program) (w : World) (K : PySem.W.Frag) (mg : Str → Option Value) (base : Heap) := Cal P w K mg base "is_ascending" 1 ["items"] (spAsc K)
abbrev CDeskW (P : Program) (w : World) (K : PySem.W.Frag) (mg : Str → Option Value) (base : Heap) (C : Addr) := Cal P w K mg base "desk_without" 6 ["desk", "kind", "value"] (spDeskW C)
abbrev rsN : List Str := ["desk", "book"]
theorem scRs : FnScope rsN ["desk"] (defScope sRescues) := ⟨rfl, rfl, rfl, by decide +kernel, rfl, by decide +kernel, by decide +kernel⟩
theorem ok_rescues {f fN : Addr} {fd : FuncData} (F : Fun K "rescues" "rescues" sRescues f fd) (D : DTxt K mg C) (gN : mg "rescues_without" = some (.ref fN)) (CN : CNeed P w K mg base C) (MB : CMBook P w K mg base C) (MS : CMStart P w K mg base C) (CW : CWordsAt P w K mg base) (CL : CLeast P w K mg base fN) : FnOk P w K mg base CX0 9 f fd ["desk"] (spRescues C) := by
  obtain ⟨fB, fdB, mB, FB, bB⟩ := MB.ex
  obtain ⟨fS, fdS, mS, FS, bS⟩ := MS.ex
  refine F.ok scRs (fun vs H Q E h => ?_) (fun cdv A0 outer s H vs Q E hr h => ?_)
  · obtain ⟨q, bk, st, rfl, _⟩ := h; rfl
  · obtain ⟨q, bk, st, rfl, hq, ok, l6, k⟩ := h
    refine ⟨_, pss_cons (ps_expr (pe_cal CN (hr.mono (by decide)) rfl (pa_cons (pv 0) pa_nil)))
      (pss_cons (ps_set (i := 1) scRs.nd rfl (Or.inl rfl) (pe_meth0 (pv 0) D.cl mB FB (hr.mono (by decide)) bB .nil pass0))
      (pss_one (ps_ret (pe_cal CL (hr.mono (by decide)) rfl (pa_cons (pe_cal CW (hr.mono (by decide)) rfl (pa_cons (pv 1) (pa_cons pe_str pa_nil))) (pa_cons (pe_glob (v := .ref fN) rfl gN rfl) (pa_cons (pe_tup (pa_cons (pv 1) (pa_cons (pe_meth0 (pv 0) D.cl mS FS (hr.mono (by decide)) bS .nil pass0) pa_nil))) pa_nil))))))), ?_⟩
    obtain ⟨dx, b0, e0, _⟩ := id hq
    refine ⟨_, rfl, q, dx, _, rfl, e0, ?_⟩
    refine ⟨_, rfl, q, dx, _, rfl, e0, dflds_no _ _ (by decide +kernel) (by decide +kernel), q, bk, st, rfl, hq, ok, fun H1 B s1 nB hB _ => ?_⟩
    have vo := ok.ord.vok
    have ne := ordB_ne ok.ne
    refine ⟨_, rfl, B, "says", ordB bk, rfl, hB, vo, ne, fun H2 I us s2 nI hI hA => ?_⟩
    have s12 := Same.trans s1 s2
    refine ⟨_, rfl, _, rfl, q, dx, _, rfl, s12 _ _ e0, dflds_no _ _ (by decide +kernel) (by decide +kernel), q, bk, st, rfl, hq.same s12, (by show 2 ≤ sizeLine; decide), fun T hT => ?_⟩
    have g := Same.new (o := .tup [.ref B, .str st]) hT
    have nd : (wordsB "says" (ordB bk)).Nodup := words_nd ok.ond ok.ord.tk
    refine ⟨I, T, us, _, ordB bk, st, rfl, g _ _ hI, hA.same g, asc_srt nd, by rw [(srtG_perm _).length_eq]; exact l6, ⟨B, upd_same, (hB.same s2).same g⟩, vo, ne, fun H4 R ws ls s4 nR hR hW fW lnd lm => ?_⟩
    have s14 := Same.trans s12 (Same.trans g s4)
    exact k H4 R ws ls s14 ((Same.trans s12 g).free nR) hR hW (Frs.free (Same.trans s12 g) fW) lnd lm
abbrev iwN : List Str := ["book", "kind", "value", "state", "word"]
theorem scIw : FnScope iwN ["book", "kind", "value"] (defScope sIsWA) := ⟨rfl, rfl, rfl, by decide +kernel, rfl, by decide +kernel, by decide +kernel⟩
theorem ok_iswa {f : Addr} {fd : FuncData} (F : Fun K "is_word_at" "is_word_at" sIsWA f fd) (T : Free3 mg) (CI : CIsState P w K mg base) : FnOk P w K mg base CX0 2 f fd ["book", "kind", "value"] spIsWA := by
  refine F.ok scIw (fun vs H Q E h => ?_) (fun cdv A0 outer s H vs Q E hr h => ?_)
  · obtain ⟨B, z, kd, bk, p, rfl, _⟩ := h; rfl
  · obtain ⟨B, z, kd, bk, p, rfl, ⟨kvs, hB, hRc⟩, nd, hz, hp, k⟩ := h
    have hu := hu_of hr
    refine ⟨_, pss_cons (ps_if (PW.pt (pw_or (pt_not (pt_val (pe_callB call_isi (by rfl) T.isi (by decide +kernel) (pa_cons (pv 2) (pa_cons (pe_bltn (v := .ty "tuple") rfl T.tuple (by decide +kernel) rfl) pa_nil))))) (pw_or (pt_cmpR op_ne (pe_callB call_len_seq (by rfl) T.len PySem.boot_len (pa_cons (pv 2) pa_nil)) pe_int (nomark _)) (pw_or1 (pt_not (pt_val (pe_cal CI (hr.mono (by decide)) rfl (pa_cons (pv 0) (pa_cons (pe_ix ix_tup (pv 2) pe_int (fun _ _ => rfl)) pa_nil))))))))) (pss_one (ps_ret pe_bl)) pss_nil)
      (pss_cons (ps_asg (pv 2) (pg_tup rfl (pgs_cons (pg_name (i := 3) scIw.nd rfl (Or.inl rfl)) (pgs_cons (pg_name (i := 4) scIw.nd rfl (Or.inl rfl)) pgs_nil))))
      (pss_one (ps_ret (pe_and (pe_cmpR op_eq (pe_ix ix_tup (pe_dget hu (pv 0) (pv 3) (fun _ _ => rfl)) pe_int (fun _ _ => rfl)) (pv 1) (nomark _)) (pe_and (pe_callB call_isi (by rfl) T.isi (by decide +kernel) (pa_cons (pv 4) (pa_cons (pe_bltn (v := .ty "str") rfl T.str (by decide +kernel) rfl) pa_nil))) (pe_one (pe_cmp (pc_din hu (pv 4) (pe_ix ix_tup (pe_dget hu (pv 0) (pv 3) (fun _ _ => rfl)) pe_int (fun _ _ => rfl))) rfl))))))), ?_⟩
    obtain ⟨r, hr2, er, e1, hw⟩ := words_mem.mp hp
    obtain ⟨s, w⟩ := p
    have e1 : s = r.1 := e1
    subst e1
    have hw : w ∈ r.2.2.map (·.1) := hw
    obtain ⟨v1, ev, ⟨t, a, rfl, ht, ha⟩, _⟩ := hRc.look (List.mem_map_of_mem hr2)
    rw [rowOf_self nd hr2] at ht ha
    have dg : DGet H B (V.str r.1) (some (.ref t)) := .inl ⟨kvs, .inr r.1, .inl hB, rfl, ev.symm⟩
    refine ⟨_, rfl, _, .ty "tuple", .type "tuple", .type "tuple", true, rfl, .ty _, .base (.tup hz), kit_ty (by decide +kernel), _, rfl, ?_⟩
    refine iteF ⟨_, rfl, z, _, rfl, .inr (SqT.of hz), rfl, _, rfl, ?_⟩
    refine iteF ⟨_, rfl, _, rfl, z, _, _, _, rfl, rfl, SqT.of hz, atI_nat (j := 0) rfl, B, kvs, r.1, rfl, .inl hB, by rw [ev]; rfl, _, rfl, iteF ?_⟩
    refine ⟨_, rfl, z, _, rfl, SqT.of hz, rfl, _, _, rfl, _, _, rfl, rfl, ?_⟩
    refine ⟨_, rfl, _, rfl, B, _, rfl, dg, t, _, _, _, rfl, rfl, SqT.of ht, atI_nat (j := 0) rfl, _, rfl, rfl, _, rfl, ?_⟩
    refine (if_pos (by rw [dec_str]; exact decide_eq_true er)).mpr ?_
    refine ⟨_, rfl, _, .ty "str", .type "str", .type "str", true, rfl, .ty _, .base (.str _), kit_ty (by decide +kernel), _, rfl, iteT ?_⟩
    refine ⟨_, rfl, _, rfl, _, rfl, B, _, rfl, dg, t, _, _, _, rfl, rfl, SqT.of ht, atI_nat (j := 1) rfl, a, _, rfl, Gs.dget (.inl ha) (x := w) rfl, ?_⟩
    rw [Gs.val_dec (ps := r.2.2.map (·.1)) (by rw [kT, List.map_map, List.map_map]; rfl), decide_eq_true hw]
    exact k H (Same.refl _)
abbrev dwN : List Str := ["desk", "kind", "value", "book", "left", "item"]
theorem scDw : FnScope dwN ["desk", "kind", "value"] (defScope sDeskW) := ⟨rfl, rfl, rfl, by decide +kernel, rfl, by decide +kernel, by decide +kernel⟩
theorem ok_deskw {f : Addr} {fd : FuncData} (F : Fun K "desk_without" "desk_without" sDeskW f fd) (T : Free3 mg) (D : DTxt K mg C) (MB : CMBook P w K mg base C) (MS : CMStart P w K mg base C) (MI : CMInit P w K mg base C) (CI : CIsWA P w K mg base) (CA : CAsc P w K mg base) (CB : CBookW P w K mg base) : FnOk P w K mg base CX0 6 f fd ["desk", "kind", "value"] (spDeskW C) := by
  obtain ⟨fB, fdB, mB, FB, bB⟩ := MB.ex
  obtain ⟨fS, fdS, mS, FS, bS⟩ := MS.ex
  obtain ⟨fI, fdI, mI, FI, bI⟩ := MI
  refine F.ok scDw (fun vs H Q E h => ?_) (fun cdv A0 outer s H vs Q E hr h => ?_)
  · obtain ⟨q, L, us, bk, st, ps, rfl, _⟩ := h; rfl
  · obtain ⟨q, L, us, bk, st, ps, rfl, hq, ok, hL, hA, asc, l10, hw, he, k⟩ := h
    have hu := hu_of hr
    refine ⟨_, pss_cons (ps_set (i := 3) scDw.nd rfl (Or.inr rfl) (pe_meth0 (pv 0) D.cl mB FB (hr.mono (by decide)) bB .nil pass0))
      (pss_cons (ps_if (PW.pt (pw_or (pt_not (pt_val (pe_callB call_isi (by rfl) T.isi (by decide +kernel) (pa_cons (pv 2) (pa_cons (pe_bltn (v := .ty "list") rfl T.list (by decide +kernel) rfl) pa_nil))))) (pw_or1 (pt_not (pt_val (pe_callB (cr_all rfl) (by rfl) T.all (by decide +kernel) (pa_cons (pe_lc (own := [("item", 5)]) (g := gName 5) (tt := tYes) (te := tCall spIsWA [] E0 (tCons (tVar 3) (tCons (tVar 1) (tCons (tVar 5) tNil)))) rfl scDw.nd (pi_list (pv 2)) (blkOk_by (N := dwN) (sc := defScope sDeskW) (by decide +kernel)) (fun _ _ _ _ _ => pg_name (i := 5) scDw.nd rfl (Or.inl rfl)) (fun _ _ _ _ _ => pts_nil)
          (fun _ _ _ _ _ => pe_cal CI (hr.mono (by decide)) rfl (pa_cons (pv 3) (pa_cons (pv 1) (pa_cons (pv 5) pa_nil))))) pa_nil))))))) (pss_one (ps_ret pe_non)) pss_nil)
      (pss_cons (ps_if (pt_not (pt_val (pe_cal CA (hr.mono (by decide)) rfl (pa_cons (pv 2) pa_nil)))) (pss_one (ps_ret pe_non)) pss_nil)
      (pss_cons (ps_set (i := 4) scDw.nd rfl (Or.inl rfl) (pe_cal CB (hr.mono (by decide)) rfl (pa_cons (pv 3) (pa_cons (pv 1) (pa_cons (pe_dcT (own := [("item", 5)]) (g := gName 5) (tt := tYes) (tk := tVar 5) (tv := tC (.bl true)) (Nat.lt_of_succ_lt hu) rfl scDw.nd (pi_list (pv 2)) (blkOk_by (N := dwN) (sc := defScope sDeskW) (by decide +kernel)) (fun _ _ _ _ _ => pg_name (i := 5) scDw.nd rfl (Or.inl rfl)) (fun _ _ _ _ _ => pts_nil) (fun _ _ _ _ _ => pv 5) (fun _ _ _ _ _ => pe_bl)) pa_nil)))))
      (pss_one (ps_ret (pe_ifExp (pt_cmp (pc_isN (pv 4)) rfl) pe_non (pe_make mI FI (hr.mono (by decide)) rfl D.mgC bI .nil pass0 (pa_cons (pv 4) (pa_cons (pe_meth0 (pv 0) D.cl mS FS (hr.mono (by decide)) bS .nil pass0) pa_nil))))))))), ?_⟩
    obtain ⟨dx, b0, e0, _⟩ := id hq
    have lu := hA.len
    refine ⟨_, rfl, q, dx, _, rfl, e0, dflds_no _ _ (by decide +kernel) (by decide +kernel), q, bk, st, rfl, hq, ok, fun H1 B s1 nB hB _ => ?_⟩
    have hL1 := s1 _ _ hL
    have hA1 := hA.same s1
    refine ⟨_, rfl, _, .ty "list", .type "list", .type "list", true, rfl, .ty _, .base (.lst hL1), kit_ty (by decide +kernel), _, rfl, iteF ?_⟩
    refine ⟨_, rfl, L, rfl, ⟨_, SqL.of hL1⟩, fun M hM => ?_⟩
    refine lc_list (K := K) (a := L) (xs := us) (fun i H' => Same H1 H' ∧ H' M = some (.lst ((List.replicate i true).map V.bl))) ⟨Same.new hM, upd_same⟩ (fun i H' _ z => SqL.of (z.1 _ _ hL1)) ?_ ?_
    · rintro i v H2 hv ⟨sm, hM2⟩
      have li : i < us.length := (List.getElem?_eq_some_iff.mp hv).1
      obtain ⟨p, hp, z, rfl, hz⟩ := paired_get hA1 hv
      refine ⟨rfl, ?_⟩
      dsimp only [tYes]
      rw [if_pos rfl]
      refine ⟨_, rfl, _, rfl, _, rfl, B, z, "says", ordB bk, p, rfl, hB.same sm, ok.ond, sm _ _ hz, hw p (List.mem_of_getElem? hp), fun H3 s3 => ⟨_, s3 _ _ hM2, by rw [List.length_map, List.length_replicate, sizeLine_eq]; omega, fun c o e => ?_, by rw [upd_same, ← repl_snoc]⟩⟩
      rw [upd_ne (ne_of_none e hM)]; exact s3 _ _ (sm _ _ e)
    rintro H2 ⟨sm, hM2⟩
    refine ⟨M, _, rfl, SqL.of hM2, ?_⟩
    rw [all_true]
    refine ⟨_, rfl, iteF ?_⟩
    refine ⟨_, rfl, L, us, ps, rfl, sm _ _ hL1, hA1.same sm, by omega, fun H3 s3 => ⟨_, rfl, ?_⟩⟩
    rw [ascB_iff.mpr asc]
    refine iteF ?_
    have s13 := Same.trans sm s3
    have hL3 := s13 _ _ hL1
    have hA3 := hA1.same s13
    have pnd := asc_nd asc
    refine ⟨_, rfl, _, rfl, ?_⟩
    refine ⟨_, rfl, L, rfl, ⟨_, SqL.of hL3⟩, fun F0 hF => ?_⟩
    refine dct_it (walk_list (a := L) (xs := us)) (fun i H' => Same H3 H' ∧ H' F0 = some (.dT (FT (ps.take i)))) ⟨Same.new hF, upd_same⟩ (fun i H' _ z => SqL.of (z.1 _ _ hL3)) ?_ ?_
    · rintro i x H4 H5 hi ⟨s4, hF4⟩ ⟨rfl, hx⟩
      obtain ⟨p, hp, z, rfl, hz⟩ := paired_get hA3 hx
      have nn : p ∉ ps.take i := fun m => by
        have := not_before (gs := []) (ls := ps) (by simpa using pnd) hp
        rw [List.nil_append] at this
        exact this m
      refine ⟨rfl, ?_⟩
      dsimp only [tYes]
      rw [if_pos rfl]
      refine ⟨_, rfl, _, kP p, z, rfl, s4 _ _ hz, hF4, by rw [FT, List.length_map, List.length_take, sizeLine_eq]; omega, fun c o e => ?_, by rw [upd_same, FT_put nn, take_succ_get hp]⟩
      rw [upd_ne (ne_of_none e hF)]; exact s4 _ _ e
    rintro H4 ⟨s4, hF4⟩
    rw [lu, List.take_length] at hF4
    have s14 := Same.trans s13 s4
    refine ⟨B, "says", .ref F0, ordB bk, ps, rfl, hB.same s14, ok.ord.vok, ordB_ne ok.ne, .inr ⟨F0, rfl, hF4⟩, fun H5 D5 s5 nD hD => ?_⟩
    rw [he, if_neg (by decide)]
    have s05 := Same.trans s1 (Same.trans s14 s5)
    refine ⟨_, rfl, _, rfl, iteF ⟨_, rfl, _, rfl, q, dx, _, rfl, s05 _ _ e0, dflds_no _ _ (by decide +kernel) (by decide +kernel), q, bk, st, rfl, hq.same s05, ?_⟩⟩
    exact fun x dx' h1 h2 _ => make_ok hD (ok.ord.w hw he) (fun H' R s6 _ hR _ => k H' R (Same.trans s05 s6) hR) x dx' h1 h2
theorem scDr2 : FnScope ["desk", "lot", "without"] ["desk", "lot"] (defScope sDropped2) := ⟨rfl, rfl, rfl, by decide +kernel, rfl, by decide +kernel, by decide +kernel⟩
theorem ok_dropd {f : Addr} {fd : FuncData} (F : Fun K "dropped" "dropped" sDropped2 f fd) (CN : CNeed P w K mg base C) (CD : CDeskW P w K mg base C) : FnOk P w K mg base CX0 7 f fd ["desk", "lot"] (spDropD C) := by
  refine F.ok scDr2 (fun vs H Q E h => ?_) (fun cdv A0 outer s H vs Q E hr h => ?_)
  · obtain ⟨q, L, us, bk, st, ps, rfl, _⟩ := h; rfl
  · obtain ⟨q, L, us, bk, st, ps, rfl, hq, ok, hL, hA, asc, l10, hw, he, k⟩ := h
    refine ⟨_, pss_cons (ps_expr (pe_cal CN (hr.mono (by decide)) rfl (pa_cons (pv 0) pa_nil)))
      (pss_cons (ps_set (i := 2) scDr2.nd rfl (Or.inl rfl) (pe_cal CD (hr.mono (by decide)) rfl (pa_cons (pv 0) (pa_cons pe_str (pa_cons (pv 1) pa_nil)))))
      (pss_cons (ps_if (pt_cmp (pc_isN (pv 2)) rfl) pss_never pss_nil)
      (pss_one (ps_ret (pv 2))))), ?_⟩
    obtain ⟨dx, b0, e0, _⟩ := id hq
    refine ⟨_, rfl, q, dx, _, rfl, e0, ?_⟩
    refine ⟨_, rfl, _, rfl, q, L, us, bk, st, ps, rfl, hq, ok, hL, hA, asc, l10, hw, he, fun H1 q' s1 hq' => ?_⟩
    exact ⟨_, rfl, _, rfl, iteF ⟨_, rfl, k H1 q' s1 hq'⟩⟩
end
end D1
end L2
namespace L2
namespace D1
open PySem PySem.Spec PyProof.Rows D2 X5 X6
abbrev sTBook : Stmt := top 66
theorem bl_eqx {H : Hp} {n : Nat} (b : Bool) : EqX n H (.bl b) (.bl b) := EqX.up (m := 0) ⟨.bl b, rfl⟩ (Nat.zero_le _)
theorem DOk.rev {bk : Bk} {st : Str} (ok : DOk bk st) : DOk bk.reverse st := by
  have nm : ∀ {s}, s ∈ bk.reverse.map (·.1) ↔ s ∈ bk.map (·.1) := fun {s} => by rw [List.map_reverse, List.mem_reverse]
  refine ⟨⟨fun e => ok.ne (List.reverse_eq_nil_iff.mp e), by rw [List.map_reverse]; exact (List.reverse_perm _).nodup_iff.mpr ok.nd, by rw [List.length_reverse]; exact ok.len, fun r hr => ?_, fun r hr => ok.len2 r (List.mem_reverse.mp hr)⟩, fun r hr => ok.tk r (List.mem_reverse.mp hr), nm.mpr ok.st⟩
  obtain ⟨a, b, c⟩ := ok.rs r (List.mem_reverse.mp hr)
  exact ⟨a, b, fun t ht => nm.mpr (c t ht)⟩
def rB (r : Str × Str × List (Str × Str)) : Str × Str × List (Str × Str) := (r.1, r.2.1, r.2.2.reverse)
/-- all turned round -/
def revB (bk : Bk) : Bk := bk.reverse.map rB
theorem revB_names (bk : Bk) : (revB bk).map (·.1) = bk.reverse.map (·.1) := by rw [revB, List.map_map]; rfl
theorem DOk.revB {bk : Bk} {st : Str} (ok : DOk bk st) : DOk (revB bk) st := by
  have o := ok.rev
  have mem : ∀ r ∈ D1.revB bk, ∃ x ∈ bk.reverse, r = rB x := fun r hr => by
    obtain ⟨x, hx, e⟩ := List.mem_map.mp hr
    exact ⟨x, hx, e.symm⟩
  refine ⟨⟨fun e => o.ne (List.map_eq_nil_iff.mp e), by rw [revB_names]; exact o.nd, by rw [D1.revB, List.length_map]; exact o.len, fun r hr => ?_, fun r hr => ?_⟩, fun r hr => ?_, by rw [revB_names]; exact o.st⟩
  all_goals obtain ⟨x, hx, rfl⟩ := mem r hr
  · obtain ⟨a, b, c⟩ := o.rs x hx
    refine ⟨a, ?_, fun t ht => by rw [revB_names]; exact c t (List.mem_reverse.mp ht)⟩
    rcases b with ⟨z, e⟩ | ⟨z, n, l, w⟩
    · exact .inl ⟨z, by show x.2.2.reverse = []; rw [e]; rfl⟩
    · exact .inr ⟨z, fun e => n (List.reverse_eq_nil_iff.mp e), by show x.2.2.reverse.length ≤ _; rw [List.length_reverse]; exact l, fun t ht => w t (List.mem_reverse.mp ht)⟩
  · show x.2.2.reverse.length ≤ _
    rw [List.length_reverse]; exact o.len2 x hx
  · show (x.2.2.reverse.map (·.1)).Nodup
    rw [List.map_reverse]; exact (List.reverse_perm _).nodup_iff.mpr (o.tk x hx)
theorem revB_row {bk : Bk} (nd : (bk.map (·.1)).Nodup) {s : Str} (h : s ∈ bk.map (·.1)) : rowOf (revB bk) s = ((rowOf bk s).1, (rowOf bk s).2.reverse) := by
  obtain ⟨r, hr, e⟩ := List.mem_map.mp h
  subst e
  rw [rowOf_self nd hr]
  exact rowOf_self (bk := revB bk) (by rw [revB_names, List.map_reverse]; exact (List.reverse_perm _).nodup_iff.mpr nd) (r := rB r) (List.mem_map_of_mem (List.mem_reverse.mpr hr))
theorem ordT_rev {ts : List (Str × Str)} (nd : (ts.map (·.1)).Nodup) : ordT ts.reverse = ordT ts := by
  unfold ordT
  have e1 : srt (ts.reverse.map (·.1)) = srt (ts.map (·.1)) := srt_congr (by rw [List.map_reverse]; exact List.reverse_perm _)
  rw [e1]
  refine List.map_congr_left fun k hk => ?_
  have m := (srt_perm _).mem_iff.mp hk
  obtain ⟨t, ht, e⟩ := List.mem_map.mp m
  subst e
  rw [goalT_at nd ht, goalT_at (by rw [List.map_reverse]; exact (List.reverse_perm _).nodup_iff.mpr nd) (List.mem_reverse.mpr ht)]
theorem ordB_revB {bk : Bk} {st : Str} (ok : DOk bk st) : ordB (revB bk) = ordB bk := by
  refine ordB_eq (by rw [revB_names, List.map_reverse]; exact List.reverse_perm _) fun s hs => ?_
  rw [revB_names, List.map_reverse, List.mem_reverse] at hs
  rw [revB_row ok.nd hs]
  exact ⟨rfl, ordT_rev (ok.tk _ (row_mem hs))⟩
theorem paired_rev {α β : Type} {R : α → β → Prop} {xs : List α} {ys : List β} (h : Paired R xs ys) : Paired R xs.reverse ys.reverse := by
  induction h with
  | nil => exact .nil
  | cons a _ ih =>
    rw [List.reverse_cons, List.reverse_cons]
    exact paired_snoc ih a
def spTBook (C : Addr) : Sp := fun vs H Q _ => ∃ (W : Addr) (bk : Bk) (st : Str), vs = [.ref W] ∧ WorldAt H W bk st ∧ DOk bk st ∧ ∀ H' q, Same H H' → DeskAt C H' q (revB bk) st → Q (.ref q) H'
/-- a state's turns, the other way round, in a new dict -/
def tRevT : TE := fun σ H Q => ∃ (W b t a : Addr) (s st k : Str) (kvs : List (Key × V)) (ts : List (Str × Str)), σ = [some (.ref W), some (.str s)] ∧ H W = some (.lst [.ref b, .str st]) ∧ H b = some (.dK kvs) ∧ valV kvs (.inr s) = some (.ref t) ∧ H t = some (.tup [.str k, .ref a]) ∧ TurnsAt H a ts ∧ (ts.map (·.1)).Nodup ∧
  ∀ H' a', Same H H' → H a' = none → TurnsAt H' a' ts.reverse → Q (.ref a') H'
section
variable {P : Program} {w : World} {K : PySem.W.Frag} {mg : Str → Option Value} {base : Heap} {C : Addr}
abbrev tbN : List Str := ["_law_world_here", "_law_state"]
theorem scTb : FnScope tbN ["_law_world_here"] (defScope sTBook) := ⟨rfl, rfl, rfl, by decide +kernel, rfl, by decide +kernel, by decide +kernel⟩
theorem ok_tbook {f : Addr} {fd : FuncData} (F : Fun K "_law_turned_book" "_law_turned_book" sTBook f fd) (T : Free4 mg) (D : DTxt K mg C) (MI : CMInit P w K mg base C) : FnOk P w K mg base CX0 6 f fd ["_law_world_here"] (spTBook C) := by
  obtain ⟨fI, fdI, mI, FI, bI⟩ := MI
  refine F.ok scTb (fun vs H Q E h => ?_) (fun cdv A outer s H vs Q E0' hr h => ?_)
  · obtain ⟨W, bk, st, rfl, _⟩ := h; rfl
  · obtain ⟨W1, bk, st, rfl, w1, o1, k⟩ := h
    have hu := hu_of hr
    refine ⟨_, pss_one (ps_ret (pe_make mI FI (hr.mono (by decide)) rfl D.mgC bI .nil pass0 (pa_cons (pe_callTy (call_dictP rfl) (by rfl) T.dict (by decide +kernel) (pa_cons (pe_lc (own := [("_law_state", 1)]) (g := gName 1) (tt := tYes) (te := tTup (tCons (tVar 1) (tCons (tTup (tCons (tOp (rIxT K) (tDGet (tOp (rIxL K) (tVar 0) (tC (.int 0))) (tVar 1)) (tC (.int 0))) (tCons tRevT tNil))) tNil))) rfl scTb.nd (pi_list (pe_revL (pe_callTy (call_listD rfl) (by rfl) T.list (by decide +kernel) (pa_cons (pe_ix ix_list (pv 0) pe_int (fun _ _ => rfl)) pa_nil))))
        (blkOk_by (N := tbN) (sc := defScope sTBook) (by decide +kernel)) (fun _ _ _ _ _ => pg_name (i := 1) scTb.nd rfl (Or.inl rfl)) (fun _ _ _ _ _ => pts_nil) (fun _ _ _ _ _ => pe_tup (pa_cons (pv 1) (pa_cons (pe_tup (pa_cons (pe_ix ix_tup (pe_dget hu (pe_ix ix_list (pv 0) pe_int (fun _ _ => rfl)) (pv 1) (fun _ _ => rfl)) pe_int (fun _ _ => rfl)) (pa_cons (pe_imp (t' := tRevT) (pe_callTy (call_dictP rfl) (by rfl) T.dict (by decide +kernel) (pa_cons (pe_revL (LiI.pe_listItems rfl (pe_ix ix_tup (pe_dget hu (pe_ix ix_list (pv 0) pe_int (fun _ _ => rfl)) (pv 1) (fun _ _ => rfl)) pe_int (fun _ _ => rfl)) (by rfl) T.list (by decide +kernel))) pa_nil)) (by
          rintro σ H Q ⟨W, b, t, a, s, st, k, kvs, ts, rfl, hW, hb, hv, ht, ha, nd, q⟩
          refine ⟨_, rfl, W, _, _, _, rfl, rfl, SqL.of hW, atI_nat (j := 0) rfl, _, rfl, b, _, rfl, .inl ⟨kvs, .inr s, .inl hb, rfl, hv.symm⟩, t, _, _, _, rfl, rfl, SqT.of ht, atI_nat (j := 1) rfl, a, _, rfl, ha, fun H1 p ps s1 np _ _ hp hps => ?_⟩
          refine ⟨p, _, rfl, SqL.of hp, fun p2 h2 => ?_⟩
          rw [← List.map_reverse]
          have g2 := Same.new (o := .lst (ps.reverse.map V.ref)) h2
          have hrev := paired_rev hps
          refine ⟨p2, ps.reverse, (kT ts).reverse, rfl, SqL.of upd_same, paired_imp (fun p kv e => SqT.of (g2 _ _ e)) hrev, fun B hB => ?_⟩
          have er : (kT ts).reverse = kT ts.reverse := by rw [kT, kT, List.map_reverse]
          rw [er, merge_id2 (by rw [kT, List.map_map]; exact (by have := inr_nd' (l := ts.reverse.map (·.1)) (by rw [List.map_reverse]; exact (List.reverse_perm _).nodup_iff.mpr nd); rw [List.map_map] at this; exact this))]
          exact q _ B (Same.trans s1 (Same.trans g2 (Same.new hB))) (Same.free (H := H) (H' := H1) s1 (g2.free hB)) upd_same)) pa_nil))) pa_nil)))) pa_nil)) (pa_cons (pe_ix ix_list (pv 0) pe_int (fun _ _ => rfl)) pa_nil)))), ?_⟩
    have wfr := o1.revB
    obtain ⟨b, hWb, kvs, hb, hRb⟩ := id w1
    have l60 := o1.len
    have ekn : kvs.map (fun kv => kV kv.1) = (bk.map (·.1)).map V.str := by
      have := congrArg (List.map kV) hRb.keys
      rw [List.map_map, List.map_map] at this
      rw [List.map_map]; exact this
    refine ⟨_, rfl, W1, _, _, _, rfl, rfl, SqL.of hWb, atI_nat (j := 0) rfl, b, kvs, rfl, .inl hb, fun a1 h1 => ?_⟩
    rw [ekn]
    have g11 := Same.new (o := .lst ((bk.map (·.1)).map V.str)) h1
    have e11 : (L2.upd H a1 (.lst ((bk.map (·.1)).map V.str))) a1 = some (.lst ((bk.map (·.1)).map V.str)) := upd_same
    generalize L2.upd H a1 (.lst ((bk.map (·.1)).map V.str)) = H11 at g11 e11
    refine ⟨a1, _, rfl, SqL.of e11, fun a2 h2 => ?_⟩
    rw [← List.map_reverse, ← List.map_reverse]
    have g12 := Same.new (o := .lst ((bk.reverse.map (·.1)).map V.str)) h2
    have e12 : SL (L2.upd H11 a2 (.lst ((bk.reverse.map (·.1)).map V.str))) a2 (bk.reverse.map (·.1)) := upd_same
    generalize L2.upd H11 a2 (.lst ((bk.reverse.map (·.1)).map V.str)) = H12 at g12 e12
    have s1012 := Same.trans g11 g12
    refine ⟨a2, rfl, ⟨_, e12.sq⟩, fun D0 hD0 => ?_⟩
    refine lc_list (K := K) (a := a2) (xs := (bk.reverse.map (·.1)).map V.str) (fun j H' => Same H12 H' ∧ ∃ (ps : List Addr) (kv2 : List (Key × V)), H' D0 = some (.lst (ps.map V.ref)) ∧ Paired (fun a (kv : Key × V) => (cut [D0] H') a = some (.tup [kV kv.1, kv.2])) ps kv2 ∧ Rows (cut [D0] H') kv2 ((revB bk).take j)) ⟨Same.new hD0, [], [], upd_same, .nil, .nil⟩ (fun j H' _ z => (e12.same z.1).sq) ?_ ?_
    · rintro j x H13 hx ⟨sm, ps, kv2, hD, hpr, hR2⟩
      obtain ⟨s0, hs0, rfl⟩ := D1.get_map hx
      rw [List.getElem?_map] at hs0
      obtain ⟨r, hr', rfl⟩ := Option.map_eq_some_iff.mp hs0
      have hrm : r ∈ bk := List.mem_reverse.mp (List.mem_of_getElem? hr')
      obtain ⟨v1, ev, ⟨tu, a, rfl, htu, ha⟩, _⟩ := hRb.look (List.mem_map_of_mem hrm)
      rw [rowOf_self o1.nd hrm] at htu ha
      have sH := Same.trans s1012 sm
      have lj : j < bk.length := by have := (List.getElem?_eq_some_iff.mp hr').1; rwa [List.length_reverse] at this
      refine ⟨rfl, ?_⟩
      dsimp only [tYes]
      rw [if_pos rfl]
      refine ⟨_, rfl, _, rfl, W1, _, _, _, rfl, rfl, SqL.of (sH _ _ hWb), atI_nat (j := 0) rfl, _, rfl, b, _, rfl, .inl ⟨kvs, .inr r.1, .inl (sH _ _ hb), rfl, ev.symm⟩, tu, _, _, _, rfl, rfl, SqT.of (sH _ _ htu), atI_nat (j := 0) rfl, ?_⟩
      refine ⟨W1, b, tu, a, r.1, st, r.2.1, kvs, r.2.2, rfl, sH _ _ hWb, sH _ _ hb, ev, sH _ _ htu, sH _ _ ha, o1.tk r hrm, fun H20 a2 s20 na2 ha2 => ⟨by show 2 ≤ sizeLine; decide, fun T1 hT1 => ⟨by show 2 ≤ sizeLine; decide, fun T2 hT2 => ?_⟩⟩⟩
      have hD20 := s20 _ _ hD
      have g1 := Same.new (o := .tup [.str r.2.1, .ref a2]) hT1
      have e1 : (L2.upd H20 T1 (.tup [.str r.2.1, .ref a2])) T1 = some (.tup [.str r.2.1, .ref a2]) := upd_same
      have ha21 := g1 _ _ ha2
      have hD21 := g1 _ _ hD20
      have nT1 : T1 ≠ D0 := fun e => by rw [e, hD20] at hT1; cases hT1
      have na2' : a2 ≠ D0 := fun e => by rw [e, hD] at na2; cases na2
      have s21 := Same.trans s20 g1
      have hT2' := hT2
      generalize L2.upd H20 T1 (.tup [.str r.2.1, .ref a2]) = H21 at g1 e1 ha21 hD21 s21 hT2 hT2'
      have g := Same.new (o := .tup [.str r.1, .ref T1]) hT2
      have nT2 : T2 ≠ D0 := fun e => by rw [e, hD21] at hT2'; cases hT2'
      have s22 := Same.trans s21 g
      have lps : ps.length ≤ 60 := by rw [paired_len hpr, hR2.len, List.length_take, D1.revB, List.length_map, List.length_reverse]; omega
      have hrr : (D1.revB bk)[j]? = some (rB r) := by rw [D1.revB, List.getElem?_map, hr']; rfl
      refine ⟨_, g _ _ hD21, by rw [List.length_map, sizeLine_eq]; omega, fun c u e => ?_, ps ++ [T2], kv2 ++ [(.inr r.1, .ref T1)], by rw [upd_same, List.map_append]; rfl, ?_, ?_⟩
      · rw [upd_ne (ne_of_none e hD0)]; exact s22 _ _ (sm _ _ e)
      · rw [cut_upd (by simp)]
        exact pair_app (paired_imp (fun p kv e => cut_same s22 _ _ e) hpr) (by rw [cut_out (by simpa using nT2)]; exact upd_same)
      · rw [cut_upd (by simp), take_succ_get hrr]
        refine (hR2.same (cut_same s22)).app ⟨T1, a2, rfl, ?_, ?_⟩
        · rw [cut_out (by simpa using nT1)]; exact g _ _ e1
        · rw [TurnsAt, cut_out (by simpa using na2')]; exact g _ _ ha21
    rintro H13 ⟨s1213, ps, kv2, hD13, hpr, hR2⟩
    rw [List.length_map, List.length_map, show bk.reverse.length = (D1.revB bk).length by rw [D1.revB, List.length_map], List.take_length] at hR2
    refine ⟨D0, ps, kv2, rfl, SqL.of hD13, paired_imp (fun p kv e => SqT.of (cut_le _ _ e)) hpr, fun B hB => ?_⟩
    have hR3 := hR2.same cut_le
    rw [merge_id2 (by rw [hR3.keys]; have := inr_nd' wfr.nd; rw [List.map_map] at this; exact this)]
    have gB := Same.new (o := .dK kv2) hB
    have hBk : BookAt (L2.upd H13 B (.dK kv2)) B (D1.revB bk) := ⟨kv2, upd_same, hR3.same gB⟩
    generalize L2.upd H13 B (.dK kv2) = H14 at gB hBk
    have s1014 := Same.trans s1012 (Same.trans s1213 gB)
    refine ⟨_, rfl, W1, _, _, _, rfl, rfl, SqL.of (s1014 _ _ hWb), atI_nat (j := 1) rfl, fun q9 dx hq hdx _ => ?_⟩
    have s4q : Same H14 (L2.upd (L2.upd H14 dx (.own q9)) q9 (.ins C dx [])) := fun c u e => by
      rw [upd_ne (ne_of_none e hq), upd_ne (ne_of_none e hdx)]; exact e
    refine ⟨q9, dx, B, D1.revB bk, st, rfl, upd_same, hBk.same s4q, wfr, fun H15 b15 hd _ => ⟨rfl, ?_⟩⟩
    have s15 : Same H14 H15 := fun c u e => b15 _ _ (ne_of_none e hq) (s4q _ _ e)
    exact k H15 q9 (Same.trans s1014 s15) hd
end
end D1
end L2
namespace L2
namespace D1
open PySem PySem.Spec PyProof.Rows D2 X5 X6
abbrev sStays : Stmt := top 67
def spStays (C : Addr) : Sp := fun vs H Q _ => ∃ (W q : Addr) (bk bk' : Bk) (st : Str), vs = [.ref W, .ref q] ∧ WorldAt H W bk st ∧ DOk bk st ∧ DeskAt C H q bk' st ∧ DOk bk' st ∧ ordB bk' = ordB bk ∧ ∀ H', Same H H' → Q (.bl true) H'
/-- a state's turns in order, in a new dict -/
def tOrdT : TE := fun σ H Q => ∃ (W b t a : Addr) (v1 v2 v4 : Option V) (s st k : Str) (kvs : List (Key × V)) (ts : List (Str × Str)), σ = [some (.ref W), v1, v2, some (.str s), v4] ∧ H W = some (.lst [.ref b, .str st]) ∧ H b = some (.dK kvs) ∧ valV kvs (.inr s) = some (.ref t) ∧ H t = some (.tup [.str k, .ref a]) ∧ TurnsAt H a ts ∧ (ts.map (·.1)).Nodup ∧ ts.length ≤ 60 ∧
  ∀ H' a', Same H H' → H a' = none → TurnsAt H' a' (ordT ts) → Q (.ref a') H'
def scInS : Scope := { kind := ScopeKind.function, names := [(Str.ofString ".0", NameKind.local), (Str.ofString "_law_state", NameKind.cell), (Str.ofString "dict", NameKind.globalImplicit), (Str.ofString "sorted", NameKind.globalImplicit), (Str.ofString "_law_world_here", NameKind.cell)], isGenerator := false, isCoroutine := false }
section
variable {P : Program} {w : World} {K : PySem.W.Frag} {mg : Str → Option Value} {base : Heap} {C : Addr}
abbrev CLDesk (P : Program) (w : World) (K : PySem.W.Frag) (mg : Str → Option Value) (base : Heap) (C : Addr) := Cal P w K mg base "_law_desk" 6 ["_law_world_here"] (spLDesk C)
abbrev stN : List Str := ["_law_world_here", "_law_desk_here", "_law_book", "_law_state", "_law_word_here"]
theorem scSt : FnScope stN ["_law_world_here", "_law_desk_here"] (defScope sStays) := ⟨rfl, rfl, rfl, by decide +kernel, rfl, by decide +kernel, by decide +kernel⟩
theorem ok_stays {f : Addr} {fd : FuncData} (F : Fun K "_law_stays" "_law_stays" sStays f fd) (T : Free4 mg) (D : DTxt K mg C) (EQ : EqD P w K mg base C) (MB : CMBook P w K mg base C) (MS : CMStart P w K mg base C) (CD : CLDesk P w K mg base C) (CX : CExact P w K mg base 5) : FnOk P w K mg base CX0 7 f fd ["_law_world_here", "_law_desk_here"] (spStays C) := by
  obtain ⟨fB, fdB, mB, FB, bB⟩ := MB.ex
  obtain ⟨fS, fdS, mS, FS, bS⟩ := MS.ex
  refine F.ok scSt (fun vs H Q E h => ?_) (fun cdv A outer s H vs Q E0' hr h => ?_)
  · obtain ⟨W, q, bk, bk', st, rfl, _⟩ := h; rfl
  · obtain ⟨W, q, bk, bk', st, rfl, hW0, o1, hq, o2, eo, k⟩ := h
    have hu := hu_of hr
    refine ⟨_, pss_cons (ps_set (i := 2) scSt.nd rfl (Or.inl rfl) (pe_callTy (call_dictP rfl) (by rfl) T.dict (by decide +kernel) (pa_cons (pe_lc (own := [("_law_state", 3)]) (g := gName 3) (tt := tYes) (te := tTup (tCons (tVar 3) (tCons (tTup (tCons (tOp (rIxT K) (tDGet (tOp (rIxL K) (tVar 0) (tC (.int 0))) (tVar 3)) (tC (.int 0))) (tCons tOrdT tNil))) tNil))) rfl scSt.nd (pi_list (pe_callB (call_sortedD rfl) (by rfl) T.sorted (by decide +kernel) (pa_cons (pe_ix ix_list (pv 0) pe_int (fun _ _ => rfl)) pa_nil)))
        (blkOk_by (N := stN) (sc := defScope sStays) (by decide +kernel)) (fun _ _ _ _ _ => pg_name (i := 3) scSt.nd rfl (Or.inr rfl)) (fun _ _ _ _ _ => pts_nil) (fun _ _ _ _ _ => pe_tup (pa_cons (pv 3) (pa_cons (pe_tup (pa_cons (pe_ix ix_tup (pe_dget hu (pe_ix ix_list (pv 0) pe_int (fun _ _ => rfl)) (pv 3) (fun _ _ => rfl)) pe_int (fun _ _ => rfl)) (pa_cons (pe_imp (t' := tOrdT) (pe_callTy (call_dictP rfl) (by rfl) T.dict (by decide +kernel) (pa_cons (pe_lc (own := [("_law_word_here", 4)]) (g := gName 4) (tt := tYes) (te := tTup (tCons (tVar 4) (tCons (tDGet (tOp (rIxT K) (tDGet (tOp (rIxL K) (tVar 0) (tC (.int 0))) (tVar 3)) (tC (.int 1))) (tVar 4)) tNil))) rfl scSt.nd (pi_list (pe_callB (call_sortedD rfl) (by rfl) T.sorted (by decide +kernel) (pa_cons (pe_ix ix_tup (pe_dget hu (pe_ix ix_list (pv 0) pe_int (fun _ _ => rfl)) (pv 3) (fun _ _ => rfl)) pe_int (fun _ _ => rfl)) pa_nil)))
            (blkOk_by (N := stN) (sc := scInS) (by decide +kernel)) (fun _ _ _ _ _ => pg_name (i := 4) scSt.nd rfl (Or.inl rfl)) (fun _ _ _ _ _ => pts_nil) (fun _ _ _ _ _ => pe_tup (pa_cons (pv 4) (pa_cons (pe_dget hu (pe_ix ix_tup (pe_dget hu (pe_ix ix_list (pv 0) pe_int (fun _ _ => rfl)) (pv 3) (fun _ _ => rfl)) pe_int (fun _ _ => rfl)) (pv 4) (fun _ _ => rfl)) pa_nil)))) pa_nil)) ?tord) pa_nil))) pa_nil)))) pa_nil)))
      (pss_one (ps_ret (pe_and (pe_cal CX (hr.mono (by decide)) rfl (pa_cons (pe_lst (pa_cons (pe_meth0 (pv 1) D.cl mB FB (hr.mono (by decide)) bB .nil pass0) (pa_cons (pe_meth0 (pv 1) D.cl mS FS (hr.mono (by decide)) bS .nil pass0) pa_nil))) (pa_cons (pe_lst (pa_cons (pv 2) (pa_cons (pe_ix ix_list (pv 0) pe_int (fun _ _ => rfl)) pa_nil))) pa_nil))) (pe_one (pe_cmpR (eqD EQ (hr.mono (by decide))) (pv 1) (pe_cal CD (hr.mono (by decide)) rfl (pa_cons (pv 0) pa_nil)) (by rfl)))))), ?_⟩
    case tord =>
      rintro σ H Q ⟨W, b, t, a, v1, v2, v4, s, st, k, kvs, ts, rfl, hW, hb, hv, ht, ha, nd, l60, q⟩
      have ek : (kT ts).map (·.1) = (ts.map (·.1)).map Sum.inr := by rw [kT, List.map_map, List.map_map]; rfl
      refine ⟨_, rfl, W, _, _, _, rfl, rfl, SqL.of hW, atI_nat (j := 0) rfl, _, rfl, b, _, rfl, .inl ⟨kvs, .inr s, .inl hb, rfl, hv.symm⟩, t, _, _, _, rfl, rfl, SqT.of ht, atI_nat (j := 1) rfl, a, kT ts, ts.map (·.1), rfl, .inl ha, ek, by rw [List.length_map]; omega, fun ys L pm so hL => ?_⟩
      have ey := srt_of pm so
      have g1 := Same.new (o := .lst (ys.map V.str)) hL
      have eL : (L2.upd H L (.lst (ys.map V.str))) L = some (.lst (ys.map V.str)) := upd_same
      generalize L2.upd H L (.lst (ys.map V.str)) = H1 at g1 eL
      refine ⟨L, rfl, ⟨_, SqL.of eL⟩, fun M hM => ?_⟩
      refine lc_list (K := K) (a := L) (xs := ys.map V.str) (fun j H' => Same H1 H' ∧ ∃ (ps : List Addr), H' M = some (.lst (ps.map V.ref)) ∧ Paired (fun a (kv : Key × V) => (cut [M] H') a = some (.tup [kV kv.1, kv.2])) ps (kT ((ys.take j).map fun k => (k, goalT ts k)))) ⟨Same.new hM, [], upd_same, .nil⟩ (fun j H' _ z => SqL.of (z.1 _ _ eL)) ?_ ?_
      · rintro j x H2 hx ⟨sm, ps, hM2, hpr⟩
        obtain ⟨z, hz, rfl⟩ := D1.get_map hx
        have hzm : z ∈ ts.map (·.1) := pm.mem_iff.mp (List.mem_of_getElem? hz)
        have s12 := Same.trans g1 sm
        have lps : ps.length ≤ 60 := by
          have e := paired_len hpr
          rw [kT, List.length_map, List.length_map, List.length_take] at e
          have := pm.length_eq
          rw [List.length_map] at this
          omega
        refine ⟨rfl, ?_⟩
        dsimp only [tYes]
        rw [if_pos rfl]
        refine ⟨_, rfl, _, rfl, W, _, _, _, rfl, rfl, SqL.of (s12 _ _ hW), atI_nat (j := 0) rfl, _, rfl, b, _, rfl, .inl ⟨kvs, .inr s, .inl (s12 _ _ hb), rfl, hv.symm⟩, t, _, _, _, rfl, rfl, SqT.of (s12 _ _ ht), atI_nat (j := 1) rfl, _, rfl, a, _, rfl, .inl ⟨kT ts, .inr z, .inl (ha.same s12), rfl, (valV_goal hzm).symm⟩, by show 2 ≤ sizeLine; decide, fun T1 hT1 => ?_⟩
        have g2 := Same.new (o := .tup [.str z, .str (goalT ts z)]) hT1
        have nT : T1 ≠ M := fun e => by rw [e, hM2] at hT1; cases hT1
        refine ⟨_, g2 _ _ hM2, by rw [List.length_map, sizeLine_eq]; omega, fun c u e => ?_, ps ++ [T1], by rw [upd_same, List.map_append]; rfl, ?_⟩
        · rw [upd_ne (ne_of_none e hM)]; exact g2 _ _ (sm _ _ e)
        · rw [cut_upd (by simp), take_succ_get hz, List.map_append, kT, List.map_append]
          exact paired_snoc (paired_imp (fun _ _ e => cut_same g2 _ _ e) hpr) (by rw [cut_out (by simpa using nT)]; exact upd_same)
      · rintro H2 ⟨sm, ps, hM2, hpr⟩
        rw [List.length_map, List.take_length, ey] at hpr
        refine ⟨M, ps, kT (ordT ts), rfl, SqL.of hM2, paired_imp (fun p kv e => SqT.of (cut_le _ _ e)) hpr, fun B hB => ?_⟩
        have s12 := Same.trans g1 sm
        rw [merge_id2 (by
          have := inr_nd' (l := (ordT ts).map (·.1)) (by rw [ordT_keys]; exact (srt_perm _).nodup_iff.mpr nd)
          rw [List.map_map] at this
          rw [kT, List.map_map]; exact this)]
        exact q _ B (Same.trans s12 (Same.new hB)) (s12.free hB) upd_same
    obtain ⟨b, hWb, kvs, hb, hRb⟩ := id hW0
    have ekn : kvs.map (·.1) = (bk.map (·.1)).map Sum.inr := by rw [hRb.keys, List.map_map]; rfl
    have l60 := o1.len
    refine ⟨_, rfl, W, _, _, _, rfl, rfl, SqL.of hWb, atI_nat (j := 0) rfl, b, kvs, bk.map (·.1), rfl, .inl hb, ekn, by rw [List.length_map]; omega, fun ys L pm so hL => ?_⟩
    have ey := srt_of pm so
    have g1 := Same.new (o := .lst (ys.map V.str)) hL
    have eL : (L2.upd H L (.lst (ys.map V.str))) L = some (.lst (ys.map V.str)) := upd_same
    generalize L2.upd H L (.lst (ys.map V.str)) = H1 at g1 eL
    refine ⟨L, rfl, ⟨_, SqL.of eL⟩, fun D0 hD0 => ?_⟩
    refine lc_list (K := K) (a := L) (xs := ys.map V.str) (fun j H' => Same H1 H' ∧ ∃ (ps : List Addr) (kv2 : List (Key × V)), H' D0 = some (.lst (ps.map V.ref)) ∧ Paired (fun a (kv : Key × V) => (cut [D0] H') a = some (.tup [kV kv.1, kv.2])) ps kv2 ∧ Rows (cut [D0] H') kv2 ((ys.take j).map fun s => (s, (rowOf bk s).1, ordT (rowOf bk s).2))) ⟨Same.new hD0, [], [], upd_same, .nil, .nil⟩ (fun j H' _ z => SqL.of (z.1 _ _ eL)) ?_ ?_
    · rintro j x H13 hx ⟨sm, ps, kv2, hD, hpr, hR2⟩
      obtain ⟨z, hz, rfl⟩ := D1.get_map hx
      have hzm : z ∈ bk.map (·.1) := pm.mem_iff.mp (List.mem_of_getElem? hz)
      obtain ⟨v1, ev, ⟨tu, a, rfl, htu, ha⟩, _⟩ := hRb.look hzm
      have rm := row_mem hzm
      have sH := Same.trans g1 sm
      have lj : j < ys.length := (List.getElem?_eq_some_iff.mp hz).1
      have ly : ys.length ≤ 60 := by rw [pm.length_eq, List.length_map]; exact l60
      refine ⟨rfl, ?_⟩
      dsimp only [tYes]
      rw [if_pos rfl]
      refine ⟨_, rfl, _, rfl, W, _, _, _, rfl, rfl, SqL.of (sH _ _ hWb), atI_nat (j := 0) rfl, _, rfl, b, _, rfl, .inl ⟨kvs, .inr z, .inl (sH _ _ hb), rfl, ev.symm⟩, tu, _, _, _, rfl, rfl, SqT.of (sH _ _ htu), atI_nat (j := 0) rfl, ?_⟩
      refine ⟨W, b, tu, a, _, _, _, z, st, _, kvs, (rowOf bk z).2, rfl, sH _ _ hWb, sH _ _ hb, ev, sH _ _ htu, sH _ _ ha, o1.tk _ rm, o1.len2 _ rm, fun H20 a2 s20 na2 ha2 => ⟨by show 2 ≤ sizeLine; decide, fun T1 hT1 => ⟨by show 2 ≤ sizeLine; decide, fun T2 hT2 => ?_⟩⟩⟩
      have hD20 := s20 _ _ hD
      have g1 := Same.new (o := .tup [.str (rowOf bk z).1, .ref a2]) hT1
      have e1 : (L2.upd H20 T1 (.tup [.str (rowOf bk z).1, .ref a2])) T1 = some (.tup [.str (rowOf bk z).1, .ref a2]) := upd_same
      have ha21 := g1 _ _ ha2
      have hD21 := g1 _ _ hD20
      have nT1 : T1 ≠ D0 := fun e => by rw [e, hD20] at hT1; cases hT1
      have na2' : a2 ≠ D0 := fun e => by rw [e, hD] at na2; cases na2
      have s21 := Same.trans s20 g1
      have hT2' := hT2
      generalize L2.upd H20 T1 (.tup [.str (rowOf bk z).1, .ref a2]) = H21 at g1 e1 ha21 hD21 s21 hT2 hT2'
      have g := Same.new (o := .tup [.str z, .ref T1]) hT2
      have nT2 : T2 ≠ D0 := fun e => by rw [e, hD21] at hT2'; cases hT2'
      have s22 := Same.trans s21 g
      have lps : ps.length ≤ 60 := by rw [paired_len hpr, hR2.len, List.length_map, List.length_take]; omega
      refine ⟨_, g _ _ hD21, by rw [List.length_map, sizeLine_eq]; omega, fun c u e => ?_, ps ++ [T2], kv2 ++ [(.inr z, .ref T1)], by rw [upd_same, List.map_append]; rfl, ?_, ?_⟩
      · rw [upd_ne (ne_of_none e hD0)]; exact s22 _ _ (sm _ _ e)
      · rw [cut_upd (by simp)]
        exact pair_app (paired_imp (fun p kv e => cut_same s22 _ _ e) hpr) (by rw [cut_out (by simpa using nT2)]; exact upd_same)
      · rw [cut_upd (by simp), take_succ_get hz, List.map_append]
        refine (hR2.same (cut_same s22)).app ⟨T1, a2, rfl, ?_, ?_⟩
        · rw [cut_out (by simpa using nT1)]; exact g _ _ e1
        · rw [TurnsAt, cut_out (by simpa using na2')]; exact g _ _ ha21
    rintro H13 ⟨s13, ps, kv2, hD13, hpr, hR2⟩
    rw [List.length_map, List.take_length, ey] at hR2
    have hR2 : Rows (cut [D0] H13) kv2 (ordB bk) := hR2
    refine ⟨D0, ps, kv2, rfl, SqL.of hD13, paired_imp (fun p kv e => SqT.of (cut_le _ _ e)) hpr, fun B hB => ?_⟩
    have hR3 := hR2.same cut_le
    rw [merge_id2 (by rw [hR3.keys]; have := inr_nd' o1.ond; rw [List.map_map] at this; exact this)]
    have gB := Same.new (o := .dK kv2) hB
    have hBk : BookAt (L2.upd H13 B (.dK kv2)) B (ordB bk) := ⟨kv2, upd_same, hR3.same gB⟩
    generalize L2.upd H13 B (.dK kv2) = H14 at gB hBk
    have s14 : Same H H14 := Same.trans g1 (Same.trans s13 gB)
    have hq14 := hq.same s14
    obtain ⟨dx, b0, e0, _⟩ := id hq14
    refine ⟨_, rfl, q, dx, _, rfl, e0, dflds_no _ _ (by decide +kernel) (by decide +kernel), q, bk', st, rfl, hq14, o2, fun H15 B2 s15 nB2 hB2 _ => ?_⟩
    refine ⟨_, rfl, q, dx, _, rfl, s15 _ _ e0, dflds_no _ _ (by decide +kernel) (by decide +kernel), q, bk', st, rfl, hq14.same s15, by show 2 ≤ sizeLine; decide, fun L1 hL1 => ?_⟩
    have g16 := Same.new (o := .lst [.ref B2, .str st]) hL1
    have e16 : (L2.upd H15 L1 (.lst [.ref B2, .str st])) L1 = some (.lst [.ref B2, .str st]) := upd_same
    generalize L2.upd H15 L1 (.lst [.ref B2, .str st]) = H16 at g16 e16
    have s16 : Same H H16 := Same.trans s14 (Same.trans s15 g16)
    refine ⟨_, rfl, _, rfl, W, _, _, _, rfl, rfl, SqL.of (s16 _ _ hWb), atI_nat (j := 1) rfl, by show 2 ≤ sizeLine; decide, fun L3 hL3 => ?_⟩
    have g17 := Same.new (o := .lst [.ref B, .str st]) hL3
    have e17 : (L2.upd H16 L3 (.lst [.ref B, .str st])) L3 = some (.lst [.ref B, .str st]) := upd_same
    generalize L2.upd H16 L3 (.lst [.ref B, .str st]) = H17 at g17 e17
    have s17 : Same H H17 := Same.trans s16 g17
    rw [eo] at hB2
    have eb : EqX 4 H17 (.ref B2) (.ref B) := eqx_book (hB2.same (Same.trans g16 g17)) (hBk.same (Same.trans s15 (Same.trans g16 g17))) o1.obok (ordB_ne o1.ne)
    refine ⟨_, _, rfl, .inr (.inl ⟨L1, L3, _, _, rfl, rfl, g17 _ _ e16, e17, by show 2 ≤ 10000; decide, .cons eb (.cons (eqx_str st) .nil)⟩), fun H18 s18 => ⟨_, rfl, iteT ?_⟩⟩
    have s018 := Same.trans s17 s18
    refine ⟨_, rfl, _, rfl, W, bk, st, rfl, hW0.same s018, o1, fun H19 qn s19 nqn hqn => ?_⟩
    have s019 := Same.trans s018 s19
    exact rEqB_of (r := true) ⟨bk', bk, st, st, hq.same s019, hqn, eo, o2, by simp⟩ (k H19 s019)
end
end D1
end L2
namespace L2
namespace D1
open PySem PySem.Spec PyProof.Rows D2 X5 X6 Dq
abbrev sSaidW : Stmt := top 68
def spSaidW : Sp := fun vs H Q _ => ∃ (W : Addr) (bk : Bk) (st : Str), vs = [.ref W] ∧ WorldAt H W bk st ∧ DOk bk st ∧ ∀ H' R us, Same H H' → H R = none → H' R = some (.lst us) → Ats H' us (srtG Pr (wordsB "says" bk)) → Q (.ref R) H'
/-- a state's words, with it -/
def tSw : TE := fun σ H Q => ∃ (W b t a : Addr) (v1 v3 : Option V) (s st k : Str) (kvs : List (Key × V)) (ts : List (Str × Str)), σ = [some (.ref W), v1, some (.str s), v3] ∧ H W = some (.lst [.ref b, .str st]) ∧ Rd H b (.dK kvs) ∧ valV kvs (.inr s) = some (.ref t) ∧ H t = some (.tup [.str k, .ref a]) ∧ TurnsAt H a ts ∧ a ≠ b ∧ (ts.map (·.1)).Nodup ∧ ts.length ≤ 60 ∧
  ∀ H' L us, Same H H' → H L = none → H' L = some (.lst us) → Ats H' us (ts.map fun t => (s, t.1)) → Q (.ref L) H'
section
variable {P : Program} {w : World} {K : PySem.W.Frag} {mg : Str → Option Value} {base : Heap} {C : Addr}
abbrev swN : List Str := ["_law_world_here", "_law_found", "_law_state", "_law_word_here"]
theorem scSw : FnScope swN ["_law_world_here"] (defScope sSaidW) := ⟨rfl, rfl, rfl, by decide +kernel, rfl, by decide +kernel, by decide +kernel⟩
theorem ok_saidw {f : Addr} {fd : FuncData} (F : Fun K "_law_said_words" "_law_said_words" sSaidW f fd) (T : Free4 mg) : FnOk P w K mg base CX0 1 f fd ["_law_world_here"] spSaidW := by
  refine F.ok scSw (fun vs H Q E h => ?_) (fun cdv A outer s H vs Q E0' hr h => ?_)
  · obtain ⟨W, bk, st, rfl, _⟩ := h; rfl
  · obtain ⟨W, bk, st, rfl, hW0, o1, k⟩ := h
    have hu := hu_of hr
    refine ⟨_, pss_cons (ps_set (i := 1) scSw.nd rfl (Or.inl rfl) (pe_lst pa_nil))
      (pss_cons (ps_lock (ps_for PassesOwn.never rfl (pi_keys (pe_ix ix_list (pv 0) pe_int (fun _ _ => rfl))) (pg_name (i := 2) scSw.nd rfl (Or.inr rfl))
        (pss_one (ps_if (pt_cmpR op_eq (pe_ix ix_tup (pe_dget hu (pe_ix ix_list (pv 0) pe_int (fun _ _ => rfl)) (pv 2) (fun _ _ => rfl)) pe_int (fun _ _ => rfl)) pe_str (nomark _))
          (pss_one (ps_set (i := 1) scSw.nd rfl (Or.inl rfl) (pe_op op_cat (pv 1) (pe_imp (t' := tSw) (pe_lock (pe_lc (own := [("_law_word_here", 3)]) (g := gName 3) (tt := tYes) (te := tTup (tCons (tVar 2) (tCons (tVar 3) tNil))) rfl scSw.nd (pi_keys (pe_ix ix_tup (pe_dget hu (pe_ix ix_list (pv 0) pe_int (fun _ _ => rfl)) (pv 2) (fun _ _ => rfl)) pe_int (fun _ _ => rfl)))
              (blkOk_by (N := swN) (sc := defScope sSaidW) (by decide +kernel)) (fun _ _ _ _ _ => pg_name (i := 3) scSw.nd rfl (Or.inl rfl)) (fun _ _ _ _ _ => pts_nil) (fun _ _ _ _ _ => pe_tup (pa_cons (pv 2) (pa_cons (pv 3) pa_nil))))) ?sw)))) pss_nil))))
      (pss_one (ps_ret (pe_callB (cr_sortG (α := Pr) (Room.u9 hr (n := 2 + PySem.W.Datum.depth Pr) (by decide))) (by rfl) T.sorted (by decide +kernel) (pa_cons (pv 1) pa_nil))))), ?_⟩
    case sw =>
      rintro σ H Q ⟨W, b, t, a, v1, v3, s, st, k, kvs, ts, rfl, hW, hb, hv, ht, ha, nab, nd, l60, q⟩
      refine ⟨a, _, ha, trivial, fun od => ?_⟩
      have ne : ∀ {c o}, H c = some o → (∀ kv, o ≠ .dK kv) → (L2.upd H a (.frz od (.dK (kT ts)))) c = some o := fun {c o} e n => by
        rw [upd_ne (fun z => by rw [z, ha] at e; exact n _ (Option.some.inj e).symm)]; exact e
      have hb2 : Rd (L2.upd H a (.frz od (.dK (kT ts)))) b (.dK kvs) := by
        rcases hb with h | ⟨o, h⟩
        · exact .inl (by rw [upd_ne (Ne.symm nab)]; exact h)
        · exact .inr ⟨o, by rw [upd_ne (Ne.symm nab)]; exact h⟩
      refine ⟨_, rfl, W, _, _, _, rfl, rfl, SqL.of (ne hW fun _ e => by cases e), atI_nat (j := 0) rfl, _, rfl, b, _, rfl, .inl ⟨kvs, .inr s, hb2, rfl, hv.symm⟩, t, _, _, _, rfl, rfl, SqT.of (ne ht fun _ e => by cases e), atI_nat (j := 1) rfl, a, od, rfl, .inl ⟨kT ts, upd_same, fun L hL => ?_⟩⟩
      have nL : L ≠ a := fun e => by rw [e, upd_same] at hL; cases hL
      have hL0 : H L = none := upd_none' hL
      refine lc_it (walk_keys (d := a) (o := od) (kvs := kT ts)) (fun j H' => Same (L2.upd H a (.frz od (.dK (kT ts)))) H' ∧ ∃ us, H' L = some (.lst us) ∧ Ats (cut [L] H') us ((ts.take j).map fun t => (s, t.1))) ⟨Same.new hL, [], upd_same, .nil⟩ (fun j H' _ z => z.1 _ _ upd_same) ?_ ?_
      · rintro j x H2 H3 hj ⟨sm, us, hL2, hA⟩ ⟨rfl, k0, v0, hkv, rfl⟩
        rw [kT, List.getElem?_map] at hkv
        obtain ⟨u, hu2, e⟩ := Option.map_eq_some_iff.mp hkv
        cases e
        have lus : us.length ≤ 60 := by rw [hA.len, List.length_map, List.length_take]; omega
        refine ⟨rfl, ?_⟩
        dsimp only [tYes]
        rw [if_pos rfl]
        refine ⟨_, rfl, _, rfl, by show 2 ≤ sizeLine; decide, fun T1 hT1 => ?_⟩
        have g := Same.new (o := .tup [.str s, kV (Sum.inr u.1)]) hT1
        have nT : T1 ≠ L := fun e => by rw [e, hL2] at hT1; cases hT1
        refine ⟨us, g _ _ hL2, by rw [sizeLine_eq]; omega, fun c o e => ?_, us ++ [.ref T1], by rw [upd_same], ?_⟩
        · rw [upd_ne (ne_of_none e hL)]; exact g _ _ (sm _ _ e)
        · rw [cut_upd (by simp), take_succ_get hu2, List.map_append]
          exact paired_snoc (hA.same (cut_same g)) ⟨T1, rfl, by rw [cut_out (by simpa using nT)]; exact upd_same⟩
      · rintro H2 ⟨sm, us, hL2, hA⟩
        rw [kT, List.length_map, List.take_length] at hA
        have fz := sm _ _ upd_same
        refine ⟨fz, q _ L us (Same.unlock ha sm) hL0 (by rw [upd_ne nL]; exact hL2) ?_⟩
        exact paired_imp (fun v p ⟨z, ez, hz⟩ => ⟨z, ez, by rw [upd_ne (fun q => by have := cut_le _ _ hz; rw [q, fz] at this; cases this)]; exact cut_le _ _ hz⟩) hA
    obtain ⟨b, hW, kvs, hb, hR⟩ := id hW0
    refine ⟨Nat.zero_le _, fun F0 hF0 => ?_⟩
    have g0 := Same.new (o := .lst []) hF0
    have eF0 : (L2.upd H F0 (.lst [])) F0 = some (.lst []) := upd_same
    have hF0' := hF0
    generalize L2.upd H F0 (.lst []) = H1 at g0 eF0
    have hW1 := g0 _ _ hW
    have hb1 := g0 _ _ hb
    have hR1 := hR.same g0
    refine ⟨b, _, hb1, trivial, fun od => ?_⟩
    have nWb : W ≠ b := fun e => by rw [e, hb1] at hW1; cases hW1
    have nFb : F0 ≠ b := fun e => by rw [e, hb1] at eF0; cases eF0
    have hRL := hR1.lock (o := .frz od (.dK kvs)) hb1 o1.ne
    have hWL : (L2.upd H1 b (.frz od (.dK kvs))) W = some (.lst [.ref b, .str st]) := by rw [upd_ne nWb]; exact hW1
    have eFL : (L2.upd H1 b (.frz od (.dK kvs))) F0 = some (.lst []) := by rw [upd_ne nFb]; exact eF0
    have fb : (L2.upd H1 b (.frz od (.dK kvs))) b = some (.frz od (.dK kvs)) := upd_same
    have lk : kvs.length = bk.length := hR.len
    refine ⟨_, rfl, W, _, _, _, rfl, rfl, SqL.of hWL, atI_nat (j := 0) rfl, b, od, rfl, .inl ⟨kvs, fb, ?_⟩⟩
    refine for_it (walk_keys (d := b) (o := od) (kvs := kvs)) (fun i σ H' => ∃ (Fd : Addr) (us : List V) (v2 v3 : Option V), σ = [some (.ref W), some (.ref Fd), v2, v3] ∧ Same (L2.upd H1 b (.frz od (.dK kvs))) H' ∧ H' Fd = some (.lst us) ∧ Ats H' us (wordsB "says" (bk.take i)))
      ⟨F0, [], none, none, rfl, Same.refl _, eFL, .nil⟩ (fun i σ H' _ ⟨_, _, _, _, _, z, _⟩ => z _ _ fb) ?_ ?_
    · rintro i x σ H2 H3 hi ⟨Fd, us, v2, v3, rfl, sm, hF, hA⟩ ⟨rfl, kk, v0, hkv, rfl⟩
      obtain ⟨r, hr', ek, _⟩ := paired_get hR hkv
      have ek : kk = .inr r.1 := ek
      subst ek
      have rm : r ∈ bk := List.mem_of_getElem? hr'
      have hs : r.1 ∈ bk.map (·.1) := List.mem_map_of_mem rm
      obtain ⟨v, ev, ⟨t, a, rfl, ht, ha⟩, _⟩ := (hRL.same sm).look hs
      rw [rowOf_self o1.nd rm] at ht ha
      have nab : a ≠ b := fun e => by
        have h1 := sm _ _ fb
        have h2 : H3 a = some (.dK (kT r.2.2)) := ha
        rw [e, h1] at h2; cases h2
      have dg : DGet H3 b (V.str r.1) (some (.ref t)) := .inl ⟨kvs, .inr r.1, .inr ⟨od, sm _ _ fb⟩, rfl, ev.symm⟩
      refine ⟨_, rfl, W, _, _, _, rfl, rfl, SqL.of (sm _ _ hWL), atI_nat (j := 0) rfl, _, rfl, b, _, rfl, dg, t, _, _, _, rfl, rfl, SqT.of ht, atI_nat (j := 0) rfl, rfl, _, rfl, ?_⟩
      rw [dec_str]
      have lA : us.length ≤ 3600 := by
        rw [hA.len]
        have := wordsB_len (k := "says") (b := bk.take i) fun x hx => o1.len2 x (List.mem_of_mem_take hx)
        rw [List.length_take] at this
        have := o1.len
        omega
      by_cases c : r.2.1 = "says"
      · refine (if_pos (decide_eq_true c)).mpr ⟨_, rfl, ?_⟩
        refine ⟨W, b, t, a, _, _, r.1, st, r.2.1, kvs, r.2.2, rfl, sm _ _ hWL, .inr ⟨od, sm _ _ fb⟩, ev, ht, ha, nab, o1.tk r rm, o1.len2 r rm, fun H4 L ws s4 nL hL hB => ?_⟩
        have lB : ws.length ≤ 60 := by rw [hB.len, List.length_map]; exact o1.len2 r rm
        refine ⟨Fd, L, us, ws, rfl, rfl, s4 _ _ hF, hL, by rw [sizeLine_eq]; omega, fun N hN => ?_⟩
        have g := Same.new (o := .lst (us ++ ws)) hN
        refine ⟨N, us ++ ws, _, _, rfl, Same.trans sm (Same.trans s4 g), upd_same, ?_⟩
        rw [wordsB_snoc hr', rowW, if_pos c]
        exact paired_append (hA.same (Same.trans s4 g)) (hB.same g)
      · refine (if_neg (by rw [decide_eq_false c]; decide)).mpr ⟨Fd, us, _, _, rfl, sm, hF, ?_⟩
        rw [wordsB_snoc hr', rowW, if_neg c, List.append_nil]
        exact hA
    · rintro σ H2 ⟨Fd, us, v2, v3, rfl, sm, hF, hA⟩
      rw [lk, List.take_length] at hA
      have fz := sm _ _ fb
      have su : Same H1 (L2.upd H2 b (.dK kvs)) := Same.unlock hb1 sm
      have hF2 : (L2.upd H2 b (.dK kvs)) Fd = some (.lst us) := by rw [upd_ne (fun e => by rw [e, fz] at hF; cases hF)]; exact hF
      have hA2 : Ats (L2.upd H2 b (.dK kvs)) us (wordsB "says" bk) := paired_imp (fun v p ⟨z, ez, hz⟩ => ⟨z, ez, by rw [upd_ne (fun q => by rw [q, fz] at hz; cases hz)]; exact hz⟩) hA
      refine ⟨fz, _, rfl, Fd, us, _, rfl, SqL.of hF2, hA2, fun p ws hw hp => ?_⟩
      have s02 := Same.trans g0 su
      exact k _ p ws (Same.trans s02 (Same.new hp)) (s02.free hp) upd_same (hw.same (Same.new hp))
end
end D1
end L2
namespace L2
namespace D1
open PySem PySem.Spec PyProof.Rows D2 X5 X6 Dq
abbrev sWithout : Stmt := top 69
/-- d == {} -/
def rEqE : R2 := fun x y H Q => ∃ (a b : Addr) (ks : List (Key × V)), x = .ref a ∧ y = .ref b ∧ H a = some (.dK ks) ∧ H b = some (.dK []) ∧ Q (.bl (decide (ks.length = 0))) H
theorem op_eqE {X : Cx} (hu : X.A.units + 1 < cLine) : OpR X (compareOp .Eq) rEqE := by
  intro pins s σ H x y v u Q I rx ry h
  obtain ⟨a, b, ks, rfl, rfl, h3, h4, q⟩ := h
  obtain rfl : v = Value.ref a := rx
  obtain rfl : u = Value.ref b := ry
  obtain ⟨_, ya, va, ra, da⟩ := dk_rd I.hok (.inl h3)
  obtain ⟨_, yb, vb, rb, db⟩ := dk_rd I.hok (.inl h4)
  have l1 : ks.length = va.length := paired_len ra
  have l2 : vb = [] := List.length_eq_zero_iff.mp (paired_len rb).symm
  subst l2
  have e : decide (ks.length = 0) = (va.length == ([] : List (Key × Value)).length && va.all fun p => (valueAt ([] : List (Key × Value)) p.1).isSome && true) := by
    rw [l1]
    cases va with
    | nil => rfl
    | cons p t => rfl
  exact PySem.W.eq_dictsT (knd := mixKind X.prog X.w) (n := 0) (e := fun _ => true) ya yb da db (fun k v y _ hv => by cases hv) hu (fin_bl I q e)
/-- a row of it that may not stand: no turns, though not done -/
def badR (r : Str × Str × List (Str × Str)) : Bool := decide (r.2.2.length = 0) && !decide (r.2.1 = "done")
def badB (bk : Bk) : Bool := bk.any badR
def spWithout : Sp := fun vs H Q _ => ∃ (W L : Addr) (bk : Bk) (st : Str) (us : List V) (ps : List Pr), vs = [.ref W, .ref L] ∧ WorldAt H W bk st ∧ DOk bk st ∧ H L = some (.lst us) ∧ Ats H us ps ∧
  ∀ H' R, Same H H' → (badB (wB ps bk) = false → WorldAt H' R (wB ps bk) st) → Q (if badB (wB ps bk) = true then .non else .ref R) H'
def tWl : TE := fun σ H Q => ∃ (W L Bd a : Addr) (s : Str) (v4 v6 : Option V) (us : List V) (ps : List Pr) (ts : List (Str × Str)), σ = [some (.ref W), some (.ref L), some (.ref Bd), some (.str s), v4, some (.ref a), v6] ∧ H L = some (.lst us) ∧ Ats H us ps ∧ TurnsAt H a ts ∧ (ts.map (·.1)).Nodup ∧ ts.length ≤ 60 ∧
  ∀ H' a', Same H H' → H a' = none → TurnsAt H' a' (wT s ps ts) → Q (.ref a') H'
section
variable {P : Program} {w : World} {K : PySem.W.Frag} {mg : Str → Option Value} {base : Heap} {C : Addr}
abbrev wthN : List Str := ["_law_world_here", "_law_lot", "_law_book", "_law_state", "_law_kind", "_law_turns_here", "_law_word_here"]
theorem scWth : FnScope wthN ["_law_world_here", "_law_lot"] (defScope sWithout) := ⟨rfl, rfl, rfl, by decide +kernel, rfl, by decide +kernel, by decide +kernel⟩
theorem ok_without {f : Addr} {fd : FuncData} (F : Fun K "_law_without" "_law_without" sWithout f fd) (T : Free4 mg) : FnOk P w K mg base CX0 1 f fd ["_law_world_here", "_law_lot"] spWithout := by
  refine F.ok scWth (fun vs H Q E h => ?_) (fun cdv A outer s H vs Q E0' hr h => ?_)
  · obtain ⟨W, L, bk, st, us, ps, rfl, _⟩ := h; rfl
  · obtain ⟨W, L, bk, st, us, ps, rfl, hW0, o1, hL, hA, k⟩ := h
    have hu := hu_of hr
    refine ⟨_, pss_cons (ps_set (i := 2) scWth.nd rfl (Or.inl rfl) pe_dnewK)
      (pss_cons (ps_lock (ps_for PassesOwn.never rfl (pi_keys (pe_ix ix_list (pv 0) pe_int (fun _ _ => rfl))) (pg_name (i := 3) scWth.nd rfl (Or.inr rfl))
        (pss_cons (ps_asg (pe_dget hu (pe_ix ix_list (pv 0) pe_int (fun _ _ => rfl)) (pv 3) (fun _ _ => rfl)) (pg_tup rfl (pgs_cons (pg_name (i := 4) scWth.nd rfl (Or.inl rfl)) (pgs_cons (pg_name (i := 5) scWth.nd rfl (Or.inr rfl)) pgs_nil))))
        (pss_cons (ps_dput hu (pv 2) (pv 3) (pe_tup (pa_cons (pv 4) (pa_cons (pe_imp (t' := tWl) (pe_callTy (call_dictP rfl) (by rfl) T.dict (by decide +kernel) (pa_cons (pe_lock (pe_lc (own := [("_law_word_here", 6)]) (g := gName 6) (tt := tTest (tOp (rNotIn Pr K) (tTup (tCons (tVar 3) (tCons (tVar 6) tNil))) (tVar 1))) (te := tTup (tCons (tVar 6) (tCons (tDGet (tVar 5) (tVar 6)) tNil))) rfl scWth.nd (pi_keys (pv 5))
              (blkOk_by (N := wthN) (sc := defScope sWithout) (by decide +kernel)) (fun _ _ _ _ _ => pg_name (i := 6) scWth.nd rfl (Or.inl rfl)) (fun _ _ _ _ _ => pts_one (pt_cmpR (op_ninG (α := Pr) (Room.u9 hr (n := 1 + PySem.W.Datum.depth Pr) (by decide))) (pe_tup (pa_cons (pv 3) (pa_cons (pv 6) pa_nil))) (pv 1) (by rfl))) (fun _ _ _ _ _ => pe_tup (pa_cons (pv 6) (pa_cons (pe_dget hu (pv 5) (pv 6) (fun _ _ => rfl)) pa_nil))))) pa_nil)) ?wl) pa_nil))) rfl)
        (pss_one (ps_if (PW.pt (pw_and (pt_cmpR (op_eqE (Room.u9 hr (n := 1) (by decide))) (pe_ix ix_tup (pe_dget hu (pv 2) (pv 3) (fun _ _ => rfl)) pe_int (fun _ _ => rfl)) pe_dnewK (nomark _)) (pw_and1 (pt_cmpR op_ne (pv 4) pe_str (nomark _)))))
          (pss_one (ps_ret pe_non)) pss_nil))))))
      (pss_one (ps_ret (pe_lst (pa_cons (pv 2) (pa_cons (pe_ix ix_list (pv 0) pe_int (fun _ _ => rfl)) pa_nil)))))), ?_⟩
    case wl =>
      rintro σ H Q ⟨W, L, Bd, a, s, v4, v6, us, ps, ts, rfl, hL, hA, ha, nd, l60, q⟩
      refine ⟨a, _, ha, trivial, fun od => ?_⟩
      have nLa : L ≠ a := fun e => by rw [e, (show H a = _ from ha)] at hL; cases hL
      have hLL : (L2.upd H a (.frz od (.dK (kT ts)))) L = some (.lst us) := by rw [upd_ne nLa]; exact hL
      have hAL : Ats (L2.upd H a (.frz od (.dK (kT ts)))) us ps := ats_dK ha hA
      refine ⟨_, rfl, a, od, rfl, .inl ⟨kT ts, upd_same, fun M hM => ?_⟩⟩
      have nM : M ≠ a := fun e => by rw [e, upd_same] at hM; cases hM
      have hM0 : H M = none := upd_none' hM
      refine lc_it (walk_keys (d := a) (o := od) (kvs := kT ts)) (fun j H' => Same (L2.upd H a (.frz od (.dK (kT ts)))) H' ∧ ∃ as : List Addr, H' M = some (.lst (as.map V.ref)) ∧ Paired (fun a (kv : Key × V) => (cut [M] H') a = some (.tup [kV kv.1, kv.2])) as (kT (wT s ps (ts.take j)))) ⟨Same.new hM, [], upd_same, .nil⟩ (fun j H' _ z => z.1 _ _ upd_same) ?_ ?_
      · rintro j x H2 H3 hj ⟨sm, as, hM2, hpr⟩ ⟨rfl, k0, v0, hkv, rfl⟩
        rw [kT, List.getElem?_map] at hkv
        obtain ⟨u, hu2, e⟩ := Option.map_eq_some_iff.mp hkv
        cases e
        have um := List.mem_of_getElem? hu2
        have lf : as.length ≤ 60 := by
          rw [paired_len hpr, kT, List.length_map, wT]
          have := List.length_filter_le (fun t : Str × Str => !memG (s, t.1) ps) (ts.take j)
          rw [List.length_take] at this
          omega
        refine ⟨rfl, _, rfl, _, rfl, (by show 2 ≤ sizeLine; decide), fun T1 hT1 => ?_⟩
        have g1 := Same.new (o := .tup [.str s, kV (Sum.inr u.1)]) hT1
        have nT1 : T1 ≠ M := fun e => by rw [e, hM2] at hT1; cases hT1
        have s21 := Same.trans sm g1
        have hM3 := g1 _ _ hM2
        have hpr1 : Paired (fun a (kv : Key × V) => (cut [M] (L2.upd H3 T1 (.tup [.str s, kV (Sum.inr u.1)]))) a = some (.tup [kV kv.1, kv.2])) as (kT (wT s ps (ts.take j))) := paired_imp (fun _ _ e => cut_same g1 _ _ e) hpr
        have hz : (L2.upd H3 T1 (.tup [.str s, kV (Sum.inr u.1)])) T1 = some (.tup [.str s, .str u.1]) := upd_same
        generalize L2.upd H3 T1 (.tup [.str s, kV (Sum.inr u.1)]) = H4 at g1 s21 hM3 hz hpr1
        refine ⟨_, rfl, (s, u.1), ps, L, us, ⟨T1, rfl, hz⟩, rfl, SqL.of (s21 _ _ hLL), hAL.same s21, ?_⟩
        refine ⟨_, rfl, ?_⟩
        cases c : memG (s, u.1) ps with
        | false =>
          refine iteT ⟨_, rfl, _, rfl, _, rfl, a, _, rfl, .inl ⟨kT ts, .inr u.1, .inr ⟨od, s21 _ _ upd_same⟩, rfl, (kT_get nd um).symm⟩, by show 2 ≤ sizeLine; decide, fun T2 hT2 => ?_⟩
          have g2 := Same.new (o := .tup [.str u.1, .str u.2]) hT2
          have nT2 : T2 ≠ M := fun e => by rw [e, hM3] at hT2; cases hT2
          refine ⟨_, g2 _ _ hM3, by rw [List.length_map, sizeLine_eq]; omega, fun b o e => ?_, as ++ [T2], by rw [upd_same, List.map_append]; rfl, ?_⟩
          · rw [upd_ne (ne_of_none e hM)]; exact g2 _ _ (s21 _ _ e)
          · unfold wT
            rw [filt_yes hu2 (by rw [c]; rfl), cut_upd (by simp), kT, List.map_append]
            exact paired_snoc (paired_imp (fun _ _ e => cut_same g2 _ _ e) hpr1) (by rw [cut_out (by simpa using nT2)]; exact upd_same)
        | true => exact iteF ⟨s21, as, hM3, by unfold wT; rw [filt_no hu2 (by rw [c]; rfl)]; exact hpr1⟩
      · rintro H2 ⟨sm, as, hM2, hpr⟩
        rw [show (kT ts).length = ts.length by rw [kT, List.length_map], List.take_length] at hpr
        have fz := sm _ _ upd_same
        have su := Same.unlock ha sm
        refine ⟨fz, M, as, _, rfl, SqL.of (by rw [upd_ne nM]; exact hM2), paired_imp (fun p kv e => SqT.of (by
          have e := cut_le _ _ e
          rw [upd_ne (fun q => by rw [q, fz] at e; cases e)]; exact e)) hpr, fun B hB => ?_⟩
        have ndw : ((kT (wT s ps ts)).map (·.1)).Nodup := by
          have := inr_nd' (l := (wT s ps ts).map (·.1)) ((List.filter_sublist.map _).nodup nd)
          rw [List.map_map] at this
          rw [kT, List.map_map]; exact this
        rw [merge_id2 ndw]
        exact q _ B (Same.trans su (Same.new hB)) (su.free hB) upd_same
    obtain ⟨b, hW, kvs, hb, hR⟩ := id hW0
    intro Bd hBd
    have hBd0 := hBd
    have g0 := Same.new (o := .dK []) hBd
    have eBd : (L2.upd H Bd (.dK [])) Bd = some (.dK []) := upd_same
    generalize L2.upd H Bd (.dK []) = H1 at g0 eBd
    have hW1 := g0 _ _ hW
    have hb1 := g0 _ _ hb
    have hR1 := hR.same g0
    refine ⟨b, _, hb1, trivial, fun od => ?_⟩
    have nBb : Bd ≠ b := fun e => by rw [e, hb] at hBd; cases hBd
    have nWb : W ≠ b := fun e => by rw [e, hb1] at hW1; cases hW1
    have nLb : L ≠ b := fun e => by rw [e, hb] at hL; cases hL
    have hRL := hR1.lock (o := .frz od (.dK kvs)) hb1 o1.ne
    have hWL : (L2.upd H1 b (.frz od (.dK kvs))) W = some (.lst [.ref b, .str st]) := by rw [upd_ne nWb]; exact hW1
    have hLL : (L2.upd H1 b (.frz od (.dK kvs))) L = some (.lst us) := by rw [upd_ne nLb]; exact g0 _ _ hL
    have hAL : Ats (L2.upd H1 b (.frz od (.dK kvs))) us ps := ats_dK hb1 (hA.same g0)
    have eBL : (L2.upd H1 b (.frz od (.dK kvs))) Bd = some (.dK []) := by rw [upd_ne nBb]; exact eBd
    have fb : (L2.upd H1 b (.frz od (.dK kvs))) b = some (.frz od (.dK kvs)) := upd_same
    have lk : kvs.length = bk.length := hR.len
    have nB0 : ∀ {c u}, (L2.upd H1 b (.frz od (.dK kvs))) c = some u → c ≠ Bd → ∀ {H' o}, Same (cut [Bd] (L2.upd H1 b (.frz od (.dK kvs)))) H' → (L2.upd H' Bd o) c = some u := fun {c u} e n {H' o} sm => by
      rw [upd_ne n]; exact sm _ _ (by rw [cut_out (by simpa using n)]; exact e)
    have smb : ∀ {H'}, Same (cut [Bd] (L2.upd H1 b (.frz od (.dK kvs)))) H' → ∀ {c u}, H c = some u → c ≠ b → H' c = some u := fun {H'} sm {c u} e n => by
      refine sm _ _ ?_
      rw [cut_out (by simpa using ne_of_none e hBd0), upd_ne n]; exact g0 _ _ e
    have unl : ∀ {H'}, Same (cut [Bd] (L2.upd H1 b (.frz od (.dK kvs)))) H' → Same H (L2.upd H' b (.dK kvs)) := fun {H'} sm c u e => by
      by_cases n : c = b
      · rw [n, upd_same, ← hb, ← n, e]
      · rw [upd_ne n]; exact smb sm e n
    refine ⟨_, rfl, W, _, _, _, rfl, rfl, SqL.of hWL, atI_nat (j := 0) rfl, b, od, rfl, .inl ⟨kvs, fb, ?_⟩⟩
    have cb : ∀ {H'}, Same (cut [Bd] (L2.upd H1 b (.frz od (.dK kvs)))) H' → H' b = some (.frz od (.dK kvs)) := fun sm => sm _ _ (by rw [cut_out (by simpa using (Ne.symm nBb))]; exact fb)
    refine for_it (walk_keys (d := b) (o := od) (kvs := kvs)) (fun i σ H' => ∃ (v3 v4 v5 v6 : Option V) (kv2 : List (Key × V)), σ = [some (.ref W), some (.ref L), some (.ref Bd), v3, v4, v5, v6] ∧ Same (cut [Bd] (L2.upd H1 b (.frz od (.dK kvs)))) H' ∧ H' Bd = some (.dK kv2) ∧ Rows (cut [Bd] H') kv2 (wB ps (bk.take i)) ∧ badB (wB ps (bk.take i)) = false)
      ⟨none, none, none, none, [], rfl, fun _ _ e => cut_le _ _ e, eBL, .nil, rfl⟩ (fun i σ H' _ ⟨_, _, _, _, _, _, z, _⟩ => cb z) ?_ ?_
    · rintro i x σ H2 H3 hi ⟨v3, v4, v5, v6, kv2, rfl, sm, hB, hR2, nb⟩ ⟨rfl, kk, v0, hkv, rfl⟩
      obtain ⟨r, hr', ek, _⟩ := paired_get hR hkv
      have ek : kk = .inr r.1 := ek
      subst ek
      have rm : r ∈ bk := List.mem_of_getElem? hr'
      have hs : r.1 ∈ bk.map (·.1) := List.mem_map_of_mem rm
      obtain ⟨v, ev, ⟨t, a, rfl, ht, ha⟩, _⟩ := hR.look hs
      rw [rowOf_self o1.nd rm] at ht ha
      have nab : a ≠ b := book_ne hb hR o1.ne ha
      have ntb : t ≠ b := fun e => by rw [e, hb] at ht; cases ht
      have nLB : L ≠ Bd := ne_of_none hL hBd0
      have dg : DGet H3 b (V.str r.1) (some (.ref t)) := .inl ⟨kvs, .inr r.1, .inr ⟨od, cb sm⟩, rfl, ev.symm⟩
      refine ⟨_, rfl, W, _, _, _, rfl, rfl, SqL.of (smb sm hW nWb), atI_nat (j := 0) rfl, _, rfl, b, _, rfl, dg, t, _, rfl, SqT.of (smb sm ht ntb), rfl, _, _, rfl, _, _, rfl, rfl, ?_⟩
      have hA3 : Ats H3 us ps := paired_imp (fun v p ⟨z, ez, hz⟩ => ⟨z, ez, smb sm hz (fun q => by rw [q, hb] at hz; cases hz)⟩) hA
      refine ⟨_, rfl, W, L, Bd, a, r.1, _, _, us, ps, r.2.2, rfl, smb sm hL nLb, hA3, smb sm ha nab, o1.tk r rm, o1.len2 r rm, fun H4 a' s4 na' ha' => ⟨by show 2 ≤ sizeLine; decide, fun T1 hT1 => ?_⟩⟩
      have hB4 : H4 Bd = some (.dK kv2) := s4 _ _ hB
      have sm4 : Same (cut [Bd] (L2.upd H1 b (.frz od (.dK kvs)))) H4 := Same.trans sm s4
      have g1 := Same.new (o := .tup [.str r.2.1, .ref a']) hT1
      have nT1 : T1 ≠ Bd := fun e => by rw [e, hB4] at hT1; cases hT1
      have na1 : a' ≠ Bd := fun e => by rw [e, hB] at na'; cases na'
      have eT1 : (L2.upd H4 T1 (.tup [.str r.2.1, .ref a'])) T1 = some (.tup [.str r.2.1, .ref a']) := upd_same
      have sm5 := Same.trans sm4 g1
      have hB5 := g1 _ _ hB4
      have ha5 := g1 _ _ ha'
      have hR5 : Rows (cut [Bd] (L2.upd H4 T1 (.tup [.str r.2.1, .ref a']))) kv2 (wB ps (bk.take i)) := hR2.same (cut_same (Same.trans s4 g1))
      generalize L2.upd H4 T1 (.tup [.str r.2.1, .ref a']) = H5 at g1 eT1 sm5 hB5 ha5 hR5
      have l60 := o1.len
      have lkv : kv2.length ≤ 60 := by rw [hR2.len, wB, List.length_map, List.length_take]; omega
      have ndi : r.1 ∉ (wB ps (bk.take i)).map (·.1) := by
        rw [wB_names, List.map_take]
        have := not_before (gs := []) (ls := bk.map (·.1)) (i := i) (x := r.1) (by simpa using o1.nd) (by rw [List.getElem?_map, hr']; rfl)
        simpa using this
      have fr := hR5.fresh ndi
      refine ⟨_, rfl, _, rfl, Bd, _, rfl, DPut.k (k := .inr r.1) hB5 (by rw [sizeLine_eq]; omega), ?_⟩
      have e6 : (L2.upd H5 Bd (.dK (putK kv2 (.inr r.1) (.ref T1)))) Bd = some (.dK (putK kv2 (.inr r.1) (.ref T1))) := upd_same
      have sm6 : Same (cut [Bd] (L2.upd H1 b (.frz od (.dK kvs)))) (L2.upd H5 Bd (.dK (putK kv2 (.inr r.1) (.ref T1)))) := fun c u e => by
        have n : c ≠ Bd := fun q => by rw [q, cut_in (by simp)] at e; cases e
        rw [upd_ne n]; exact sm5 _ _ e
      have eT6 : (L2.upd H5 Bd (.dK (putK kv2 (.inr r.1) (.ref T1)))) T1 = some (.tup [.str r.2.1, .ref a']) := by rw [upd_ne nT1]; exact eT1
      have ea6 : (L2.upd H5 Bd (.dK (putK kv2 (.inr r.1) (.ref T1)))) a' = some (.dK (kT (wT r.1 ps r.2.2))) := by rw [upd_ne na1]; exact ha5
      have hR6 : Rows (cut [Bd] (L2.upd H5 Bd (.dK (putK kv2 (.inr r.1) (.ref T1))))) (putK kv2 (.inr r.1) (.ref T1)) (wB ps (bk.take (i + 1))) := by
        rw [D1.putK_new fr, take_succ_get hr', wB, List.map_append, cut_upd (by simp)]
        refine hR5.app ⟨T1, a', rfl, ?_, ?_⟩
        · rw [cut_out (by simpa using nT1)]; exact eT1
        · rw [TurnsAt, cut_out (by simpa using na1)]; exact ha5
      generalize hH6 : L2.upd H5 Bd (.dK (putK kv2 (.inr r.1) (.ref T1))) = H6 at e6 sm6 eT6 ea6 hR6
      refine ⟨_, rfl, _, rfl, Bd, _, rfl, .inl ⟨_, .inr r.1, .inl e6, rfl, (by rw [valV_put, if_pos rfl])⟩, T1, _, _, _, rfl, rfl, SqT.of eT6, atI_nat (j := 1) rfl, fun p hp => ?_⟩
      have g7 := Same.new (o := .dK []) hp
      have e7 : (L2.upd H6 p (.dK [])) p = some (.dK []) := upd_same
      have np : p ≠ Bd := fun e => by rw [e, e6] at hp; cases hp
      have sm7 := Same.trans sm6 g7
      have hR7 := hR6.same (fun _ _ e => cut_same g7 _ _ e)
      have hB7 := g7 _ _ e6
      refine ⟨a', p, _, rfl, rfl, g7 _ _ ea6, e7, ?_⟩
      generalize L2.upd H6 p (.dK []) = H7 at g7 e7 sm7 hR7 hB7
      have el : (kT (wT r.1 ps r.2.2)).length = (wT r.1 ps r.2.2).length := by rw [kT, List.length_map]
      have eb : badB (wB ps (bk.take (i + 1))) = badR (r.1, r.2.1, wT r.1 ps r.2.2) := by
        rw [take_succ_get hr', wB, List.map_append, badB, List.any_append, show (List.map (fun r => (r.1, r.2.1, wT r.1 ps r.2.2)) (bk.take i)).any badR = false from nb, Bool.false_or]
        simp
      by_cases c1 : (wT r.1 ps r.2.2).length = 0
      · refine ⟨_, rfl, (if_pos (decide_eq_true (el.trans c1))).mpr ⟨_, rfl, rfl, _, rfl, ?_⟩⟩
        by_cases c2 : r.2.1 = "done"
        · refine (if_neg (by rw [dec_str, decide_eq_true c2]; decide)).mpr ?_
          refine ⟨some (.str r.1), some (.str r.2.1), some (.ref a), v6, putK kv2 (.inr r.1) (.ref T1), rfl, sm7, hB7, hR7, ?_⟩
          rw [eb, badR, decide_eq_true c2, Bool.not_true, Bool.and_false]
        · refine (if_pos (by rw [dec_str, decide_eq_false c2]; decide)).mpr ?_
          have bad : badB (wB ps bk) = true := List.any_eq_true.mpr ⟨(r.1, r.2.1, wT r.1 ps r.2.2), List.mem_map_of_mem (f := fun r => (r.1, r.2.1, wT r.1 ps r.2.2)) rm, by rw [badR, decide_eq_true c1, decide_eq_false c2]; rfl⟩
          have := k (L2.upd H7 b (.dK kvs)) W (unl sm7) (fun h => by rw [bad] at h; cases h)
          rw [if_pos bad] at this
          exact ⟨cb sm7, this⟩
      · refine ⟨_, rfl, (if_neg (by rw [decide_eq_false (fun e => c1 (el.symm.trans e))]; decide)).mpr ?_⟩
        refine iteF ⟨some (.str r.1), some (.str r.2.1), some (.ref a), v6, putK kv2 (.inr r.1) (.ref T1), rfl, sm7, hB7, hR7, ?_⟩
        rw [eb, badR, decide_eq_false c1, Bool.false_and]
    · rintro σ H2 ⟨v3, v4, v5, v6, kv2, rfl, sm, hB, hR2, nb⟩
      rw [lk, List.take_length] at hR2 nb
      have su := unl sm
      have hB2 : (L2.upd H2 b (.dK kvs)) Bd = some (.dK kv2) := by rw [upd_ne nBb]; exact hB
      have hR3 : Rows (L2.upd H2 b (.dK kvs)) kv2 (wB ps bk) := rows_nf (hR2.same cut_le) fun z o e nf => by rw [upd_ne (fun q => by rw [q, cb sm] at e; exact nf _ _ (Option.some.inj e).symm)]; exact e
      refine ⟨cb sm, ?_⟩
      generalize L2.upd H2 b (.dK kvs) = H3 at su hB2 hR3
      refine ⟨_, rfl, _, rfl, W, _, _, _, rfl, rfl, SqL.of (su _ _ hW), atI_nat (j := 1) rfl, by show 2 ≤ sizeLine; decide, fun R hRn => ?_⟩
      have g := Same.new (o := .lst [.ref Bd, .str st]) hRn
      have := k _ R (Same.trans su g) (fun _ => ⟨Bd, upd_same, kv2, g _ _ hB2, hR3.same g⟩)
      rw [if_neg (by rw [nb]; decide)] at this
      exact this
end
end D1
end L2
namespace L2
namespace D1
open PySem PySem.Spec PyProof.Rows D2 X5 X6 X7 Kt Dq
theorem pr_anti {a b : Pr} (h1 : leG Pr a b = true) (h2 : leG Pr b a = true) : a = b := by
  by_cases e : a = b
  · exact e
  · have h := leG_lt h1 e
    have g := leG_lt h2 (Ne.symm e)
    have := lt_trans h g
    rw [ltP_irrefl] at this; cases this
theorem listLt_anti {α : Type} [DecidableEq α] [PySem.W.DatumOrd α] (ha : ∀ a b : α, PySem.W.DatumOrd.lt a b = false → PySem.W.DatumOrd.lt b a = false → a = b) : ∀ p q : List α, PySem.W.listLt p q = false → PySem.W.listLt q p = false → p = q
  | [], [], _, _ => rfl
  | [], _ :: _, h, _ => by cases h
  | _ :: _, [], _, h => by cases h
  | x :: xs, y :: ys, h, g => by
    rw [PySem.W.listLt] at h g
    by_cases e : x = y
    · subst e
      rw [if_pos rfl] at h g
      rw [listLt_anti ha xs ys h g]
    · rw [if_neg e] at h
      rw [if_neg (Ne.symm e)] at g
      exact absurd (ha _ _ h g) e
theorem lot_anti {a b : Lot} (h1 : leG Lot a b = true) (h2 : leG Lot b a = true) : a = b := by
  unfold leG at h1 h2
  have h1 : PySem.W.DatumOrd.lt b a = false := by simpa using h1
  have h2 : PySem.W.DatumOrd.lt a b = false := by simpa using h2
  refine listLt_anti (fun p q h g => ?_) a b h2 h1
  exact pr_anti (by unfold leG; rw [g]; rfl) (by unfold leG; rw [h]; rfl)
theorem srtL_congr {ls ms : List Lot} (p : ls.Perm ms) : srtG Lot ls = srtG Lot ms :=
  List.Perm.eq_of_pairwise (fun _ _ _ _ h g => lot_anti h g) (srtG_pw ls) (srtG_pw ms) ((srtG_perm ls).trans (p.trans (srtG_perm ms).symm))
theorem srtP_congr {ls ms : List Pr} (p : ls.Perm ms) : srtG Pr ls = srtG Pr ms :=
  List.Perm.eq_of_pairwise (fun _ _ _ _ h g => pr_anti h g) (srtG_pw ls) (srtG_pw ms) ((srtG_perm ls).trans (p.trans (srtG_perm ms).symm))
/-- all lots of the words, as the law builds them -/
def lotsR (its : Lot) : List Lot := its.foldl (fun ls it => ls ++ ls.map fun x => x ++ [it]) [[]]
theorem lotsR_snoc (its : Lot) (it : Pr) : lotsR (its ++ [it]) = lotsR its ++ (lotsR its).map fun x => x ++ [it] := by unfold lotsR; rw [List.foldl_append]; rfl
theorem snoc_ind {α : Type} {p : List α → Prop} (h0 : p []) (h1 : ∀ l x, p l → p (l ++ [x])) : ∀ l, p l := fun l => by
  rw [← List.reverse_reverse l]
  induction l.reverse with
  | nil => exact h0
  | cons a t ih => rw [List.reverse_cons]; exact h1 _ _ ih
theorem lotsR_mem : ∀ its : Lot, ∀ x, x ∈ lotsR its ↔ x.Sublist its := by
  refine snoc_ind (fun x => ?_) fun l it ih x => ?_
  · show x ∈ [[]] ↔ _
    rw [List.mem_singleton, List.sublist_nil]
  · rw [lotsR_snoc, List.mem_append, ih, List.mem_map, List.sublist_append_iff]
    constructor
    · rintro (h | ⟨y, hy, rfl⟩)
      · exact ⟨x, [], (List.append_nil _).symm, h, List.nil_sublist _⟩
      · exact ⟨y, [it], rfl, (ih y).mp hy, List.Sublist.refl _⟩
    · rintro ⟨a, b, rfl, ha, hb⟩
      rcases List.sublist_cons_iff.mp hb with h | ⟨r, e, hr⟩
      · rw [List.sublist_nil.mp h, List.append_nil]; exact .inl ha
      · rw [List.sublist_nil.mp hr] at e
        exact .inr ⟨a, (ih a).mpr ha, by rw [e]⟩
theorem lotsR_len : ∀ its : Lot, (lotsR its).length = 2 ^ its.length := by
  refine snoc_ind rfl fun l it ih => ?_
  rw [lotsR_snoc, List.length_append, List.length_map, ih, List.length_append, List.length_singleton, Nat.pow_succ]; omega
theorem lotsR_nd : ∀ its : Lot, its.Nodup → (lotsR its).Nodup := by
  refine snoc_ind (fun _ => by show [[]].Nodup; simp) fun l it ih nd => ?_
  obtain ⟨n1, _, n2⟩ := List.nodup_append.mp nd
  rw [lotsR_snoc]
  refine List.nodup_append.mpr ⟨ih n1, List.Pairwise.map _ (fun a b e q => e (List.append_cancel_right q)) (ih n1), fun x hx y hy e => ?_⟩
  subst e
  obtain ⟨y, _, rfl⟩ := List.mem_map.mp hy
  have := ((lotsR_mem l _).mp hx).subset (show it ∈ y ++ [it] by simp)
  exact n2 it this it (by simp) rfl
theorem subL_iff {its : Lot} (h : Asc its) {x : Lot} : x.Sublist its ↔ SubL its x := ⟨fun s => ⟨h.sublist s, fun y hy => s.subset hy⟩, fun s => asc_sub h s.1 s.2⟩
/-- the law's good lots, and the least of them -/
noncomputable def goodL (its : Lot) (hP : Lot → Prop) : List Lot := (lotsR its).filter fun x => @decide (hP x) (Classical.propDecidable _)
noncomputable def leastL (its : Lot) (hP : Lot → Prop) : List Lot := (goodL its hP).filter fun x => !(goodL its hP).any fun o => !eqG o x && holdB x o
theorem good_mem {its : Lot} (h : Asc its) {hP : Lot → Prop} {x : Lot} : x ∈ goodL its hP ↔ SubL its x ∧ hP x := by
  unfold goodL
  rw [List.mem_filter, lotsR_mem, subL_iff h]
  exact and_congr Iff.rfl (@decide_eq_true_iff (hP x) (Classical.propDecidable _))
theorem least_mem {its : Lot} (h : Asc its) {hP : Lot → Prop} {x : Lot} : x ∈ leastL its hP ↔ Minl its hP x := by
  unfold leastL
  rw [List.mem_filter, good_mem h, Bool.not_eq_true', List.any_eq_false]
  constructor
  · rintro ⟨⟨a, b⟩, c⟩
    refine ⟨a, b, fun q h1 h2 h3 => ?_⟩
    by_cases e : q = x
    · exact e
    · refine absurd ?_ (c q ((good_mem h).mpr ⟨h1, h2⟩))
      rw [Bool.and_eq_true]
      exact ⟨by unfold eqG; rw [decide_eq_false e]; rfl, holdB_iff.mpr h3⟩
  · rintro ⟨a, b, c⟩
    refine ⟨⟨a, b⟩, fun q hq t => ?_⟩
    obtain ⟨h1, h2⟩ := (good_mem h).mp hq
    rw [Bool.and_eq_true] at t
    have := c q h1 h2 (holdB_iff.mp t.2)
    subst this
    have t1 := t.1
    unfold eqG at t1
    rw [decide_eq_true rfl] at t1; cases t1
theorem least_nd {its : Lot} (h : Asc its) {hP : Lot → Prop} : (leastL its hP).Nodup := ((lotsR_nd its (asc_nd h)).filter _).filter _
/-- the program's least lots and the law's, in order -/
theorem least_eq {its : Lot} (h : Asc its) {hP : Lot → Prop} {ls : List Lot} (nd : ls.Nodup) (m : ∀ x, x ∈ ls ↔ Minl its hP x) : srtG Lot ls = srtG Lot (leastL its hP) :=
  srtL_congr ((List.perm_ext_iff_of_nodup nd (least_nd h)).mpr fun x => (m x).trans (least_mem h).symm)
theorem mem_ordR {bk : Bk} (nd : (bk.map (·.1)).Nodup) {r : Str × Str × List (Str × Str)} : r ∈ ordB bk ↔ ∃ x ∈ bk, r = (x.1, x.2.1, ordT x.2.2) := by
  unfold ordB
  rw [List.mem_map]
  constructor
  · rintro ⟨s, hs, rfl⟩
    have m := (srt_perm _).mem_iff.mp hs
    exact ⟨_, row_mem m, rfl⟩
  · rintro ⟨x, hx, rfl⟩
    exact ⟨x.1, (srt_perm _).mem_iff.mpr (List.mem_map_of_mem hx), by rw [rowOf_self nd hx]⟩
theorem words_perm {k : Str} {bk : Bk} {st : Str} (ok : DOk bk st) : (wordsB k (ordB bk)).Perm (wordsB k bk) := by
  refine (List.perm_ext_iff_of_nodup (words_nd ok.ond ok.ord.tk) (words_nd ok.nd ok.tk)).mpr fun p => ?_
  rw [words_mem, words_mem]
  constructor
  · rintro ⟨r, hr, a, b, c⟩
    obtain ⟨x, hx, rfl⟩ := (mem_ordR ok.nd).mp hr
    rw [ordT_keys] at c
    exact ⟨x, hx, a, b, (srt_perm _).mem_iff.mp c⟩
  · rintro ⟨x, hx, a, b, c⟩
    exact ⟨_, (mem_ordR ok.nd).mpr ⟨x, hx, rfl⟩, a, b, by rw [ordT_keys]; exact (srt_perm _).mem_iff.mpr c⟩
theorem wT_nil {s : Str} {ps : Lot} {ts : List (Str × Str)} (nd : (ts.map (·.1)).Nodup) : wT s ps (ordT ts) = [] ↔ wT s ps ts = [] := by
  unfold wT
  rw [List.filter_eq_nil_iff, List.filter_eq_nil_iff]
  exact forall_congr' fun t => by rw [mem_ordTV nd]
theorem emp_ord {k : Str} {ps : Lot} {bk : Bk} {st : Str} (ok : DOk bk st) : empB k (wB ps (ordB bk)) = false ↔ empB k (wB ps bk) = false := by
  rw [emp_iff, emp_iff]
  constructor
  · intro h r hr e n
    obtain ⟨x, hx, rfl⟩ := List.mem_map.mp hr
    refine h (x.1, x.2.1, wT x.1 ps (ordT x.2.2)) (List.mem_map.mpr ⟨_, (mem_ordR ok.nd).mpr ⟨x, hx, rfl⟩, rfl⟩) e ((wT_nil (ok.tk x hx)).mpr n)
  · intro h r hr e n
    obtain ⟨y, hy, rfl⟩ := List.mem_map.mp hr
    obtain ⟨x, hx, rfl⟩ := (mem_ordR ok.nd).mp hy
    exact h (x.1, x.2.1, wT x.1 ps x.2.2) (List.mem_map.mpr ⟨x, hx, rfl⟩) e ((wT_nil (ok.tk x hx)).mp n)
theorem bad_iff {bk : Bk} {st : Str} {ps : Lot} (ok : DOk bk st) (hs : ∀ p ∈ ps, p ∈ wordsB "says" bk) : badB (wB ps bk) = false ↔ empB "says" (wB ps bk) = false := by
  constructor
  · intro h
    refine emp_iff.mpr fun r hr e n => ?_
    refine (List.any_eq_false.mp h) r hr ?_
    unfold badR
    rw [n, e]; decide +kernel
  · intro h
    refine List.any_eq_false.mpr fun r hr t => ?_
    unfold badR at t
    rw [Bool.and_eq_true, decide_eq_true_iff, Bool.not_eq_true', decide_eq_false_iff_not] at t
    rcases ((ok.w hs h).rs r hr).2.1 with ⟨z, _⟩ | ⟨_, z, _⟩
    · exact t.2 z
    · exact z (List.length_eq_zero_iff.mp t.1)
theorem names_ord {bk : Bk} (s : Str) : s ∈ (ordB bk).map (·.1) ↔ s ∈ bk.map (·.1) := by rw [ordB_names]; exact (srt_perm _).mem_iff
theorem res_iff {bk : Bk} {st : Str} {ps : Lot} (ok : DOk bk st) (hs : ∀ p ∈ ps, p ∈ wordsB "says" bk) : ResP (ordB bk) st ps ↔ badB (wB ps bk) = false ∧ Viable (wB ps bk) st := by
  unfold ResP
  rw [emp_ord ok, bad_iff ok hs]
  exact and_congr Iff.rfl (via_same (sameB_w ok.ond ok.nd names_ord (fun _ => Iff.rfl) (sameB_ord ok)))
theorem emp_mono {k : Str} {bk : Bk} {ps qs : Lot} (h : ∀ x ∈ qs, x ∈ ps) (e : empB k (wB ps bk) = false) : empB k (wB qs bk) = false := by
  refine emp_iff.mpr fun r hr er n => ?_
  obtain ⟨x, hx, rfl⟩ := List.mem_map.mp hr
  refine emp_iff.mp e (x.1, x.2.1, wT x.1 ps x.2.2) (List.mem_map.mpr ⟨x, hx, rfl⟩) er ?_
  have n : wT x.1 qs x.2.2 = [] := n
  show wT x.1 ps x.2.2 = []
  unfold wT at n ⊢
  rw [List.filter_eq_nil_iff] at n ⊢
  intro t ht c
  refine n t ht ?_
  rw [Bool.not_eq_true', memG_not] at c ⊢
  exact fun q => c (h _ q)
theorem ordT_perm {ts us : List (Str × Str)} (nd : (ts.map (·.1)).Nodup) (p : ts.Perm us) : ordT ts = ordT us := by
  have nd2 : (us.map (·.1)).Nodup := (p.map _).nodup_iff.mp nd
  unfold ordT
  rw [srt_congr (p.map (·.1))]
  refine List.map_congr_left fun k hk => ?_
  have m := (srt_perm _).mem_iff.mp hk
  obtain ⟨t, ht, e⟩ := List.mem_map.mp m
  subst e
  rw [goalT_at nd2 ht, goalT_at nd (p.mem_iff.mpr ht)]
theorem nd_of_map {α β : Type} {f : α → β} {l : List α} (h : (l.map f).Nodup) : l.Nodup := (List.pairwise_map.mp h).imp fun e q => e (by rw [q])
theorem ordT_perm_self {ts : List (Str × Str)} (nd : (ts.map (·.1)).Nodup) : (ordT ts).Perm ts := by
  have nd2 : ((ordT ts).map (·.1)).Nodup := by rw [ordT_keys]; exact (srt_perm _).nodup_iff.mpr nd
  exact (List.perm_ext_iff_of_nodup (nd_of_map nd2) (nd_of_map nd)).mpr fun t => mem_ordTV nd
theorem ord_w {bk : Bk} {st : Str} {ps : Lot} (ok : DOk bk st) : ordB (wB ps (ordB bk)) = ordB (wB ps bk) := by
  refine ordB_eq (by rw [wB_names, wB_names, ordB_names]; exact srt_perm _) fun s hs => ?_
  rw [wB_names, names_ord] at hs
  rw [wB_row ok.ond, wB_row ok.nd, if_pos ((names_ord s).mpr hs), if_pos hs, rowOf_ord ok.nd hs]
  refine ⟨rfl, ?_⟩
  have tk := ok.tk _ (row_mem hs)
  show ordT (wT s ps (ordT (rowOf bk s).2)) = ordT (wT s ps (rowOf bk s).2)
  have nd2 : (((wT s ps (ordT (rowOf bk s).2))).map (·.1)).Nodup := (wT_sub.map _).nodup (by rw [ordT_keys]; exact (srt_perm _).nodup_iff.mpr tk)
  exact ordT_perm nd2 ((ordT_perm_self tk).filter _)
end D1
end L2
namespace L2
namespace D1
open PySem PySem.Spec PyProof.Rows D2 X5 X6 X7 Kt Dq
abbrev sOwnR : Stmt := top 70
abbrev itsL (bk : Bk) : Lot := srtG Pr (wordsB "says" bk)
noncomputable abbrev dueL (bk : Bk) (st : Str) : List Lot := srtG Lot (leastL (itsL bk) (ResP (ordB bk) st))
def spOwnR : Sp := fun vs H Q _ => ∃ (W : Addr) (bk : Bk) (st : Str), vs = [.ref W] ∧ WorldAt H W bk st ∧ DOk bk st ∧ (wordsB "says" bk).length ≤ 6 ∧
  ∀ H' R ws, Same H H' → H R = none → H' R = some (.lst ws) → Ats H' ws (dueL bk st) → Q (.ref R) H'
theorem ats_str {H : Hp} : ∀ {xs : List Str}, Ats H (xs.map V.str) xs
  | [] => .nil
  | _ :: _ => .cons rfl ats_str
def tGrow : TE := fun σ H Q => ∃ (Ls : Addr) (z : V) (v0 v3 v4 v5 v6 v7 : Option V) (us : List V) (ls : List Lot) (it : Pr), σ = [v0, some (.ref Ls), some z, v3, v4, v5, v6, v7] ∧ H Ls = some (.lst us) ∧ Ats H us ls ∧ Dt.At H z it ∧ ls.length ≤ 1000 ∧ (∀ x ∈ ls, x.length ≤ 1000) ∧
  ∀ H' L ws, Same H H' → H L = none → H' L = some (.lst ws) → Ats H' ws (ls ++ ls.map fun x => x ++ [it]) → Q (.ref L) H'
/-- another, and it holds it -/
def tOh : TE := fun σ H Q => ∃ (v0 v1 v2 v4 v5 v6 : Option V) (v u : V) (x o : Lot), σ = [v0, v1, v2, some v, v4, v5, v6, some u] ∧ Dt.At H v x ∧ Dt.At H u o ∧ o.length ≤ 10000 ∧ ∀ H', Same H H' → Q (.bl (!eqG o x && holdB x o)) H'
def tKp : TT := fun σ H Q => ∃ (Gd : Addr) (v0 v1 v2 v5 v6 v7 : Option V) (v : V) (us : List V) (x : Lot) (gs : List Lot), σ = [v0, v1, v2, some v, some (.ref Gd), v5, v6, v7] ∧ Dt.At H v x ∧ H Gd = some (.lst us) ∧ Ats H us gs ∧ gs.length ≤ 10000 ∧ (∀ x ∈ gs, x.length ≤ 10000) ∧
  ∀ H', Same H H' → Q (!gs.any fun o => !eqG o x && holdB x o) H'
def scOw1 : Scope := { kind := ScopeKind.function, names := [(Str.ofString ".0", NameKind.local), (Str.ofString "_law_lot", NameKind.cell), (Str.ofString "any", NameKind.globalImplicit), (Str.ofString "_law_good", NameKind.cell)], isGenerator := false, isCoroutine := false }
def scOw2 : Scope := { kind := ScopeKind.function, names := [(Str.ofString ".0", NameKind.local), (Str.ofString "_law_other", NameKind.local), (Str.ofString "all", NameKind.globalImplicit), (Str.ofString "_law_lot", NameKind.cell)], isGenerator := false, isCoroutine := false }
section
variable {P : Program} {w : World} {K : PySem.W.Frag} {mg : Str → Option Value} {base : Heap} {C : Addr}
abbrev CSaidW (P : Program) (w : World) (K : PySem.W.Frag) (mg : Str → Option Value) (base : Heap) := Cal P w K mg base "_law_said_words" 1 ["_law_world_here"] spSaidW
abbrev CWithout (P : Program) (w : World) (K : PySem.W.Frag) (mg : Str → Option Value) (base : Heap) := Cal P w K mg base "_law_without" 1 ["_law_world_here", "_law_lot"] spWithout
abbrev CLViab (P : Program) (w : World) (K : PySem.W.Frag) (mg : Str → Option Value) (base : Heap) := Cal P w K mg base "_law_viable" 1 ["_law_world_here"] spViable
abbrev owN : List Str := ["_law_world_here", "_law_lots", "_law_item", "_law_lot", "_law_good", "_law_late", "_law_least", "_law_other"]
theorem scOw : FnScope owN ["_law_world_here"] (defScope sOwnR) := ⟨rfl, rfl, rfl, by decide +kernel, rfl, by decide +kernel, by decide +kernel⟩
theorem ok_ownr {f : Addr} {fd : FuncData} (F : Fun K "_law_own_rescues" "_law_own_rescues" sOwnR f fd) (T : Free4 mg) (CS : CSaidW P w K mg base) (CW : CWithout P w K mg base) (CV : CLViab P w K mg base) : FnOk P w K mg base CX0 2 f fd ["_law_world_here"] spOwnR := by
  refine F.ok scOw (fun vs H Q E h => ?_) (fun cdv A outer s H vs Q E0' hr h => ?_)
  · obtain ⟨W, bk, st, rfl, _⟩ := h; rfl
  · obtain ⟨W, bk, st, rfl, hW0, o1, l6, k⟩ := h
    have hu := hu_of hr
    refine ⟨_, pss_cons (ps_set (i := 1) scOw.nd rfl (Or.inl rfl) (pe_lst (pa_cons (pe_lst pa_nil) pa_nil)))
      (pss_cons (ps_for PassesOwn.never rfl (pi_list (pe_cal CS (hr.mono (by decide)) rfl (pa_cons (pv 0) pa_nil))) (pg_name (i := 2) scOw.nd rfl (Or.inr rfl))
        (pss_one (ps_set (i := 1) scOw.nd rfl (Or.inl rfl) (pe_imp (t' := tGrow) (pe_op op_cat (pv 1) (pe_lc (own := [("_law_lot", 3)]) (g := gName 3) (tt := tYes) (te := tOp rCat (tVar 3) (tLst (tCons (tVar 2) tNil))) rfl scOw.nd (pi_list (pv 1))
            (blkOk_by (N := owN) (sc := defScope sOwnR) (by decide +kernel)) (fun _ _ _ _ _ => pg_name (i := 3) scOw.nd rfl (Or.inl rfl)) (fun _ _ _ _ _ => pts_nil) (fun _ _ _ _ _ => pe_op op_cat (pv 3) (pe_lst (pa_cons (pv 2) pa_nil))))) ?grow))))
      (pss_cons (ps_set (i := 4) scOw.nd rfl (Or.inr rfl) (pe_lst pa_nil))
      (pss_cons (ps_for PassesOwn.never rfl (pi_list (pv 1)) (pg_name (i := 3) scOw.nd rfl (Or.inl rfl))
        (pss_cons (ps_set (i := 5) scOw.nd rfl (Or.inl rfl) (pe_cal CW (hr.mono (by decide)) rfl (pa_cons (pv 0) (pa_cons (pv 3) pa_nil))))
        (pss_one (ps_if (PW.pt (pw_and (pt_cmp (pc_notN (pv 5))) (pw_and1 (pt_cmpR (op_inG (α := Str) (Room.u9 hr (n := 1 + PySem.W.Datum.depth Str) (by decide))) (pe_ix ix_list (pv 0) pe_int (fun _ _ => rfl)) (pe_cal CV (hr.mono (by decide)) rfl (pa_cons (pv 5) pa_nil)) (by rfl)))))
          (pss_one (ps_expr (pe_bm PySem.F.plainAttrs_list PySem.F.slot_list_append PySem.F.type_list_append mt_append (pv 4) (pa_cons (pv 3) pa_nil)))) pss_nil))))
      (pss_cons (ps_setLc (i := 6) (own := [("_law_lot", 3)]) (g := gName 3) (tt := tKp) (te := tVar 3) rfl scOw.nd rfl rfl (sw_true rfl rfl rfl rfl) (pi_list (pv 4)) (blkOk_by (N := owN) (sc := defScope sOwnR) (by decide +kernel)) (fun _ _ _ _ _ => pg_name (i := 3) scOw.nd rfl (Or.inr rfl))
          (fun _ _ _ _ _ => pts_one (pt_imp (t' := tKp) (pt_not (pt_val (pe_callB (cr_any rfl) (by rfl) T.any (by decide +kernel) (pa_cons (pe_lc (own := [("_law_other", 7)]) (g := gName 7) (tt := tYes) (te := tOh) rfl scOw.nd (pi_list (pv 4)) (blkOk_by (N := owN) (sc := scOw1) (by decide +kernel)) (fun _ _ _ _ _ => pg_name (i := 7) scOw.nd rfl (Or.inl rfl)) (fun _ _ _ _ _ => pts_nil)
              (fun _ _ _ _ _ => pe_imp (t' := tOh) (pe_and (pe_cmpR (op_neG (α := Lot) (Room.u9 hr (n := PySem.W.Datum.depth Lot) (by decide))) (pv 7) (pv 3) (by rfl)) (pe_one (pe_callB (cr_all rfl) (by rfl) T.all (by decide +kernel) (pa_cons (pe_lc (own := [("_law_item", 2)]) (g := gName 2) (tt := tYes) (te := tOp (Dq.rIn Pr K) (tVar 2) (tVar 3)) rfl scOw.nd (pi_list (pv 7)) (blkOk_by (N := owN) (sc := scOw2) (by decide +kernel)) (fun _ _ _ _ _ => pg_name (i := 2) scOw.nd rfl (Or.inl rfl)) (fun _ _ _ _ _ => pts_nil)
                (fun _ _ _ _ _ => pe_cmpR (op_inG (α := Pr) (Room.u9 hr (n := 1 + PySem.W.Datum.depth Pr) (by decide))) (pv 2) (pv 3) (by rfl))) pa_nil)))) ?oh)) pa_nil)))) ?kp)) (fun _ _ _ _ _ => pv 3))
      (pss_one (ps_ret (pe_callB (cr_sortG (α := Lot) (Room.u9 hr (n := 2 + PySem.W.Datum.depth Lot) (by decide))) (by rfl) T.sorted (by decide +kernel) (pa_cons (pv 6) pa_nil)))))))), ?_⟩
    case grow =>
      rintro σ H Q ⟨Ls, z, v0, v3, v4, v5, v6, v7, us, ls, it, rfl, hL, hA, hz, l, lx, q⟩
      have lu := hA.len
      refine ⟨_, rfl, _, rfl, Ls, rfl, ⟨_, SqL.of hL⟩, fun M hM => ?_⟩
      have old : ∀ {H'}, Same H H' → Same H (cut [M] H') := fun s b o e => by rw [cut_out (by simpa using ne_of_none e hM)]; exact s _ _ e
      refine lc_list (K := K) (a := Ls) (xs := us) (fun j H' => Same H H' ∧ ∃ ws, H' M = some (.lst ws) ∧ Ats (cut [M] H') ws ((ls.take j).map fun x => x ++ [it])) ⟨Same.new hM, [], upd_same, .nil⟩ (fun j H' _ z => SqL.of (z.1 _ _ hL)) ?_ ?_
      · rintro j v H1 hv ⟨sm, ws, hM1, hW⟩
        obtain ⟨x, hx, hvx⟩ := paired_get hA hv
        obtain ⟨a, xs, rfl, ha, hax⟩ := id hvx
        have lw : ws.length ≤ 1000 := by rw [hW.len, List.length_map, List.length_take]; omega
        refine ⟨rfl, ?_⟩
        dsimp only [tYes]
        rw [if_pos rfl]
        refine ⟨_, rfl, _, rfl, (by show 1 ≤ sizeLine; decide), fun S hS => ?_⟩
        have g1 := Same.new (o := .lst [z]) hS
        have s4 := Same.trans sm g1
        have hM4 := g1 _ _ hM1
        have eS : (L2.upd H1 S (.lst [z])) S = some (.lst [z]) := upd_same
        generalize L2.upd H1 S (.lst [z]) = H5 at g1 s4 hM4 eS
        have lxs : xs.length ≤ 1000 := by rw [hax.len]; exact lx x (List.mem_of_getElem? hx)
        refine ⟨a, S, xs, [z], rfl, rfl, s4 _ _ ha, eS, by rw [List.length_singleton, sizeLine_eq]; omega, fun N hN => ?_⟩
        have g2 := Same.new (o := .lst (xs ++ [z])) hN
        have hM5 := g2 _ _ hM4
        have nN : N ≠ M := fun e => by rw [e, hM4] at hN; cases hN
        refine ⟨ws, hM5, by rw [sizeLine_eq]; omega, fun c2 o e => ?_, ws ++ [.ref N], by rw [upd_same], ?_⟩
        · rw [upd_ne (ne_of_none e hM)]; exact g2 _ _ (s4 _ _ e)
        · rw [cut_upd (by simp), take_succ_get hx, List.map_append]
          refine paired_snoc (hW.same (cut_same (Same.trans g1 g2))) ⟨N, xs ++ [z], rfl, by rw [cut_out (by simpa using nN)]; exact upd_same, ?_⟩
          have so := old (Same.trans s4 g2)
          exact paired_snoc (hax.same so) (Dt.same so hz)
      · rintro H1 ⟨sm, ws, hM1, hW⟩
        rw [lu, List.take_length] at hW
        have lw : ws.length ≤ 1000 := by rw [hW.len, List.length_map]; exact l
        refine ⟨Ls, M, us, ws, rfl, rfl, sm _ _ hL, hM1, by rw [sizeLine_eq]; omega, fun N hN => ?_⟩
        have g := Same.new (o := .lst (us ++ ws)) hN
        exact q _ N _ (Same.trans sm g) (sm.free hN) upd_same (paired_append (hA.same (Same.trans sm g)) ((hW.same cut_le).same g))
    case oh =>
      rintro σ H Q ⟨v0, v1, v2, v4, v5, v6, v, u, x, o, rfl, hx, ho, l, q⟩
      refine ⟨_, rfl, _, rfl, o, x, ho, hx, _, rfl, ?_⟩
      cases c : eqG o x with
      | true =>
        rw [c] at q
        exact iteF (q H (Same.refl _))
      | false =>
        rw [c] at q
        refine iteT ?_
        obtain ⟨a, xs, rfl, ha, hax⟩ := id hx
        obtain ⟨b, os, rfl, hb, hob⟩ := id ho
        have lo := hob.len
        refine ⟨_, rfl, b, rfl, ⟨_, SqL.of hb⟩, fun D hD => ?_⟩
        refine lc_list (K := K) (a := b) (xs := os) (fun i H' => Same H H' ∧ H' D = some (.lst (((o.take i).map fun y => memG y x).map V.bl))) ⟨Same.new hD, upd_same⟩ (fun i H' _ z => SqL.of (z.1 _ _ hb)) ?_ ?_
        · rintro i v H1 hv ⟨sm, hD1⟩
          have li : i < o.length := by rw [← lo]; exact (List.getElem?_eq_some_iff.mp hv).1
          obtain ⟨y, hy, hvy⟩ := paired_get hob hv
          refine ⟨rfl, ?_⟩
          dsimp only [tYes]
          rw [if_pos rfl]
          refine ⟨_, rfl, _, rfl, y, x, a, xs, Dt.same sm hvy, rfl, SqL.of (sm _ _ ha), hax.same sm, ?_⟩
          refine ⟨_, hD1, by rw [List.length_map, List.length_map, List.length_take, sizeLine_eq]; omega, fun c o e => ?_, by rw [upd_same, take_succ_get hy, List.map_append, List.map_append]; rfl⟩
          rw [upd_ne (ne_of_none e hD)]; exact sm _ _ e
        · rintro H1 ⟨sm, hD1⟩
          rw [lo, List.take_length] at hD1
          refine ⟨D, _, rfl, SqL.of hD1, ?_⟩
          rw [all_map]
          exact q H1 sm
    case kp =>
      rintro σ H Q ⟨Gd, v0, v1, v2, v5, v6, v7, v, us, x, gs, rfl, hx, hG, hA, l, lx, q⟩
      have lu := hA.len
      refine ⟨_, rfl, Gd, rfl, ⟨_, SqL.of hG⟩, fun M hM => ?_⟩
      refine lc_list (K := K) (a := Gd) (xs := us) (fun j H' => Same H H' ∧ H' M = some (.lst (((gs.take j).map fun o => !eqG o x && holdB x o).map V.bl))) ⟨Same.new hM, upd_same⟩ (fun j H' _ z => SqL.of (z.1 _ _ hG)) ?_ ?_
      · rintro j u H2 hu2 ⟨sm, hM2⟩
        have lj : j < us.length := (List.getElem?_eq_some_iff.mp hu2).1
        obtain ⟨m, hm, hum⟩ := paired_get hA hu2
        refine ⟨rfl, ?_⟩
        dsimp only [tYes]
        rw [if_pos rfl]
        refine ⟨_, _, _, _, _, _, _, _, x, m, rfl, Dt.same sm hx, Dt.same sm hum, lx m (List.mem_of_getElem? hm), fun H3 s3 => ?_⟩
        refine ⟨_, s3 _ _ hM2, by rw [List.length_map, List.length_map, List.length_take, sizeLine_eq]; omega, fun c o e => ?_, by rw [upd_same, take_succ_get hm, List.map_append, List.map_append]; rfl⟩
        rw [upd_ne (ne_of_none e hM)]; exact s3 _ _ (sm _ _ e)
      · rintro H2 ⟨sm, hM2⟩
        rw [lu, List.take_length] at hM2
        refine ⟨M, _, rfl, SqL.of hM2, _, rfl, ?_⟩
        rw [any_map']
        exact q H2 sm
    have ndw : (wordsB "says" bk).Nodup := words_nd o1.nd o1.tk
    have asc : Asc (itsL bk) := asc_srt ndw
    have l6' : (itsL bk).length ≤ 6 := by rw [show (itsL bk).length = _ from (srtG_perm _).length_eq]; exact l6
    have inW : ∀ {x}, SubL (itsL bk) x → ∀ p ∈ x, p ∈ wordsB "says" bk := fun h p hp => (srtG_perm _).mem_iff.mp (h.2 p hp)
    have lenR : ∀ i, (lotsR ((itsL bk).take i)).length ≤ 64 := fun i => by
      rw [lotsR_len, List.length_take]
      exact Nat.le_trans (Nat.pow_le_pow_right (by decide) (show _ ≤ 6 by omega)) (by decide)
    have memR : ∀ i x, x ∈ lotsR ((itsL bk).take i) → SubL (itsL bk) x := fun i x hx => (subL_iff asc).mp (((lotsR_mem _ _).mp hx).trans (List.take_sublist _ _))
    have lenX : ∀ {x}, SubL (itsL bk) x → x.length ≤ 6 := fun h => Nat.le_trans (sub_len asc h) l6'
    refine ⟨Nat.zero_le _, fun E1 hE1 => ⟨by show 1 ≤ sizeLine; decide, fun P0 hP0 => ?_⟩⟩
    have g1 := Same.new (o := .lst []) hE1
    have eE1 : (L2.upd H E1 (.lst [])) E1 = some (.lst []) := upd_same
    generalize L2.upd H E1 (.lst []) = H2 at g1 eE1 hP0
    have g2 := Same.new (o := .lst [.ref E1]) hP0
    have eP0 : (L2.upd H2 P0 (.lst [.ref E1])) P0 = some (.lst [.ref E1]) := upd_same
    generalize L2.upd H2 P0 (.lst [.ref E1]) = H3 at g2 eP0
    have s03 := Same.trans g1 g2
    refine ⟨_, rfl, W, bk, st, rfl, hW0.same s03, o1, fun H4 I us s4 nI hI hA => ?_⟩
    have lu := hA.len
    have s04 := Same.trans s03 s4
    refine ⟨I, rfl, ⟨_, SqL.of hI⟩, ?_⟩
    refine for_list (K := K) (a := I) (xs := us) (fun i σ H' => ∃ (Ls : Addr) (v2 v3 v4 v5 v6 v7 : Option V) (vs : List V), σ = [some (.ref W), some (.ref Ls), v2, v3, v4, v5, v6, v7] ∧ Same H4 H' ∧ H' Ls = some (.lst vs) ∧ Ats H' vs (lotsR ((itsL bk).take i)))
      ⟨P0, none, none, none, none, none, none, [.ref E1], rfl, Same.refl _, s4 _ _ eP0, .cons ⟨E1, [], rfl, s4 _ _ (g2 _ _ eE1), .nil⟩ .nil⟩ (fun i σ H' _ ⟨_, _, _, _, _, _, _, _, _, z, _⟩ => SqL.of (z _ _ hI)) ?_ ?_
    · rintro i v σ H5 hv ⟨Ls, v2, v3, v4, v5, v6, v7, vs, rfl, s5, hL, hV⟩
      obtain ⟨it, hit, hvi⟩ := paired_get hA hv
      refine ⟨Ls, v, _, v3, v4, v5, v6, v7, vs, _, it, rfl, hL, hV, Dt.same s5 hvi, Nat.le_trans (lenR i) (by decide), fun x hx => Nat.le_trans (lenX (memR i x hx)) (by decide), fun H6 L ws s6 nL hL6 hW6 => ?_⟩
      refine ⟨L, some v, v3, v4, v5, v6, v7, ws, rfl, Same.trans s5 s6, hL6, ?_⟩
      rw [take_succ_get hit, lotsR_snoc]
      exact hW6
    rintro σ H5 ⟨Ls, v2, v3, v4, v5, v6, v7, vs, rfl, s5, hL, hV⟩
    rw [lu, List.take_length] at hV
    have s05 := Same.trans s04 s5
    refine ⟨Nat.zero_le _, fun Gd hGd => ?_⟩
    have lv := hV.len
    have lR : (lotsR (itsL bk)).length ≤ 64 := by have := lenR (itsL bk).length; rwa [List.take_length] at this
    have mR : ∀ x, x ∈ lotsR (itsL bk) → SubL (itsL bk) x := fun x hx => (subL_iff asc).mp ((lotsR_mem _ _).mp hx)
    refine ⟨_, rfl, Ls, rfl, ⟨_, SqL.of ((Same.new hGd) _ _ hL)⟩, ?_⟩
    refine for_list (K := K) (a := Ls) (xs := vs) (fun i σ H' => ∃ (v2 v3 v5 v6 v7 : Option V) (gs : List V), σ = [some (.ref W), some (.ref Ls), v2, v3, some (.ref Gd), v5, v6, v7] ∧ Same H5 H' ∧ H' Gd = some (.lst gs) ∧ Ats H5 gs (((lotsR (itsL bk)).take i).filter fun x => @decide (ResP (ordB bk) st x) (Classical.propDecidable _)))
      ⟨v2, v3, v5, v6, v7, [], rfl, Same.new hGd, upd_same, .nil⟩ (fun i σ H' _ ⟨_, _, _, _, _, _, _, z, _⟩ => SqL.of (z _ _ hL)) ?_ ?_
    · rintro i v σ H6 hv ⟨v2, v3, v5, v6, v7, gs, rfl, s6, hG, hGA⟩
      obtain ⟨x, hx, hvx⟩ := paired_get hV hv
      have sx := mR x (List.mem_of_getElem? hx)
      obtain ⟨a, xs, rfl, ha, hax⟩ := id hvx
      have s06 := Same.trans s05 s6
      have lg : gs.length ≤ 64 := by
        rw [hGA.len]
        refine Nat.le_trans (List.length_filter_le _ _) ?_
        rw [List.length_take]; omega
      refine ⟨_, rfl, _, rfl, W, a, bk, st, xs, x, rfl, hW0.same s06, o1, s6 _ _ ha, hax.same s6, fun H7 R s7 hR => ?_⟩
      have s07 := Same.trans s06 s7
      have s67 := Same.trans s6 s7
      have hG7 := s7 _ _ hG
      have ri := res_iff o1 (inW sx)
      cases hb : badB (wB x bk) with
      | true =>
        rw [if_pos rfl]
        refine ⟨_, rfl, _, rfl, ?_⟩
        refine (if_neg (by decide)).mpr ?_
        refine iteF ⟨v2, some (.ref a), some .non, v6, v7, gs, rfl, s67, hG7, ?_⟩
        rw [filt_no hx (@decide_eq_false _ (Classical.propDecidable _) fun z => by rw [(ri.mp z).1] at hb; cases hb)]
        exact hGA
      | false =>
        rw [if_neg (by decide)]
        have okw := o1.w (inW sx) ((bad_iff o1 (inW sx)).mp hb)
        obtain ⟨b0, hWb, _⟩ := id hW0
        refine ⟨_, rfl, _, rfl, ?_⟩
        refine (if_pos (by rw [decide_eq_false (fun e => by cases e)]; rfl)).mpr ?_
        refine ⟨_, rfl, W, _, _, _, rfl, rfl, SqL.of (s07 _ _ hWb), atI_nat (j := 1) rfl, _, rfl, R, wB x bk, st, rfl, hR hb, okw, fun H8 V8 zs s8 nV hV8 l60 hz _ _ => ?_⟩
        refine ⟨st, zs, V8, _, rfl, rfl, SqL.of hV8, ats_str, _, rfl, ?_⟩
        have s68 := Same.trans s67 s8
        cases c : memG st zs with
        | false =>
          refine iteF ⟨v2, some (.ref a), some (.ref R), v6, v7, gs, rfl, s68, s8 _ _ hG7, ?_⟩
          rw [filt_no hx (@decide_eq_false _ (Classical.propDecidable _) fun z => memG_not.mp c ((hz st).mpr (ri.mp z).2))]
          exact hGA
        | true =>
          refine iteT ⟨_, rfl, .inl ⟨rfl, _, SqL.of (s8 _ _ hG7)⟩, _, rfl, Gd, gs, .ref a, rfl, rfl, s8 _ _ hG7, by rw [sizeLine_eq]; omega, ?_⟩
          refine ⟨v2, some (.ref a), some (.ref R), v6, v7, gs ++ [.ref a], rfl, fun c o e => by rw [upd_ne (ne_of_none e hGd)]; exact s68 _ _ e, upd_same, ?_⟩
          rw [filt_yes hx (@decide_eq_true _ (Classical.propDecidable _) (ri.mpr ⟨hb, (hz st).mp (memG_iff.mp c)⟩))]
          exact paired_snoc hGA hvx
    rintro σ H6 ⟨v2, v3, v5, v6, v7, gs, rfl, s6, hG, hGA⟩
    rw [lv, List.take_length] at hGA
    have hGA : Ats H5 gs (goodL (itsL bk) (ResP (ordB bk) st)) := hGA
    have lgl : (goodL (itsL bk) (ResP (ordB bk) st)).length ≤ 64 := Nat.le_trans (List.length_filter_le _ _) lR
    have hG6 : Ats H6 gs (goodL (itsL bk) (ResP (ordB bk) st)) := hGA.same s6
    have lgs := hGA.len
    have s06 := Same.trans s05 s6
    generalize eg : goodL (itsL bk) (ResP (ordB bk) st) = good at hGA hG6 lgl lgs
    refine ⟨_, rfl, Gd, rfl, ⟨_, SqL.of hG⟩, fun M hM => ?_⟩
    refine lc_list (K := K) (a := Gd) (xs := gs) (fun j H' => Same H6 H' ∧ ∃ ws, H' M = some (.lst ws) ∧ Ats H6 ws ((good.take j).filter fun x => !good.any fun o => !eqG o x && holdB x o)) ⟨Same.new hM, [], upd_same, .nil⟩ (fun j H' _ z => SqL.of (z.1 _ _ hG)) ?_ ?_
    · rintro j v H7 hv ⟨sm, ws, hM7, hW7⟩
      obtain ⟨x, hx, hvx⟩ := paired_get hG6 hv
      have lw : ws.length ≤ 64 := by
        rw [hW7.len]
        refine Nat.le_trans (List.length_filter_le _ _) ?_
        rw [List.length_take]; omega
      refine ⟨rfl, ?_⟩
      refine ⟨Gd, _, _, _, _, _, _, v, gs, x, good, rfl, Dt.same sm hvx, sm _ _ hG, hG6.same sm, by omega, fun y hy => ?_, fun H8 s8 => ?_⟩
      · rw [← eg] at hy
        exact Nat.le_trans (lenX ((good_mem asc).mp hy).1) (by decide)
      have hM8 := s8 _ _ hM7
      have s68 := Same.trans sm s8
      cases c : good.any fun o => !eqG o x && holdB x o with
      | true => exact iteF ⟨s68, ws, hM8, by rw [filt_no hx (by rw [c]; rfl)]; exact hW7⟩
      | false =>
        refine iteT ⟨_, rfl, ws, hM8, by rw [sizeLine_eq]; omega, fun c2 o e => ?_, ws ++ [v], by rw [upd_same], ?_⟩
        · rw [upd_ne (ne_of_none e hM)]; exact s68 _ _ e
        · rw [filt_yes hx (by rw [c]; rfl)]
          exact paired_snoc hW7 hvx
    · rintro H7 ⟨sm, ws, hM7, hW7⟩
      rw [lgs, List.take_length] at hW7
      have el : (good.filter fun x => !good.any fun o => !eqG o x && holdB x o) = leastL (itsL bk) (ResP (ordB bk) st) := by rw [← eg]; rfl
      rw [el] at hW7
      have s07 := Same.trans s06 sm
      refine ⟨_, rfl, M, ws, _, rfl, SqL.of hM7, hW7.same sm, fun p us hu2 hp => ?_⟩
      have g := Same.new (o := .lst us) hp
      exact k _ p us (Same.trans s07 g) (s07.free hp) upd_same (hu2.same g)
end
end D1
end L2
namespace L2
namespace D1
open PySem PySem.Spec PyProof.Rows D2 X5 X6 X7 Kt Dq
abbrev sRR : Stmt := top 71
theorem paired2 {α : Type} {R : V → α → Prop} {S : V → V → Prop} : ∀ {xs : List α} {vs us : List V}, Paired R vs xs → Paired R us xs → (∀ x ∈ xs, ∀ v u, R v x → R u x → S v u) → Paired S vs us
  | _, _, _, .nil, .nil, _ => .nil
  | _, _, _, .cons a t, .cons b r, h => .cons (h _ List.mem_cons_self _ _ a b) (paired2 t r fun x hx => h x (List.mem_cons_of_mem _ hx))
theorem eqx_lot {H : Hp} {v u : V} {x : Lot} (hv : Dt.At H v x) (hu : Dt.At H u x) (l : x.length ≤ 10000) : EqX 2 H v u := by
  obtain ⟨a, vs, rfl, ha, hA⟩ := hv
  obtain ⟨b, us, rfl, hb, hB⟩ := hu
  refine .inr (.inl ⟨a, b, vs, us, rfl, rfl, ha, hb, by rw [hA.len]; exact l, paired2 hA hB fun p _ y z h g => ?_⟩)
  obtain ⟨m, rfl, hm⟩ := h
  obtain ⟨n, rfl, hn⟩ := g
  exact .inr (.inr (.inl ⟨m, n, _, _, rfl, rfl, hm, hn, by show 2 ≤ 10000; decide, .cons (eqx_str _) (.cons (eqx_str _) .nil)⟩))
theorem eqx_lots {H : Hp} {a b : Addr} {vs us : List V} {ls : List Lot} (ha : H a = some (.lst vs)) (hb : H b = some (.lst us)) (hA : Ats H vs ls) (hB : Ats H us ls) (l : ls.length ≤ 10000) (lx : ∀ x ∈ ls, x.length ≤ 10000) : EqX 3 H (.ref a) (.ref b) :=
  .inr (.inl ⟨a, b, vs, us, rfl, rfl, ha, hb, by rw [hA.len]; exact l, paired2 hA hB fun x hx v u h g => eqx_lot h g (lx x hx)⟩)
theorem wB_nil (bk : Bk) : wB [] bk = bk := by
  unfold wB
  have : ∀ b : Bk, b.map (fun r => (r.1, r.2.1, wT r.1 [] r.2.2)) = b := fun b => by
    induction b with
    | nil => rfl
    | cons r t ih =>
      rw [List.map_cons, ih]
      have e : wT r.1 [] r.2.2 = r.2.2 := List.filter_eq_self.mpr fun t _ => by rw [Bool.not_eq_true', memG_not]; intro h; cases h
      rw [e]
  exact this bk
theorem emp_ok {bk : Bk} {st : Str} (ok : DOk bk st) : empB "says" bk = false := by
  refine emp_iff.mpr fun r hr e => ?_
  rcases (ok.rs r hr).2.1 with ⟨z, _⟩ | ⟨_, z, _⟩
  · exact absurd (e.symm.trans z) (by decide +kernel)
  · exact z
theorem res_nil {bk : Bk} {st : Str} (ok : DOk bk st) : ResP (ordB bk) st [] ↔ Viable (ordB bk) st := by
  unfold ResP
  rw [wB_nil]
  exact ⟨fun h => h.2, fun h => ⟨emp_ok ok.ord, h⟩⟩
theorem due_asc {bk : Bk} {st : Str} (ok : DOk bk st) : Asc (itsL bk) := asc_srt (words_nd ok.nd ok.tk)
theorem due_mem {bk : Bk} {st : Str} (ok : DOk bk st) {x : Lot} : x ∈ dueL bk st ↔ Minl (itsL bk) (ResP (ordB bk) st) x := by
  rw [show x ∈ dueL bk st ↔ x ∈ leastL (itsL bk) (ResP (ordB bk) st) from (srtG_perm _).mem_iff, least_mem (due_asc ok)]
theorem due_nd {bk : Bk} {st : Str} (ok : DOk bk st) : (dueL bk st).Nodup := (srtG_perm _).nodup_iff.mpr (least_nd (due_asc ok))
theorem due_nil {bk : Bk} {st : Str} (ok : DOk bk st) : dueL bk st = [[]] ↔ Viable (ordB bk) st := by
  constructor
  · intro e
    have : ([] : Lot) ∈ dueL bk st := by rw [e]; simp
    exact (res_nil ok).mp ((due_mem ok).mp this).2.1
  · intro h
    have hp := (res_nil ok).mpr h
    have hn : ([] : Lot) ∈ dueL bk st := (due_mem ok).mpr ⟨SubL.nil, hp, fun q _ _ hq => by
      cases q with
      | nil => rfl
      | cons a _ => cases hq a List.mem_cons_self⟩
    have all : ∀ x ∈ dueL bk st, x = [] := fun x hx => (((due_mem ok).mp hx).2.2 [] SubL.nil hp (fun _ h => by cases h)).symm
    have nd := due_nd ok (bk := bk) (st := st)
    cases e : dueL bk st with
    | nil => rw [e] at hn; cases hn
    | cons a t =>
      rw [e] at all nd
      have ea := all a List.mem_cons_self
      cases t with
      | nil => rw [ea]
      | cons b r =>
        have eb := all b (List.mem_cons_of_mem _ List.mem_cons_self)
        rw [ea, eb] at nd
        exact absurd List.mem_cons_self (List.nodup_cons.mp nd).1
/-- the program's rescues are the law's -/
theorem res_due {bk : Bk} {st : Str} (ok : DOk bk st) {ls : List Lot} (nd : ls.Nodup) (m : ∀ x, x ∈ ls ↔ Minl (srtG Pr (wordsB "says" (ordB bk))) (ResP (ordB bk) st) x) : srtG Lot ls = dueL bk st := by
  rw [srtP_congr (words_perm ok)] at m
  exact least_eq (due_asc ok) nd m
def spRR : Sp := fun vs H Q _ => ∃ (p : V) (W : Addr) (bk : Bk) (st : Str), vs = [p, .ref W] ∧ WorldAt H W bk st ∧ DOk bk st ∧ (wordsB "says" bk).length ≤ 6 ∧ ∀ H', Same H H' → Q (.bl true) H'
def tFil : TE := fun σ H Q => ∃ (v0 v1 v2 v3 v4 v6 v8 : Option V) (a : Addr) (z : V) (us : List V) (x : Lot) (it : Pr), σ = [v0, v1, v2, v3, v4, some (.ref a), v6, some z, v8] ∧ H a = some (.lst us) ∧ Ats H us x ∧ x.length ≤ 1000 ∧ Dt.At H z it ∧
  ∀ H' L ws, Same H H' → H' L = some (.lst ws) → Ats H' ws (x.filter fun o => !eqG o it) → Q (.ref L) H'
/-- the told lots spoiled, if there are any -/
def tMut : TS := fun D σ H => ∃ (Hb : Hp) (R : Addr) (ws : List V) (due : List Lot) (v0 v1 v2 v3 v5 v6 v7 v8 : Option V), σ = [v0, v1, v2, v3, some (.ref R), v5, v6, v7, v8] ∧ Same Hb H ∧ H R = some (.lst ws) ∧ Ats H ws due ∧ Frs Hb ws ∧ (∀ x ∈ due, x.length ≤ 1000) ∧
  ∀ H', Same Hb H' → H' R = some (.lst ws) → D.nx [v0, v1, v2, v3, some (.ref R), v5, v6, v7, v8] H'
section
variable {P : Program} {w : World} {K : PySem.W.Frag} {mg : Str → Option Value} {base : Heap} {C : Addr}
abbrev COwnR (P : Program) (w : World) (K : PySem.W.Frag) (mg : Str → Option Value) (base : Heap) := Cal P w K mg base "_law_own_rescues" 2 ["_law_world_here"] spOwnR
abbrev CRescues (P : Program) (w : World) (K : PySem.W.Frag) (mg : Str → Option Value) (base : Heap) (C : Addr) := Cal P w K mg base "rescues" 9 ["desk"] (spRescues C)
abbrev CDropD (P : Program) (w : World) (K : PySem.W.Frag) (mg : Str → Option Value) (base : Heap) (C : Addr) := Cal P w K mg base "dropped" 7 ["desk", "lot"] (spDropD C)
abbrev CHasP (P : Program) (w : World) (K : PySem.W.Frag) (mg : Str → Option Value) (base : Heap) (C : Addr) := Cal P w K mg base "has_partner" 8 ["desk"] (spHasP C)
abbrev CStays (P : Program) (w : World) (K : PySem.W.Frag) (mg : Str → Option Value) (base : Heap) (C : Addr) := Cal P w K mg base "_law_stays" 7 ["_law_world_here", "_law_desk_here"] (spStays C)
abbrev CTBook (P : Program) (w : World) (K : PySem.W.Frag) (mg : Str → Option Value) (base : Heap) (C : Addr) := Cal P w K mg base "_law_turned_book" 6 ["_law_world_here"] (spTBook C)
abbrev rrN : List Str := ["_law_purse_here", "_law_world_here", "_law_desk_here", "_law_due", "_law_told", "_law_lot", "_law_late", "_law_item", "_law_other"]
theorem scRr : FnScope rrN ["_law_purse_here", "_law_world_here"] (defScope sRR) := ⟨rfl, rfl, rfl, by decide +kernel, rfl, by decide +kernel, by decide +kernel⟩
theorem ok_rr {f : Addr} {fd : FuncData} (F : Fun K "_law_rescues_right" "_law_rescues_right" sRR f fd) (T : Free4 mg) (CLD : CLDesk P w K mg base C) (CO : COwnR P w K mg base) (CR : CRescues P w K mg base C) (CX : CExact P w K mg base 4) (CDR : CDropD P w K mg base C) (CH : CHasP P w K mg base C) (CST : CStays P w K mg base C) (CW : CWithout P w K mg base) (CTB : CTBook P w K mg base C) : FnOk P w K mg base CX0 10 f fd ["_law_purse_here", "_law_world_here"] spRR := by
  refine F.ok scRr (fun vs H Q E h => ?_) (fun cdv A outer s H vs Q E0' hr h => ?_)
  · obtain ⟨p, W, bk, st, rfl, _⟩ := h; rfl
  · obtain ⟨p, W, bk, st, rfl, hW0, o1, l6, k⟩ := h
    have hu := hu_of hr
    refine ⟨_, pss_cons (ps_par (i := 2) (j := 3) rfl scRr.nd rfl rfl (by decide) rfl rfl (pa_cons (pe_cal CLD (hr.mono (by decide)) rfl (pa_cons (pv 1) pa_nil)) (pa_cons (pe_cal CO (hr.mono (by decide)) rfl (pa_cons (pv 1) pa_nil)) pa_nil)) (by rfl))
      (pss_cons (ps_set (i := 4) scRr.nd rfl (Or.inl rfl) (pe_cal CR (hr.mono (by decide)) rfl (pa_cons (pv 2) pa_nil)))
      (pss_cons (ps_if (pt_not (pt_val (pe_cal CX (hr.mono (by decide)) rfl (pa_cons (pv 4) (pa_cons (pv 3) pa_nil))))) (pss_one (ps_ret pe_bl)) pss_nil)
      (pss_cons (ps_for PassesOwn.never rfl (pi_list (pv 3)) (pg_name (i := 5) scRr.nd rfl (Or.inl rfl))
        (pss_cons (ps_set (i := 6) scRr.nd rfl (Or.inl rfl) (pe_cal CDR (hr.mono (by decide)) rfl (pa_cons (pv 2) (pa_cons (pe_callTy call_list_of (by rfl) T.list (by decide +kernel) (pa_cons (pv 5) pa_nil)) pa_nil))))
        (pss_cons (ps_if (PW.pt (pw_or (pt_cmpR op_notBl (pe_cal CH (hr.mono (by decide)) rfl (pa_cons (pv 6) pa_nil)) pe_bl (by rfl)) (pw_or1 (pt_not (pt_val (pe_cal CST (hr.mono (by decide)) rfl (pa_cons (pe_cal CW (hr.mono (by decide)) rfl (pa_cons (pv 1) (pa_cons (pv 5) pa_nil))) (pa_cons (pv 6) pa_nil)))))))) (pss_one (ps_ret pe_bl)) pss_nil)
        (pss_one (ps_for PassesOwn.never rfl (pi_list (pv 5)) (pg_name (i := 7) scRr.nd rfl (Or.inr rfl))
          (pss_one (ps_if (pt_cmpR op_notBl (pe_cal CH (hr.mono (by decide)) rfl (pa_cons (pe_cal CDR (hr.mono (by decide)) rfl (pa_cons (pv 2) (pa_cons (pe_imp (t' := tFil) (pe_lc (own := [("_law_other", 8)]) (g := gName 8) (tt := tTest (tOp (Dq.rNe Pr) (tVar 8) (tVar 7))) (te := tVar 8) rfl scRr.nd (pi_list (pv 5))
              (blkOk_by (N := rrN) (sc := defScope sRR) (by decide +kernel)) (fun _ _ _ _ _ => pg_name (i := 8) scRr.nd rfl (Or.inl rfl)) (fun _ _ _ _ _ => pts_one (pt_cmpR (op_neG (α := Pr) (Room.u9 hr (n := PySem.W.Datum.depth Pr) (by decide))) (pv 8) (pv 7) (by rfl))) (fun _ _ _ _ _ => pv 8)) ?fil) pa_nil))) pa_nil)) pe_bl (by rfl)) (pss_one (ps_ret pe_bl)) pss_nil)))))))
      (pss_cons (ps_imp (t' := tMut) (ps_if (pt_cmpR (op_neG (α := List Lot) (Room.u9 hr (n := PySem.W.Datum.depth (List Lot)) (by decide))) (pv 4) (pe_lst pa_nil) (by rfl))
          (pss_one (ps_expr (pe_bm PySem.F.plainAttrs_list PySem.F.slot_list_append PySem.F.type_list_append mt_append (pe_ix ix_list (pv 4) pe_int (fun _ _ => rfl)) (pa_cons pe_non pa_nil)))) pss_nil) ?spoil)
      (pss_cons (ps_expr (pe_bm PySem.F.plainAttrs_list PySem.F.slot_list_append PySem.F.type_list_append mt_append (pv 4) (pa_cons (pe_lst pa_nil) pa_nil)))
      (pss_cons (ps_if (pt_not (pt_val (pe_cal CX (hr.mono (by decide)) rfl (pa_cons (pe_lst (pa_cons (pe_cal CR (hr.mono (by decide)) rfl (pa_cons (pv 2) pa_nil)) (pa_cons (pe_cal CR (hr.mono (by decide)) rfl (pa_cons (pe_cal CTB (hr.mono (by decide)) rfl (pa_cons (pv 1) pa_nil)) pa_nil)) pa_nil))) (pa_cons (pe_lst (pa_cons (pv 3) (pa_cons (pv 3) pa_nil))) pa_nil))))) (pss_one (ps_ret pe_bl)) pss_nil)
      (pss_one (ps_ret (pe_and (pe_cal CX (hr.mono (by decide)) rfl (pa_cons (pe_cal CH (hr.mono (by decide)) rfl (pa_cons (pv 2) pa_nil)) (pa_cons (pe_cmpR (Dq.op_eqG (α := List Lot) (Room.u9 hr (n := PySem.W.Datum.depth (List Lot)) (by decide))) (pv 3) (pe_lst (pa_cons (pe_lst pa_nil) pa_nil)) (by rfl)) pa_nil))) (pe_one (pe_cal CST (hr.mono (by decide)) rfl (pa_cons (pv 1) (pa_cons (pv 2) pa_nil))))))))))))), ?_⟩
    case fil =>
      rintro σ H Q ⟨v0, v1, v2, v3, v4, v6, v8, a, z, us, x, it, rfl, hL, hA, l, hz, q⟩
      have lu := hA.len
      refine ⟨_, rfl, a, rfl, ⟨_, SqL.of hL⟩, fun M hM => ?_⟩
      refine lc_list (K := K) (a := a) (xs := us) (fun j H' => Same H H' ∧ ∃ ws, H' M = some (.lst ws) ∧ Ats H ws ((x.take j).filter fun o => !eqG o it)) ⟨Same.new hM, [], upd_same, .nil⟩ (fun j H' _ z => SqL.of (z.1 _ _ hL)) ?_ ?_
      · rintro j v H1 hv ⟨sm, ws, hM1, hW⟩
        obtain ⟨o, ho, hvo⟩ := paired_get hA hv
        have lw : ws.length ≤ 1000 := by
          rw [hW.len]
          refine Nat.le_trans (List.length_filter_le _ _) ?_
          rw [List.length_take]; omega
        refine ⟨rfl, _, rfl, _, rfl, o, it, Dt.same sm hvo, Dt.same sm hz, _, rfl, ?_⟩
        cases c : eqG o it with
        | true => exact iteF ⟨sm, ws, hM1, by rw [filt_no ho (by rw [c]; rfl)]; exact hW⟩
        | false =>
          refine iteT ⟨_, rfl, ws, hM1, by rw [sizeLine_eq]; omega, fun c2 o e => ?_, ws ++ [v], by rw [upd_same], ?_⟩
          · rw [upd_ne (ne_of_none e hM)]; exact sm _ _ e
          · rw [filt_yes ho (by rw [c]; rfl)]
            exact paired_snoc hW hvo
      · rintro H1 ⟨sm, ws, hM1, hW⟩
        rw [lu, List.take_length] at hW
        exact q H1 M ws sm hM1 (hW.same sm)
    case spoil =>
      rintro Dn σ H ⟨Hb, R, ws, due, v0, v1, v2, v3, v5, v6, v7, v8, rfl, sb, hR, hA, fW, lx, k⟩
      refine ⟨_, rfl, Nat.zero_le _, fun N hN => ?_⟩
      have g := Same.new (o := .lst []) hN
      have eN : (L2.upd H N (.lst [])) N = some (.lst []) := upd_same
      generalize L2.upd H N (.lst []) = H1 at g eN
      have hR1 := g _ _ hR
      have hA1 := hA.same g
      have s1 := Same.trans sb g
      refine ⟨due, [], ⟨R, ws, rfl, hR1, hA1⟩, ⟨N, [], rfl, eN, .nil⟩, _, rfl, ?_⟩
      cases hA1 with
      | nil => exact iteF (k H1 s1 hR1)
      | @cons v x vs xs hv ht =>
        refine (if_pos (by unfold eqG; rw [decide_eq_false (fun e => by cases e)]; rfl)).mpr ?_
        obtain ⟨a, us, rfl, ha, hu2⟩ := id hv
        have na : Hb a = none := fW _ List.mem_cons_self a rfl
        have naR : R ≠ a := fun e => by
          rw [← e, hR1] at ha
          have e2 := HO.lst.inj (Option.some.inj ha)
          rw [← e2] at hu2
          cases hu2 with
          | cons h _ =>
            obtain ⟨z, ez, hz⟩ := h
            rw [← V.ref.inj ez, ← e, hR1] at hz; cases hz
        have lu : us.length ≤ 1000 := by rw [hu2.len]; exact lx x List.mem_cons_self
        refine ⟨_, rfl, R, _, _, _, rfl, rfl, SqL.of hR1, atI_nat (j := 0) rfl, .inl ⟨rfl, _, SqL.of ha⟩, a, us, .non, rfl, rfl, ha, by rw [sizeLine_eq]; omega, ?_⟩
        refine k _ (fun c u e => ?_) ?_
        · rw [upd_ne (ne_of_none e na)]; exact s1 _ _ e
        · rw [upd_ne naR]; exact hR1
    have asc := due_asc o1
    have lits : (itsL bk).length ≤ 6 := by rw [show (itsL bk).length = _ from (srtG_perm _).length_eq]; exact l6
    have l6o : (wordsB "says" (ordB bk)).length ≤ 6 := by rw [(words_perm o1).length_eq]; exact l6
    have inW : ∀ {x}, SubL (itsL bk) x → ∀ p ∈ x, p ∈ wordsB "says" bk := fun h p hp => (srtG_perm _).mem_iff.mp (h.2 p hp)
    have inO : ∀ {x}, SubL (itsL bk) x → ∀ p ∈ x, p ∈ wordsB "says" (ordB bk) := fun h p hp => (words_perm o1).mem_iff.mpr (inW h p hp)
    have lenX : ∀ {x}, SubL (itsL bk) x → x.length ≤ 6 := fun h => Nat.le_trans (sub_len asc h) lits
    have dm : ∀ x, x ∈ dueL bk st ↔ Minl (itsL bk) (ResP (ordB bk) st) x := fun x => due_mem o1
    have dl : (dueL bk st).length ≤ 64 := by
      rw [show (dueL bk st).length = _ from (srtG_perm _).length_eq]
      refine Nat.le_trans (List.length_filter_le _ _) (Nat.le_trans (List.length_filter_le _ _) ?_)
      rw [lotsR_len]
      exact Nat.le_trans (Nat.pow_le_pow_right (by decide) lits) (by decide)
    have dn := due_nil o1 (bk := bk) (st := st)
    have rd : ∀ {ls : List Lot}, ls.Nodup → (∀ x, x ∈ ls ↔ Minl (srtG Pr (wordsB "says" (ordB bk))) (ResP (ordB bk) st) x) → srtG Lot ls = dueL bk st := fun a b => res_due o1 a b
    have dx : ∀ x ∈ dueL bk st, x.length ≤ 6 := fun x hx => lenX ((dm x).mp hx).1
    refine ⟨_, rfl, W, bk, st, rfl, hW0, o1, fun H1 q s1 nq hq => ?_⟩
    refine ⟨_, rfl, W, bk, st, rfl, hW0.same s1, o1, l6, fun H2 R2 us s2 nR hR hA => ⟨_, _, rfl, ?_⟩⟩
    generalize dueL bk st = due at dm dl dn rd dx hA
    have lu := hA.len
    have hq2 := hq.same s2
    have hW2 := hW0.same (Same.trans s1 s2)
    have s02 := Same.trans s1 s2
    refine ⟨_, rfl, q, bk, st, rfl, hq2, o1, l6o, fun H3 R3 ws ls s3 nR3 hR3 hW3 fW lnd lm => ?_⟩
    rw [rd lnd lm] at hW3
    refine ⟨_, rfl, _, rfl, _, _, rfl, .inl (eqx_lots hR3 (s3 _ _ hR) hW3 (hA.same s3) (by omega) (fun x hx => Nat.le_trans (dx x hx) (by decide))), fun H4 s4 => ⟨_, rfl, iteF ?_⟩⟩
    have s24 := Same.trans s3 s4
    refine ⟨_, rfl, R2, rfl, ⟨_, SqL.of (s24 _ _ hR)⟩, ?_⟩
    refine for_list (K := K) (a := R2) (xs := us) (fun i σ H' => ∃ (v5 v6 v7 : Option V), σ = [some p, some (.ref W), some (.ref q), some (.ref R2), some (.ref R3), v5, v6, v7, none] ∧ Same H4 H')
      ⟨none, none, none, rfl, Same.refl _⟩ (fun i σ H' _ ⟨_, _, _, _, z⟩ => SqL.of (z _ _ (s24 _ _ hR))) ?_ ?_
    · rintro i v σ H5 hv ⟨v5, v6, v7, rfl, s5⟩
      obtain ⟨x, hx, hvx⟩ := paired_get hA hv
      obtain ⟨a, xs, rfl, ha, hax⟩ := id hvx
      have mx := (dm x).mp (List.mem_of_getElem? hx)
      have s25 := Same.trans s24 s5
      have okw := o1.ord.w (inO mx.1) mx.2.1.1
      have bad : badB (wB x bk) = false := ((res_iff o1 (inW mx.1)).mp mx.2.1).1
      have okwb := o1.w (inW mx.1) ((bad_iff o1 (inW mx.1)).mp bad)
      refine ⟨_, rfl, _, rfl, a, xs, rfl, .inl (SqL.of (s25 _ _ ha)), fun L hL => ?_⟩
      have g := Same.new (o := .lst xs) hL
      have eL : (L2.upd H5 L (.lst xs)) L = some (.lst xs) := upd_same
      generalize L2.upd H5 L (.lst xs) = H6 at g eL
      have s26 := Same.trans s25 g
      refine ⟨q, L, xs, bk, st, x, rfl, hq2.same s26, o1, eL, hax.same s26, mx.1.1, Nat.le_trans (lenX mx.1) (by decide), inO mx.1, mx.2.1.1, fun H7 q' s7 hq' => ?_⟩
      have s27 := Same.trans s26 s7
      have bt : ∀ {b : Bool}, (b = true ↔ Viable (ordB (wB x (ordB bk))) st) → b = true := fun h => h.mpr ((via_same (sameB_ord okw)).mpr mx.2.1.2)
      refine ⟨_, rfl, q', wB x (ordB bk), st, rfl, hq', okw, fun H8 b s8 hb => ?_⟩
      obtain rfl : b = true := bt hb
      refine ⟨true, true, rfl, rfl, _, rfl, (if_neg (by decide)).mpr ?_⟩
      have s28 := Same.trans s27 s8
      refine ⟨_, rfl, _, rfl, W, a, bk, st, xs, x, rfl, hW2.same s28, o1, s28 _ _ ha, hax.same s28, fun H9 R9 s9 hR9 => ?_⟩
      rw [bad, if_neg (by decide)]
      have s29 := Same.trans s28 s9
      refine ⟨_, rfl, R9, q', wB x bk, wB x (ordB bk), st, rfl, hR9 bad, okwb, hq'.same (Same.trans s8 s9), okw, ord_w o1, fun H10 s10 => ⟨_, rfl, iteF ?_⟩⟩
      have s210 := Same.trans s29 s10
      refine ⟨_, rfl, a, rfl, ⟨_, SqL.of (s210 _ _ ha)⟩, ?_⟩
      refine for_list (K := K) (a := a) (xs := xs) (fun j σ H' => ∃ (v7 : Option V), σ = [some p, some (.ref W), some (.ref q), some (.ref R2), some (.ref R3), some (.ref a), some (.ref q'), v7, none] ∧ Same H10 H')
        ⟨v7, rfl, Same.refl _⟩ (fun j σ H' _ ⟨_, _, z⟩ => SqL.of (z _ _ (s210 _ _ ha))) ?_ ?_
      · rintro j z σ H11 hz ⟨w7, rfl, s11⟩
        obtain ⟨it, hit, hzt⟩ := paired_get hax hz
        have s211 := Same.trans s210 s11
        have itm := List.mem_of_getElem? hit
        have sub : ∀ y ∈ x.filter (fun o => !eqG o it), y ∈ x := fun y hy => (List.mem_filter.mp hy).1
        have sq : SubL (itsL bk) (x.filter fun o => !eqG o it) := ⟨mx.1.1.sublist List.filter_sublist, fun y hy => mx.1.2 y (sub y hy)⟩
        have em := emp_mono sub mx.2.1.1
        have okq := o1.ord.w (inO sq) em
        refine ⟨_, rfl, _, _, _, _, _, _, _, a, z, xs, x, it, rfl, s211 _ _ ha, hax.same s211, Nat.le_trans (lenX mx.1) (by decide), Dt.same s211 hzt, fun H12 L2' ws2 s12 hL2 hWs => ?_⟩
        have s212 := Same.trans s211 s12
        refine ⟨q, L2', ws2, bk, st, _, rfl, hq2.same s212, o1, hL2, hWs, sq.1, Nat.le_trans (lenX sq) (by decide), inO sq, em, fun H13 q3 s13 hq3 => ?_⟩
        refine ⟨q3, _, st, rfl, hq3, okq, fun H14 b s14 hb => ?_⟩
        have bf : b = false := by
          cases b with
          | false => rfl
          | true =>
            have hv := (via_same (sameB_ord okq)).mp (hb.mp rfl)
            have e := mx.2.2 _ sq ⟨em, hv⟩ sub
            rw [← e] at itm
            have := (List.mem_filter.mp itm).2
            unfold eqG at this
            rw [decide_eq_true rfl] at this; cases this
        subst bf
        exact ⟨false, false, rfl, rfl, _, rfl, (if_neg (by decide)).mpr ⟨some z, rfl, Same.trans s11 (Same.trans s12 (Same.trans s13 s14))⟩⟩
      · rintro σ H11 ⟨w7, rfl, s11⟩
        exact ⟨some (.ref a), some (.ref q'), w7, rfl, Same.trans s5 (Same.trans g (Same.trans s7 (Same.trans s8 (Same.trans s9 (Same.trans s10 s11)))))⟩
    rintro σ H5 ⟨v5, v6, v7, rfl, s5⟩
    have s25 := Same.trans s24 s5
    have s35 := Same.trans s4 s5
    refine ⟨H2, R3, ws, due, _, _, _, _, v5, v6, v7, none, rfl, s25, s35 _ _ hR3, hW3.same s35, fW, fun x hx => Nat.le_trans (dx x hx) (by decide), fun H6 s26 hR6 => ?_⟩
    have lw : ws.length ≤ 64 := by rw [hW3.len]; exact dl
    refine ⟨_, rfl, .inl ⟨rfl, _, SqL.of hR6⟩, Nat.zero_le _, fun N hN => ?_⟩
    have gN := Same.new (o := .lst []) hN
    refine ⟨R3, ws, .ref N, rfl, rfl, gN _ _ hR6, by rw [sizeLine_eq]; omega, ?_⟩
    have s27 : Same H2 (L2.upd (L2.upd H6 N (.lst [])) R3 (.lst (ws ++ [.ref N]))) := fun c u e => by
      rw [upd_ne (ne_of_none e nR3)]; exact gN _ _ (s26 _ _ e)
    generalize L2.upd (L2.upd H6 N (.lst [])) R3 (.lst (ws ++ [.ref N])) = H7 at s27
    refine ⟨_, rfl, q, bk, st, rfl, hq2.same s27, o1, l6o, fun H8 R8 ws8 ls8 s8 n8 hR8 hW8 _ nd8 m8 => ?_⟩
    rw [rd nd8 m8] at hW8
    have s28 := Same.trans s27 s8
    refine ⟨_, rfl, W, bk, st, rfl, hW2.same s28, o1, fun H9 q9 s9 hq9 => ?_⟩
    have o9 := o1.revB
    refine ⟨q9, revB bk, st, rfl, hq9, o9, by rw [ordB_revB o1]; exact l6o, fun H10 R10 ws10 ls10 s10 n10 hR10 hW10 _ nd10 m10 => ?_⟩
    rw [ordB_revB o1] at m10
    rw [rd nd10 m10] at hW10
    have s810 := Same.trans s9 s10
    have s210 := Same.trans s28 s810
    refine ⟨by show 2 ≤ sizeLine; decide, fun L1 hL1 => ?_⟩
    have g11 := Same.new (o := .lst [.ref R8, .ref R10]) hL1
    have e11 : (L2.upd H10 L1 (.lst [.ref R8, .ref R10])) L1 = some (.lst [.ref R8, .ref R10]) := upd_same
    generalize L2.upd H10 L1 (.lst [.ref R8, .ref R10]) = H11 at g11 e11
    refine ⟨_, rfl, _, rfl, by show 2 ≤ sizeLine; decide, fun L3 hL3 => ?_⟩
    have g12 := Same.new (o := .lst [.ref R2, .ref R2]) hL3
    have e12 : (L2.upd H11 L3 (.lst [.ref R2, .ref R2])) L3 = some (.lst [.ref R2, .ref R2]) := upd_same
    generalize L2.upd H11 L3 (.lst [.ref R2, .ref R2]) = H12 at g12 e12
    have s1012 := Same.trans g11 g12
    have s812 := Same.trans s810 s1012
    have s212 := Same.trans s28 s812
    have lx4 : ∀ x ∈ due, x.length ≤ 10000 := fun x hx => Nat.le_trans (dx x hx) (by decide)
    have e1 := eqx_lots (s812 _ _ hR8) (s212 _ _ hR) (hW8.same s812) (hA.same s212) (by omega) lx4
    have e2 := eqx_lots (s1012 _ _ hR10) (s212 _ _ hR) (hW10.same s1012) (hA.same s212) (by omega) lx4
    refine ⟨_, _, rfl, .inr (.inl ⟨L1, L3, _, _, rfl, rfl, g12 _ _ e11, e12, by show 2 ≤ 10000; decide, .cons e1 (.cons e2 .nil)⟩), fun H13 s13 => ⟨_, rfl, iteF ?_⟩⟩
    have s213 := Same.trans s212 s13
    refine ⟨_, rfl, q, bk, st, rfl, hq2.same s213, o1, fun H14 b s14 hb => ?_⟩
    have s214 := Same.trans s213 s14
    refine ⟨_, rfl, Nat.zero_le _, fun E hE => ⟨by show 1 ≤ sizeLine; decide, fun L5 hL5 => ?_⟩⟩
    have gE := Same.new (o := .lst []) hE
    have eE : (L2.upd H14 E (.lst [])) E = some (.lst []) := upd_same
    generalize L2.upd H14 E (.lst []) = H15 at gE eE hL5
    have gL := Same.new (o := .lst [.ref E]) hL5
    have eL : (L2.upd H15 L5 (.lst [.ref E])) L5 = some (.lst [.ref E]) := upd_same
    generalize L2.upd H15 L5 (.lst [.ref E]) = H16 at gL eL
    have s216 := Same.trans s214 (Same.trans gE gL)
    refine ⟨due, [[]], ⟨R2, us, rfl, s216 _ _ hR, hA.same s216⟩, ⟨L5, [.ref E], rfl, eL, .cons ⟨E, [], rfl, gL _ _ eE, .nil⟩ .nil⟩, ?_⟩
    have eb : b = eqG due [[]] := Bool.eq_iff_iff.mpr (hb.trans (dn.symm.trans eqG_iff.symm))
    refine ⟨.bl b, .bl (eqG due [[]]), rfl, by rw [← eb]; exact bl_eqx b, fun H17 s17 => ⟨_, rfl, iteT ?_⟩⟩
    have s217 := Same.trans s216 s17
    refine ⟨_, rfl, _, rfl, W, q, bk, bk, st, rfl, hW2.same s217, o1, hq2.same s217, o1, rfl, fun H18 s18 => ?_⟩
    exact k H18 (Same.trans s02 (Same.trans s217 s18))
end
end D1
end L2
namespace L2
namespace D1
open PySem PySem.Spec PyProof.Rows D2 X5 X6 X7 Kt Dq
abbrev sLaw : Stmt := top 72
def spLaw (K : PySem.W.Frag) : Sp := fun vs H Q _ => ∃ (a : Addr) (ns : List Int), vs = [.ref a] ∧ SqL K H a (ns.map V.int) ∧ ns.length ≤ 63 ∧ ∀ H', Q (.bl true) H'
section
variable {P : Program} {w : World} {K : PySem.W.Frag} {mg : Str → Option Value} {base : Heap} {C : Addr}
abbrev CPurses (P : Program) (w : World) (K : PySem.W.Frag) (mg : Str → Option Value) (base : Heap) := Cal P w K mg base "_law_purses" 2 ["_law_script", "_law_few"] (spPurses K)
abbrev CRR (P : Program) (w : World) (K : PySem.W.Frag) (mg : Str → Option Value) (base : Heap) := Cal P w K mg base "_law_rescues_right" 10 ["_law_purse_here", "_law_world_here"] spRR
abbrev lwN : List Str := ["_law_script", "_law_purse_here", "_law_world_here"]
theorem scLw : FnScope lwN ["_law_script"] (defScope sLaw) := ⟨rfl, rfl, rfl, by decide +kernel, rfl, by decide +kernel, by decide +kernel⟩
theorem ok_law {f : Addr} {fd : FuncData} (F : Fun K "law" "law" sLaw f fd) (T : Free4 mg) (CPu : CPurses P w K mg base) (CO : CRow P w K mg base) (CS : CSaidW P w K mg base) (CR : CRR P w K mg base) : FnOk P w K mg base CX0 11 f fd ["_law_script"] (spLaw K) := by
  refine F.ok scLw (fun vs H Q E h => ?_) (fun cdv A outer s H vs Q E0' hr h => ?_)
  · obtain ⟨a, ns, rfl, _⟩ := h; rfl
  · obtain ⟨a, ns, rfl, hS, l63, k⟩ := h
    have hu := hu_of hr
    refine ⟨_, pss_cons (ps_for PassesOwn.never rfl (pi_list (pe_cal CPu (hr.mono (by decide)) rfl (pa_cons (pv 0) (pa_cons pe_int pa_nil)))) (pg_name (i := 1) scLw.nd rfl (Or.inl rfl))
        (pss_cons (ps_set (i := 2) scLw.nd rfl (Or.inl rfl) (pe_ix ix_list (pe_cal CO (hr.mono (by decide)) rfl (pa_cons (pv 1) (pa_cons pe_int pa_nil))) pe_int (fun _ _ => rfl)))
        (pss_one (ps_if (PW.pt (pw_and (pt_cmpR op_lt (pe_callB call_len_seq (by rfl) T.len PySem.boot_len (pa_cons (pe_cal CS (hr.mono (by decide)) rfl (pa_cons (pv 2) pa_nil)) pa_nil)) pe_int (nomark _)) (pw_and1 (pt_not (pt_val (pe_cal CR (hr.mono (by decide)) rfl (pa_cons (pv 1) (pa_cons (pv 2) pa_nil)))))))) (pss_one (ps_ret pe_bl)) pss_nil))))
      (pss_one (ps_ret pe_bl)), ?_⟩
    refine ⟨_, rfl, a, ns, 4, rfl, hS, l63, by decide, by decide, fun H1 L ps s1 hL0 hL al nd nL lp => ?_⟩
    refine ⟨L, rfl, ⟨_, SqL.of hL⟩, ?_⟩
    refine for_list (K := K) (a := L) (xs := ps.map V.ref) (fun i σ H' => ∃ v1 v2 : Option V, σ = [some (.ref a), v1, v2] ∧ H' L = some (.lst (ps.map V.ref)) ∧ ∀ j p, i ≤ j → ps[j]? = some p → Purse H' p 0)
      ⟨none, none, rfl, hL, fun j p _ e => (al p (List.mem_of_getElem? e)).2⟩ (fun i σ H' _ ⟨_, _, _, z, _⟩ => SqL.of z) ?_ ?_
    · rintro i x σ H2 hx ⟨v1, v2, rfl, hL2, hpp⟩
      obtain ⟨p, ep, rfl⟩ := D1.get_map hx
      have hpi := hpp i p (Nat.le_refl _) ep
      have nLp : L ≠ p := fun h => nL (h ▸ List.mem_of_getElem? ep)
      have fin : ∀ Hf, But p H2 Hf → Hf L = some (.lst (ps.map V.ref)) ∧ ∀ j q, i + 1 ≤ j → ps[j]? = some q → Purse Hf q 0 := fun Hf b => by
        refine ⟨b _ _ nLp hL2, fun j q hj e => ?_⟩
        have nqp : q ≠ p := fun z => by
          have lj := (List.getElem?_eq_some_iff.mp e).1
          have := (List.getElem?_inj (show i < ps.length from (List.getElem?_eq_some_iff.mp ep).1) nd).mp (ep.trans (z ▸ e.symm))
          omega
        obtain ⟨g, b', z, e1, r⟩ := hpp j q (by omega) e
        exact ⟨g, b', z, b _ _ nqp e1, r⟩
      clear hpp
      refine ⟨_, rfl, p, 6, 0, rfl, hpi, by decide, by decide, by decide, fun H3 R bk st ws t3 b3 ⟨W, Lw, hR, hW, hLw⟩ wf wok hp3 tt3 => ?_⟩
      have ok := wf.dok wok
      have hW3 := hW.same cut_le
      refine ⟨R, _, _, _, rfl, rfl, SqL.of (cut_le _ _ hR), atI_nat (j := 0) rfl, ?_⟩
      refine ⟨_, rfl, W, bk, st, rfl, hW3, ok, fun H4 S us s4 nS hS4 hA => ?_⟩
      have lu : us.length = (wordsB "says" bk).length := by rw [hA.len]; exact (srtG_perm _).length_eq
      refine ⟨S, us, rfl, .inl (SqL.of hS4), ?_⟩
      refine ⟨_, 7, rfl, rfl, _, rfl, ?_⟩
      have b4 := b3.trans (But.of s4)
      by_cases c : (wordsB "says" bk).length ≤ 6
      · refine (if_pos (decide_eq_true (by rw [lu]; omega))).mpr ?_
        refine ⟨_, rfl, _, rfl, _, W, bk, st, rfl, hW3.same s4, ok, c, fun H5 s5 => ⟨_, rfl, iteF ?_⟩⟩
        obtain ⟨f1, f2⟩ := fin H5 (b4.trans (But.of s5))
        exact ⟨_, _, rfl, f1, f2⟩
      · refine (if_neg (by rw [decide_eq_false (by rw [lu]; omega)]; decide)).mpr ?_
        obtain ⟨f1, f2⟩ := fin H4 b4
        exact iteF ⟨_, _, rfl, f1, f2⟩
    · rintro σ H2 ⟨v1, v2, rfl, _⟩
      exact k H2
end
end D1
end L2
namespace L2
namespace D1
open PySem PySem.Spec PyProof.Rows D2 X5 X6 X7 Kt Dq
section
variable {K : PySem.W.Frag} {h : Heap} {mg : Str → Option Value}
/-- a def of the text -/
def RowF (K : PySem.W.Frag) (mg : Str → Option Value) (x : Str) (st : Stmt) : Prop := ∃ f fd, mg x = some (.ref f) ∧ Fun K x x st f fd
theorem rowF (X : K.In h) (G : h.Ns mainGlobals mg) {x : Str} {st : Stmt} {f : Addr} {oc kV doc pm cdv ct : Value} {od an : Option Addr} {osl : Array (Option Value)} (a : PySem.W.nsIn K mainGlobals x = some (some (.ref f)))
    (l : K.lookup f = some ⟨oc, od, .func (PySem.W.fnOf x x (defArgs st) (defBody st) (defScope st) .none kV doc pm an cdv ct), osl⟩) (c : PySem.W.codeIn K cdv x = true) (k : PySem.W.keepIn K (.ref f) = true) : RowF K mg x st :=
  ⟨f, _, PySem.W.mg_of X G a, fun_mk l c k⟩
/-- a method of the class at C -/
def RowM (K : PySem.W.Frag) (C : Addr) (m q : Str) (st : Stmt) : Prop := ∃ f fd, PySem.W.findIn K (.ref C) m = some (some (.ref f)) ∧ PySem.W.isFn K (.ref f) = true ∧ Fun K m q st f fd
theorem rowM (_ : K.In h) {C : Addr} {m q : Str} {st : Stmt} {f : Addr} {oc kV doc pm cdv ct : Value} {od an : Option Addr} {osl : Array (Option Value)} (a : PySem.W.findIn K (.ref C) m = some (some (.ref f))) (i : PySem.W.isFn K (.ref f) = true)
    (l : K.lookup f = some ⟨oc, od, .func (PySem.W.fnOf m q (defArgs st) (defBody st) (defScope st) .none kV doc pm an cdv ct), osl⟩) (c : PySem.W.codeIn K cdv q = true) (k : PySem.W.keepIn K (.ref f) = true) : RowM K C m q st :=
  ⟨f, _, a, i, fun_mk l c k⟩
/-- the class Desk -/
structure DeskRow (K : PySem.W.Frag) (mg : Str → Option Value) (C : Addr) : Prop where
  txt : DTxt K mg C
  ins : C8.InsC K C
  mkD : PySem.W.makesIn K C = true
  kp : PySem.W.keepIn K (.ref C) = true
  m0 : RowM K C "__init__" "Desk.__init__" sDInit
  m1 : RowM K C "__eq__" "Desk.__eq__" sDEq
  m2 : RowM K C "book" "Desk.book" sDBook
  m3 : RowM K C "start" "Desk.start" sDStart
theorem deskRow (X : K.In h) (G : h.Ns mainGlobals mg) {C : Addr} (aC : PySem.W.nsIn K mainGlobals "Desk" = some (some (.ref C)))
    (pg : PySem.W.plainGet K C Str.empty = true) (hd : PySem.W.hasDictIn K C = true) (po : PySem.W.plainOver K C = true) (sa : PySem.W.findIn K (.ref C) "__setattr__" = some (some (.builtin "object.__setattr__")))
    (nB : PySem.W.findIn K (.ref C) "_book" = some none) (nS : PySem.W.findIn K (.ref C) "_start" = some none)
    (ca : PySem.W.findIn K (.ref C) "__class__" = some (some (.builtin "object.__class__"))) (gs : PySem.W.specialIn K (.builtin "object.__class__") "__get__" = some (some (.builtin "getset_descriptor.__get__"))) (ss : PySem.W.takesIn K (.builtin "object.__class__") = some true)
    (mo : PySem.W.mroIn K C (.type "object") = some true) (mk : PySem.W.makesIn K C = true) (kp : PySem.W.keepIn K (.ref C) = true)
    (m0 : RowM K C "__init__" "Desk.__init__" sDInit) (m1 : RowM K C "__eq__" "Desk.__eq__" sDEq) (m2 : RowM K C "book" "Desk.book" sDBook) (m3 : RowM K C "start" "Desk.start" sDStart) : ∃ C, DeskRow K mg C :=
  ⟨C, ⟨⟨pg, hd, po, sa⟩, nB, nS, PySem.W.mg_of X G aC⟩, ⟨⟨pg, hd, po, sa⟩, ca, gs, ss, mo, by unfold PySem.W.kitOne; rw [if_pos (beq_self_eq_true _)]⟩, mk, kp, m0, m1, m2, m3⟩
theorem bind1 {x : Str} {st : Stmt} {f : Addr} {fd : FuncData} {a : Str} (F : Fun K x x st f fd) (e : ∀ (kV doc pm : Value) (an : Option Addr) (cdv ct u : Value), bindArgs (PySem.W.fnOf x x (defArgs st) (defBody st) (defScope st) .none kV doc pm an cdv ct) ⟨[u], []⟩ = pure [(a, u)]) (s : Shared) (u : Value) : BindsTo s fd ⟨[u], []⟩ [(a, u)] := by
  obtain ⟨oc, od, kV, doc, pm, an, cdv, ct, osl, rfl, lk, hcd⟩ := F.ex
  exact .of_eq (e kV doc pm an cdv ct u)
theorem eq_obj : typeLookup (.type "object") (Str.ofString "__eq__") = pure (some (.builtin "object.__eq__")) := by rw [typeLookup_type, builtinLookup_eq_fast]; kernel_rfl
/-- the keys are texts -/
def KStr : List DictEntry → Prop
  | [] => True
  | e :: r => (∃ x t, e.key = .str x t) ∧ KStr r
theorem KStr.all : ∀ {l : List DictEntry}, KStr l → ∀ e ∈ l, ∃ x t, e.key = .str x t
  | _ :: _, ⟨h, _⟩, _, .head _ => h
  | _ :: _, ⟨_, r⟩, _, .tail _ m => r.all _ m
/-- the class has an own == and no own != -/
theorem neF_mk {C f N : Addr} {nm q0 : Str} {bs : List Value} {hdct : Bool} {sn : List Str} {sub : List Value} {ab : Bool} {col : Option Bool} {dd : Option Addr} {k0 k1 k2 k3 k5 : Option Value} {newId : String} {oN oc : Value} {dN od : Option Addr} {es : Array DictEntry} {n : Nat} {sN osl : Array (Option Value)} {dt : Data}
    (l : K.lookup C = some (excClassObj nm q0 C N bs [.type "object"] hdct sn sub ab col dd k0 k1 k2 k3 k5 newId)) (lN : K.lookup N = some ⟨oN, dN, .dict es n, sN⟩) (hk : KStr es.toList)
    (e1 : PySem.W.nsIn K N "__eq__" = some (some (.ref f))) (e2 : PySem.W.nsIn K N "__ne__" = some none) (lI : K.lookup f = some ⟨oc, od, dt, osl⟩) (tI : oc = .type "function") : NeF K C f := by
  refine ⟨fun h x o X hx hc => ?_⟩
  have hN : h.Ns N (fun n => nsFind es n) := ⟨_, es, n, X _ _ lN, rfl, fun e he => hk.all e (Array.mem_toList_iff.mpr he), fun _ => rfl⟩
  refine ⟨o, _, nm, q0, N, bs, hdct, sn, sub, ab, col, dd, k0, k1, k2, k3, k5, newId, _, some (.builtin "object.__eq__"), hx, hc, X _ _ l, hN, ?_, X _ _ lI, tI, PySem.F.mro_object, eq_obj, PySem.W.ns_none_of X hN e2⟩
  unfold PySem.W.nsIn at e1
  rw [lN] at e1
  dsimp only at e1
  split at e1
  · rename_i en he
    show nsFind es _ = _
    unfold nsFind findBy
    rw [← Array.find?_toList, he]
    exact Option.some.inj e1
  · split at e1 <;> cases e1
theorem neRow (X : K.In h) (G : h.Ns mainGlobals mg) {C f N : Addr} {nm q0 : Str} {bs : List Value} {hdct : Bool} {sn : List Str} {sub : List Value} {ab : Bool} {col : Option Bool} {dd : Option Addr} {k0 k1 k2 k3 k5 : Option Value} {newId : String} {oN oc : Value} {dN od : Option Addr} {es : Array DictEntry} {n : Nat} {sN osl : Array (Option Value)} {dt : Data}
    (aC : PySem.W.nsIn K mainGlobals "Desk" = some (some (.ref C))) (a1 : PySem.W.findIn K (.ref C) "__eq__" = some (some (.ref f)))
    (l : K.lookup C = some (excClassObj nm q0 C N bs [.type "object"] hdct sn sub ab col dd k0 k1 k2 k3 k5 newId)) (lN : K.lookup N = some ⟨oN, dN, .dict es n, sN⟩) (hk : KStr es.toList)
    (e1 : PySem.W.nsIn K N "__eq__" = some (some (.ref f))) (e2 : PySem.W.nsIn K N "__ne__" = some none) (lI : K.lookup f = some ⟨oc, od, dt, osl⟩) (tI : oc = .type "function") : ∀ C2 f2, mg "Desk" = some (.ref C2) → PySem.W.findIn K (.ref C2) "__eq__" = some (some (.ref f2)) → NeF K C2 f2 := by
  intro C2 f2 h1 h2
  have h3 := PySem.W.mg_of X G aC
  rw [h1] at h3
  cases h3
  rw [a1] at h2
  cases h2
  exact neF_mk l lN hk e1 e2 lI tI
theorem asRow {w : World} (X : K.In h) (G : h.Ns mainGlobals mg) {d : Addr} {es : Array DictEntry} {n : Nat} {t1 t2 t3 : Tok} (aT : PySem.W.nsIn K mainGlobals "ASKS" = some (some (.ref d))) (l : K.lookup d = some ⟨.type "dict", none, .dict es n, #[]⟩)
    (lit : PySem.W.KeysLit w.params es.toList) (low : (d == sysModules) = false) (u1 : PySem.W.nsIn K d "done" = some (some (.str "always" t1))) (u2 : PySem.W.nsIn K d "says" = some (some (.str "nearer" t2))) (u3 : PySem.W.nsIn K d "hears" = some (some (.str "some" t3))) : AsT K w mg :=
  ⟨d, es, n, t1, t2, t3, PySem.W.mg_of X G aT, ⟨l, lit, low⟩, u1, u2, u3⟩
theorem law_of {P : Program} {w : World} {fa : Addr} (hfa : mg "law" = some (.ref fa)) (T4 : Free4 mg) (UA : AsT K w mg) (dr : ∃ C, DeskRow K mg C) (nf : ∀ C f, mg "Desk" = some (.ref C) → PySem.W.findIn K (.ref C) "__eq__" = some (some (.ref f)) → NeF K C f)
    (r_is_name : RowF K mg "is_name" sIsName)
    (r_is_row : RowF K mg "is_row" sIsRow)
    (r_is_state_of : RowF K mg "is_state_of" sIsState)
    (r_is_ascending : RowF K mg "is_ascending" sAsc)
    (r_nodes_before : RowF K mg "nodes_before" sBefore)
    (r_words_to : RowF K mg "words_to" sWordsTo)
    (r_is_book : RowF K mg "is_book" sIsBook)
    (r_ordered_turns : RowF K mg "ordered_turns" sOrdT)
    (r_ordered_book : RowF K mg "ordered_book" sOrdB)
    (r_need_desk : RowF K mg "need_desk" sNeed)
    (r_words_at : RowF K mg "words_at" sWordsAt)
    (r_book_without : RowF K mg "book_without" sBookW)
    (r_row_without : RowF K mg "row_without" sRowW)
    (r_least_parts : RowF K mg "least_parts" sLeast)
    (r_holds : RowF K mg "holds" sHolds)
    (r_parted : RowF K mg "parted" Gs.sParted)
    (r_rests_at_first : RowF K mg "rests_at_first" Gs.sFirst)
    (r_let_rest : RowF K mg "let_rest" Gs.sLet)
    (r_going_then : RowF K mg "going_then" Gs.sGoing)
    (r_dropped_by : RowF K mg "dropped_by" Gs.sDropped)
    (r_resting_on : RowF K mg "resting_on" Gs.sResting)
    (r_ranks_of : RowF K mg "ranks_of" Gs.sRanks)
    (r_viability : RowF K mg "viability" sViab)
    (r_viable_ranks : RowF K mg "viable_ranks" sVRanks)
    (r_has_partner : RowF K mg "has_partner" sHasP)
    (r_desk_rank : RowF K mg "desk_rank" sRank)
    (r_rescues : RowF K mg "rescues" sRescues)
    (r_rescues_without : RowF K mg "rescues_without" sResW)
    (r_is_word_at : RowF K mg "is_word_at" sIsWA)
    (r_desk_without : RowF K mg "desk_without" sDeskW)
    (r_dropped : RowF K mg "dropped" sDropped2)
    (r__law_purse : RowF K mg "_law_purse" sPurse)
    (r__law_mixed : RowF K mg "_law_mixed" sMixed)
    (r__law_draw : RowF K mg "_law_draw" sDraw)
    (r__law_purses : RowF K mg "_law_purses" sPurses)
    (r__law_one_of : RowF K mg "_law_one_of" sOneOf)
    (r__law_shuffled : RowF K mg "_law_shuffled" sShuf)
    (r__law_exact : RowF K mg "_law_exact" sExact)
    (r__law_word : RowF K mg "_law_word" sWord)
    (r__law_words : RowF K mg "_law_words" sWords)
    (r__law_pool : RowF K mg "_law_pool" sPool)
    (r__law_turns : RowF K mg "_law_turns" sTurns)
    (r__law_world : RowF K mg "_law_world" sWorld)
    (r__law_shape : RowF K mg "_law_shape" sShape)
    (r__law_desk : RowF K mg "_law_desk" sLDesk)
    (r__law_viable : RowF K mg "_law_viable" sViable)
    (r__law_row_of : RowF K mg "_law_row_of" sRowOf)
    (r__law_turned_book : RowF K mg "_law_turned_book" sTBook)
    (r__law_stays : RowF K mg "_law_stays" sStays)
    (r__law_said_words : RowF K mg "_law_said_words" sSaidW)
    (r__law_without : RowF K mg "_law_without" sWithout)
    (r__law_own_rescues : RowF K mg "_law_own_rescues" sOwnR)
    (r__law_rescues_right : RowF K mg "_law_rescues_right" sRR)
    (r_law : RowF K mg "law" sLaw)
    : ∃ fd : FuncData, (∀ (s : Shared) (u : Value), BindsTo s fd ⟨[u], []⟩ [("_law_script", u)]) ∧ ∀ base : Heap, K.In base → base.Ns mainGlobals mg → FnOk P w K mg base CX0 11 fa fd ["_law_script"] (spLaw K) := by
  obtain ⟨C, R⟩ := dr
  obtain ⟨f_is_name, d_is_name, g_is_name, F_is_name⟩ := r_is_name
  obtain ⟨f_is_row, d_is_row, g_is_row, F_is_row⟩ := r_is_row
  obtain ⟨f_is_state_of, d_is_state_of, g_is_state_of, F_is_state_of⟩ := r_is_state_of
  obtain ⟨f_is_ascending, d_is_ascending, g_is_ascending, F_is_ascending⟩ := r_is_ascending
  obtain ⟨f_nodes_before, d_nodes_before, g_nodes_before, F_nodes_before⟩ := r_nodes_before
  obtain ⟨f_words_to, d_words_to, g_words_to, F_words_to⟩ := r_words_to
  obtain ⟨f_is_book, d_is_book, g_is_book, F_is_book⟩ := r_is_book
  obtain ⟨f_ordered_turns, d_ordered_turns, g_ordered_turns, F_ordered_turns⟩ := r_ordered_turns
  obtain ⟨f_ordered_book, d_ordered_book, g_ordered_book, F_ordered_book⟩ := r_ordered_book
  obtain ⟨f_need_desk, d_need_desk, g_need_desk, F_need_desk⟩ := r_need_desk
  obtain ⟨f_words_at, d_words_at, g_words_at, F_words_at⟩ := r_words_at
  obtain ⟨f_book_without, d_book_without, g_book_without, F_book_without⟩ := r_book_without
  obtain ⟨f_row_without, d_row_without, g_row_without, F_row_without⟩ := r_row_without
  obtain ⟨f_least_parts, d_least_parts, g_least_parts, F_least_parts⟩ := r_least_parts
  obtain ⟨f_holds, d_holds, g_holds, F_holds⟩ := r_holds
  obtain ⟨f_parted, d_parted, g_parted, F_parted⟩ := r_parted
  obtain ⟨f_rests_at_first, d_rests_at_first, g_rests_at_first, F_rests_at_first⟩ := r_rests_at_first
  obtain ⟨f_let_rest, d_let_rest, g_let_rest, F_let_rest⟩ := r_let_rest
  obtain ⟨f_going_then, d_going_then, g_going_then, F_going_then⟩ := r_going_then
  obtain ⟨f_dropped_by, d_dropped_by, g_dropped_by, F_dropped_by⟩ := r_dropped_by
  obtain ⟨f_resting_on, d_resting_on, g_resting_on, F_resting_on⟩ := r_resting_on
  obtain ⟨f_ranks_of, d_ranks_of, g_ranks_of, F_ranks_of⟩ := r_ranks_of
  obtain ⟨f_viability, d_viability, g_viability, F_viability⟩ := r_viability
  obtain ⟨f_viable_ranks, d_viable_ranks, g_viable_ranks, F_viable_ranks⟩ := r_viable_ranks
  obtain ⟨f_has_partner, d_has_partner, g_has_partner, F_has_partner⟩ := r_has_partner
  obtain ⟨f_desk_rank, d_desk_rank, g_desk_rank, F_desk_rank⟩ := r_desk_rank
  obtain ⟨f_rescues, d_rescues, g_rescues, F_rescues⟩ := r_rescues
  obtain ⟨f_rescues_without, d_rescues_without, g_rescues_without, F_rescues_without⟩ := r_rescues_without
  obtain ⟨f_is_word_at, d_is_word_at, g_is_word_at, F_is_word_at⟩ := r_is_word_at
  obtain ⟨f_desk_without, d_desk_without, g_desk_without, F_desk_without⟩ := r_desk_without
  obtain ⟨f_dropped, d_dropped, g_dropped, F_dropped⟩ := r_dropped
  obtain ⟨f__law_purse, d__law_purse, g__law_purse, F__law_purse⟩ := r__law_purse
  obtain ⟨f__law_mixed, d__law_mixed, g__law_mixed, F__law_mixed⟩ := r__law_mixed
  obtain ⟨f__law_draw, d__law_draw, g__law_draw, F__law_draw⟩ := r__law_draw
  obtain ⟨f__law_purses, d__law_purses, g__law_purses, F__law_purses⟩ := r__law_purses
  obtain ⟨f__law_one_of, d__law_one_of, g__law_one_of, F__law_one_of⟩ := r__law_one_of
  obtain ⟨f__law_shuffled, d__law_shuffled, g__law_shuffled, F__law_shuffled⟩ := r__law_shuffled
  obtain ⟨f__law_exact, d__law_exact, g__law_exact, F__law_exact⟩ := r__law_exact
  obtain ⟨f__law_word, d__law_word, g__law_word, F__law_word⟩ := r__law_word
  obtain ⟨f__law_words, d__law_words, g__law_words, F__law_words⟩ := r__law_words
  obtain ⟨f__law_pool, d__law_pool, g__law_pool, F__law_pool⟩ := r__law_pool
  obtain ⟨f__law_turns, d__law_turns, g__law_turns, F__law_turns⟩ := r__law_turns
  obtain ⟨f__law_world, d__law_world, g__law_world, F__law_world⟩ := r__law_world
  obtain ⟨f__law_shape, d__law_shape, g__law_shape, F__law_shape⟩ := r__law_shape
  obtain ⟨f__law_desk, d__law_desk, g__law_desk, F__law_desk⟩ := r__law_desk
  obtain ⟨f__law_viable, d__law_viable, g__law_viable, F__law_viable⟩ := r__law_viable
  obtain ⟨f__law_row_of, d__law_row_of, g__law_row_of, F__law_row_of⟩ := r__law_row_of
  obtain ⟨f__law_turned_book, d__law_turned_book, g__law_turned_book, F__law_turned_book⟩ := r__law_turned_book
  obtain ⟨f__law_stays, d__law_stays, g__law_stays, F__law_stays⟩ := r__law_stays
  obtain ⟨f__law_said_words, d__law_said_words, g__law_said_words, F__law_said_words⟩ := r__law_said_words
  obtain ⟨f__law_without, d__law_without, g__law_without, F__law_without⟩ := r__law_without
  obtain ⟨f__law_own_rescues, d__law_own_rescues, g__law_own_rescues, F__law_own_rescues⟩ := r__law_own_rescues
  obtain ⟨f__law_rescues_right, d__law_rescues_right, g__law_rescues_right, F__law_rescues_right⟩ := r__law_rescues_right
  obtain ⟨f_law, d_law, g_law, F_law⟩ := r_law
  rw [hfa] at g_law
  cases g_law
  obtain ⟨fM0, dM0, aM0, iM0, FM0⟩ := R.m0
  obtain ⟨fM1, dM1, aM1, iM1, FM1⟩ := R.m1
  obtain ⟨fM2, dM2, aM2, iM2, FM2⟩ := R.m2
  obtain ⟨fM3, dM3, aM3, iM3, FM3⟩ := R.m3
  have b_is_name := F_is_name.binds (ps := ["value"]) fun _ _ _ _ _ _ us hl => match us, hl with | [_], _ => rfl
  have b_is_row := F_is_row.binds (ps := ["value"]) fun _ _ _ _ _ _ us hl => match us, hl with | [_], _ => rfl
  have b_is_state_of := F_is_state_of.binds (ps := ["book", "value"]) fun _ _ _ _ _ _ us hl => match us, hl with | [_, _], _ => rfl
  have b_is_ascending := F_is_ascending.binds (ps := ["items"]) fun _ _ _ _ _ _ us hl => match us, hl with | [_], _ => rfl
  have b_nodes_before := F_nodes_before.binds (ps := ["graph"]) fun _ _ _ _ _ _ us hl => match us, hl with | [_], _ => rfl
  have b_words_to := F_words_to.binds (ps := ["graph", "goals"]) fun _ _ _ _ _ _ us hl => match us, hl with | [_, _], _ => rfl
  have b_is_book := F_is_book.binds (ps := ["value"]) fun _ _ _ _ _ _ us hl => match us, hl with | [_], _ => rfl
  have b_ordered_turns := F_ordered_turns.binds (ps := ["turns"]) fun _ _ _ _ _ _ us hl => match us, hl with | [_], _ => rfl
  have b_ordered_book := F_ordered_book.binds (ps := ["book"]) fun _ _ _ _ _ _ us hl => match us, hl with | [_], _ => rfl
  have b_need_desk := F_need_desk.binds (ps := ["desk"]) fun _ _ _ _ _ _ us hl => match us, hl with | [_], _ => rfl
  have b_words_at := F_words_at.binds (ps := ["book", "kind"]) fun _ _ _ _ _ _ us hl => match us, hl with | [_, _], _ => rfl
  have b_book_without := F_book_without.binds (ps := ["book", "kind", "lot"]) fun _ _ _ _ _ _ us hl => match us, hl with | [_, _, _], _ => rfl
  have b_row_without := F_row_without.binds (ps := ["row", "state", "lot"]) fun _ _ _ _ _ _ us hl => match us, hl with | [_, _, _], _ => rfl
  have b_least_parts := F_least_parts.binds (ps := ["items", "helps", "told"]) fun _ _ _ _ _ _ us hl => match us, hl with | [_, _, _], _ => rfl
  have b_holds := F_holds.binds (ps := ["part", "other"]) fun _ _ _ _ _ _ us hl => match us, hl with | [_, _], _ => rfl
  have b_parted := F_parted.binds (ps := ["graph", "asks"]) fun _ _ _ _ _ _ us hl => match us, hl with | [_, _], _ => rfl
  have b_rests_at_first := F_rests_at_first.binds (ps := ["before", "asks"]) fun _ _ _ _ _ _ us hl => match us, hl with | [_, _], _ => rfl
  have b_let_rest := F_let_rest.binds (ps := ["before", "rests", "waiting", "layer"]) fun _ _ _ _ _ _ us hl => match us, hl with | [_, _, _, _], _ => rfl
  have b_going_then := F_going_then.binds (ps := ["graph", "before", "asks", "rests", "gone"]) fun _ _ _ _ _ _ us hl => match us, hl with | [_, _, _, _, _], _ => rfl
  have b_dropped_by := F_dropped_by.binds (ps := ["before", "asks", "rests", "gone"]) fun _ _ _ _ _ _ us hl => match us, hl with | [_, _, _, _], _ => rfl
  have b_resting_on := F_resting_on.binds (ps := ["before", "rests", "dropped"]) fun _ _ _ _ _ _ us hl => match us, hl with | [_, _, _], _ => rfl
  have b_ranks_of := F_ranks_of.binds (ps := ["graph", "asks", "rests"]) fun _ _ _ _ _ _ us hl => match us, hl with | [_, _, _], _ => rfl
  have b_viability := F_viability.binds (ps := ["rows"]) fun _ _ _ _ _ _ us hl => match us, hl with | [_], _ => rfl
  have b_viable_ranks := F_viable_ranks.binds (ps := ["rows"]) fun _ _ _ _ _ _ us hl => match us, hl with | [_], _ => rfl
  have b_has_partner := F_has_partner.binds (ps := ["desk"]) fun _ _ _ _ _ _ us hl => match us, hl with | [_], _ => rfl
  have b_desk_rank := F_desk_rank.binds (ps := ["desk"]) fun _ _ _ _ _ _ us hl => match us, hl with | [_], _ => rfl
  have b_rescues := F_rescues.binds (ps := ["desk"]) fun _ _ _ _ _ _ us hl => match us, hl with | [_], _ => rfl
  have b_rescues_without := F_rescues_without.binds (ps := ["told", "lot"]) fun _ _ _ _ _ _ us hl => match us, hl with | [_, _], _ => rfl
  have b_is_word_at := F_is_word_at.binds (ps := ["book", "kind", "value"]) fun _ _ _ _ _ _ us hl => match us, hl with | [_, _, _], _ => rfl
  have b_desk_without := F_desk_without.binds (ps := ["desk", "kind", "value"]) fun _ _ _ _ _ _ us hl => match us, hl with | [_, _, _], _ => rfl
  have b_dropped := F_dropped.binds (ps := ["desk", "lot"]) fun _ _ _ _ _ _ us hl => match us, hl with | [_, _], _ => rfl
  have b__law_purse := F__law_purse.binds (ps := ["_law_script", "_law_at"]) fun _ _ _ _ _ _ us hl => match us, hl with | [_, _], _ => rfl
  have b__law_mixed := F__law_mixed.binds (ps := ["_law_seed", "_law_turn", "_law_at"]) fun _ _ _ _ _ _ us hl => match us, hl with | [_, _, _], _ => rfl
  have b__law_draw := F__law_draw.binds (ps := ["_law_purse_here", "_law_many"]) fun _ _ _ _ _ _ us hl => match us, hl with | [_, _], _ => rfl
  have b__law_purses := F__law_purses.binds (ps := ["_law_script", "_law_few"]) fun _ _ _ _ _ _ us hl => match us, hl with | [_, _], _ => rfl
  have b__law_one_of := F__law_one_of.binds (ps := ["_law_purse_here", "_law_some"]) fun _ _ _ _ _ _ us hl => match us, hl with | [_, _], _ => rfl
  have b__law_shuffled := F__law_shuffled.binds (ps := ["_law_purse_here", "_law_some"]) fun _ _ _ _ _ _ us hl => match us, hl with | [_, _], _ => rfl
  have b__law_exact := F__law_exact.binds (ps := ["_law_mine", "_law_theirs"]) fun _ _ _ _ _ _ us hl => match us, hl with | [_, _], _ => rfl
  have b__law_word := F__law_word.binds (ps := ["_law_purse_here"]) fun _ _ _ _ _ _ us hl => match us, hl with | [_], _ => rfl
  have b__law_words := F__law_words.binds (ps := ["_law_purse_here", "_law_many"]) fun _ _ _ _ _ _ us hl => match us, hl with | [_, _], _ => rfl
  have b__law_pool := F__law_pool.binds (ps := ["_law_purse_here"]) fun _ _ _ _ _ _ us hl => match us, hl with | [_], _ => rfl
  have b__law_turns := F__law_turns.binds (ps := ["_law_purse_here", "_law_states", "_law_words_here", "_law_at", "_law_top"]) fun _ _ _ _ _ _ us hl => match us, hl with | [_, _, _, _, _], _ => rfl
  have b__law_world := F__law_world.binds (ps := ["_law_purse_here", "_law_many", "_law_words_here", "_law_top"]) fun _ _ _ _ _ _ us hl => match us, hl with | [_, _, _, _], _ => rfl
  have b__law_shape := F__law_shape.binds (ps := ["_law_purse_here", "_law_words_here"]) fun _ _ _ _ _ _ us hl => match us, hl with | [_, _], _ => rfl
  have b__law_desk := F__law_desk.binds (ps := ["_law_world_here"]) fun _ _ _ _ _ _ us hl => match us, hl with | [_], _ => rfl
  have b__law_viable := F__law_viable.binds (ps := ["_law_world_here"]) fun _ _ _ _ _ _ us hl => match us, hl with | [_], _ => rfl
  have b__law_row_of := F__law_row_of.binds (ps := ["_law_purse_here", "_law_top"]) fun _ _ _ _ _ _ us hl => match us, hl with | [_, _], _ => rfl
  have b__law_turned_book := F__law_turned_book.binds (ps := ["_law_world_here"]) fun _ _ _ _ _ _ us hl => match us, hl with | [_], _ => rfl
  have b__law_stays := F__law_stays.binds (ps := ["_law_world_here", "_law_desk_here"]) fun _ _ _ _ _ _ us hl => match us, hl with | [_, _], _ => rfl
  have b__law_said_words := F__law_said_words.binds (ps := ["_law_world_here"]) fun _ _ _ _ _ _ us hl => match us, hl with | [_], _ => rfl
  have b__law_without := F__law_without.binds (ps := ["_law_world_here", "_law_lot"]) fun _ _ _ _ _ _ us hl => match us, hl with | [_, _], _ => rfl
  have b__law_own_rescues := F__law_own_rescues.binds (ps := ["_law_world_here"]) fun _ _ _ _ _ _ us hl => match us, hl with | [_], _ => rfl
  have b__law_rescues_right := F__law_rescues_right.binds (ps := ["_law_purse_here", "_law_world_here"]) fun _ _ _ _ _ _ us hl => match us, hl with | [_, _], _ => rfl
  have bM0 := FM0.binds (ps := ["self", "book", "start"]) fun _ _ _ _ _ _ us hl => match us, hl with | [_, _, _], _ => rfl
  have bM1 := FM1.binds (ps := ["self", "other"]) fun _ _ _ _ _ _ us hl => match us, hl with | [_, _], _ => rfl
  have bM2 := FM2.binds (ps := ["self"]) fun _ _ _ _ _ _ us hl => match us, hl with | [_], _ => rfl
  have bM3 := FM3.binds (ps := ["self"]) fun _ _ _ _ _ _ us hl => match us, hl with | [_], _ => rfl
  refine ⟨d_law, bind1 F_law fun _ _ _ _ _ _ _ => rfl, fun base _ _ => ?_⟩
  have T := T4.toFree3
  have T2 := T.toFree2
  have T1 := T2.toFree
  have D := R.txt
  have c0 : CPurses P w K mg base := ⟨⟨f__law_purses, d__law_purses, g__law_purses, F__law_purses.kp, ok_purses F__law_purses T1 F__law_purse b__law_purse g__law_purse, b__law_purses⟩⟩
  have c1 : CDraw P w K mg base := ⟨⟨f__law_draw, d__law_draw, g__law_draw, F__law_draw.kp, ok_draw F__law_draw T1 F__law_mixed b__law_mixed g__law_mixed, b__law_draw⟩⟩
  have G_2 : FnOk P w K mg base CX0 2 f__law_draw d__law_draw ["_law_purse_here", "_law_many"] (spDraw) := ok_draw F__law_draw T1 F__law_mixed b__law_mixed g__law_mixed
  have c3 : CWord P w K mg base := ⟨⟨f__law_word, d__law_word, g__law_word, F__law_word.kp, ok_word F__law_word T1 F__law_draw.kp G_2 b__law_draw g__law_draw, b__law_word⟩⟩
  have c4 : CWords P w K mg base := ⟨⟨f__law_words, d__law_words, g__law_words, F__law_words.kp, ok_words F__law_words T2 c1 c3, b__law_words⟩⟩
  have c5 : CShuf P w K mg base := ⟨⟨f__law_shuffled, d__law_shuffled, g__law_shuffled, F__law_shuffled.kp, ok_shuf F__law_shuffled T1 F__law_draw.kp G_2 b__law_draw g__law_draw, b__law_shuffled⟩⟩
  have c6 : CPool P w K mg base := ⟨⟨f__law_pool, d__law_pool, g__law_pool, F__law_pool.kp, ok_pool F__law_pool T2 c1 c4 c5, b__law_pool⟩⟩
  have c7 : COne P w K mg base := ⟨⟨f__law_one_of, d__law_one_of, g__law_one_of, F__law_one_of.kp, ok_oneof F__law_one_of T1 F__law_draw.kp G_2 b__law_draw g__law_draw, b__law_one_of⟩⟩
  have c8 : CTurns P w K mg base := ⟨⟨f__law_turns, d__law_turns, g__law_turns, F__law_turns.kp, ok_turns F__law_turns T2 c1 c7 c5, b__law_turns⟩⟩
  have c9 : CWorld P w K mg base := ⟨⟨f__law_world, d__law_world, g__law_world, F__law_world.kp, ok_world F__law_world T2 c1 c4 c5 c8, b__law_world⟩⟩
  have c10 : CShape P w K mg base := ⟨⟨f__law_shape, d__law_shape, g__law_shape, F__law_shape.kp, ok_shape F__law_shape T2 c1 c4, b__law_shape⟩⟩
  have c11 : CRow P w K mg base := ⟨⟨f__law_row_of, d__law_row_of, g__law_row_of, F__law_row_of.kp, ok_row F__law_row_of T2 c1 c6 c9 c10, b__law_row_of⟩⟩
  have c12 : CSaidW P w K mg base := ⟨⟨f__law_said_words, d__law_said_words, g__law_said_words, F__law_said_words.kp, ok_saidw F__law_said_words T4, b__law_said_words⟩⟩
  have c13 : CIsName P w K mg base := ⟨⟨f_is_name, d_is_name, g_is_name, F_is_name.kp, ok_isname F_is_name T, b_is_name⟩⟩
  have c14 : CIsRow P w K mg base := ⟨⟨f_is_row, d_is_row, g_is_row, F_is_row.kp, ok_isrow F_is_row T c13, b_is_row⟩⟩
  have c15 : CIsBook P w K mg base := ⟨⟨f_is_book, d_is_book, g_is_book, F_is_book.kp, ok_isbook F_is_book T c13 c14, b_is_book⟩⟩
  have c16 : CIsState P w K mg base := ⟨⟨f_is_state_of, d_is_state_of, g_is_state_of, F_is_state_of.kp, ok_isstate F_is_state_of T, b_is_state_of⟩⟩
  have c17 : COrdT P w K mg base := ⟨⟨f_ordered_turns, d_ordered_turns, g_ordered_turns, F_ordered_turns.kp, ok_ordT F_ordered_turns T, b_ordered_turns⟩⟩
  have c18 : COrdB P w K mg base := ⟨⟨f_ordered_book, d_ordered_book, g_ordered_book, F_ordered_book.kp, ok_ordB F_ordered_book T c17, b_ordered_book⟩⟩
  have MI : CMInit P w K mg base C := ⟨fM0, dM0, ⟨R.mkD, aM0, iM0, R.kp⟩, ok_dinit FM0 D c15 c16 c18, bM0⟩
  have c19 : CLDesk P w K mg base C := ⟨⟨f__law_desk, d__law_desk, g__law_desk, F__law_desk.kp, ok_ldesk F__law_desk T D MI, b__law_desk⟩⟩
  have c20 : CWithout P w K mg base := ⟨⟨f__law_without, d__law_without, g__law_without, F__law_without.kp, ok_without F__law_without T4, b__law_without⟩⟩
  have c21 : CLViab P w K mg base := ⟨⟨f__law_viable, d__law_viable, g__law_viable, F__law_viable.kp, ok_viable F__law_viable T4, b__law_viable⟩⟩
  have c22 : COwnR P w K mg base := ⟨⟨f__law_own_rescues, d__law_own_rescues, g__law_own_rescues, F__law_own_rescues.kp, ok_ownr F__law_own_rescues T4 c12 c20 c21, b__law_own_rescues⟩⟩
  have c23 : CNeed P w K mg base C := ⟨⟨f_need_desk, d_need_desk, g_need_desk, F_need_desk.kp, ok_need F_need_desk T D R.ins, b_need_desk⟩⟩
  have MB : CMBook P w K mg base C := ⟨⟨fM2, dM2, ⟨aM2, iM2, FM2.kp⟩, ok_dbook FM2 D c18, bM2⟩⟩
  have MS : CMStart P w K mg base C := ⟨⟨fM3, dM3, ⟨aM3, iM3, FM3.kp⟩, ok_dstart FM3 D, bM3⟩⟩
  have c24 : CWordsAt P w K mg base := ⟨⟨f_words_at, d_words_at, g_words_at, F_words_at.kp, ok_wordsat F_words_at T4, b_words_at⟩⟩
  have c25 : CRowW P w K mg base := ⟨⟨f_row_without, d_row_without, g_row_without, F_row_without.kp, ok_roww F_row_without, b_row_without⟩⟩
  have c26 : CBookW P w K mg base := ⟨⟨f_book_without, d_book_without, g_book_without, F_book_without.kp, ok_bookw F_book_without T4 c25, b_book_without⟩⟩
  have c27 : Gs.CBefN P w K mg base := ⟨⟨f_nodes_before, d_nodes_before, g_nodes_before, F_nodes_before.kp, Gs.ok_befN F_nodes_before, b_nodes_before⟩⟩
  have c28 : Gs.CLet P w K mg base := ⟨⟨f_let_rest, d_let_rest, g_let_rest, F_let_rest.kp, Gs.ok_let F_let_rest, b_let_rest⟩⟩
  have c29 : Gs.CFirst P w K mg base := ⟨⟨f_rests_at_first, d_rests_at_first, g_rests_at_first, F_rests_at_first.kp, Gs.ok_first F_rests_at_first T c28, b_rests_at_first⟩⟩
  have c30 : Gs.CDrop P w K mg base := ⟨⟨f_dropped_by, d_dropped_by, g_dropped_by, F_dropped_by.kp, Gs.ok_drop F_dropped_by, b_dropped_by⟩⟩
  have c31 : Gs.CRes P w K mg base := ⟨⟨f_resting_on, d_resting_on, g_resting_on, F_resting_on.kp, Gs.ok_restOn F_resting_on T, b_resting_on⟩⟩
  have c32 : Gs.CGoing P w K mg base := ⟨⟨f_going_then, d_going_then, g_going_then, F_going_then.kp, Gs.ok_going F_going_then c28 c30 c31, b_going_then⟩⟩
  have c33 : Gs.CWordsN P w K mg base := ⟨⟨f_words_to, d_words_to, g_words_to, F_words_to.kp, Gs.ok_wordsN F_words_to T c27, b_words_to⟩⟩
  have c34 : Gs.CRanks P w K mg base := ⟨⟨f_ranks_of, d_ranks_of, g_ranks_of, F_ranks_of.kp, Gs.ok_ranks F_ranks_of c33, b_ranks_of⟩⟩
  have c35 : CPartV P w K mg base := ⟨⟨f_parted, d_parted, g_parted, F_parted.kp, Gs.ok_parted F_parted c27 c29 c32 c34, b_parted⟩⟩
  have c36 : CViab P w K mg base := ⟨⟨f_viability, d_viability, g_viability, F_viability.kp, ok_viab F_viability UA c35, b_viability⟩⟩
  have c37 : CVRanks P w K mg base := ⟨⟨f_viable_ranks, d_viable_ranks, g_viable_ranks, F_viable_ranks.kp, ok_vranks F_viable_ranks c36, b_viable_ranks⟩⟩
  have G_38 : FnOk P w K mg base CX0 7 f_rescues_without d_rescues_without ["told", "lot"] (spResW) := ok_resw F_rescues_without c26 c37
  have c39 : CHolds P w K mg base := ⟨⟨f_holds, d_holds, g_holds, F_holds.kp, ok_holds F_holds T, b_holds⟩⟩
  have c40 : CLeast P w K mg base f_rescues_without := ⟨⟨f_least_parts, d_least_parts, g_least_parts, F_least_parts.kp, ok_least F_least_parts T4 F_rescues_without.kp G_38 b_rescues_without c39, b_least_parts⟩⟩
  have c41 : CRescues P w K mg base C := ⟨⟨f_rescues, d_rescues, g_rescues, F_rescues.kp, ok_rescues F_rescues D g_rescues_without c23 MB MS c24 c40, b_rescues⟩⟩
  have cE : ∀ n, CExact P w K mg base n := fun n => ⟨⟨f__law_exact, d__law_exact, g__law_exact, F__law_exact.kp, ok_exact F__law_exact T g__law_exact b__law_exact n, b__law_exact⟩⟩
  have c42 : CIsWA P w K mg base := ⟨⟨f_is_word_at, d_is_word_at, g_is_word_at, F_is_word_at.kp, ok_iswa F_is_word_at T c16, b_is_word_at⟩⟩
  have c43 : CAsc P w K mg base := ⟨⟨f_is_ascending, d_is_ascending, g_is_ascending, F_is_ascending.kp, ok_asc F_is_ascending T, b_is_ascending⟩⟩
  have c44 : CDeskW P w K mg base C := ⟨⟨f_desk_without, d_desk_without, g_desk_without, F_desk_without.kp, ok_deskw F_desk_without T D MB MS MI c42 c43 c26, b_desk_without⟩⟩
  have c45 : CDropD P w K mg base C := ⟨⟨f_dropped, d_dropped, g_dropped, F_dropped.kp, ok_dropd F_dropped c23 c44, b_dropped⟩⟩
  have c46 : CRank P w K mg base C := ⟨⟨f_desk_rank, d_desk_rank, g_desk_rank, F_desk_rank.kp, ok_rank F_desk_rank D c23 c37 MB MS, b_desk_rank⟩⟩
  have c47 : CHasP P w K mg base C := ⟨⟨f_has_partner, d_has_partner, g_has_partner, F_has_partner.kp, ok_hasp F_has_partner c46, b_has_partner⟩⟩
  have EQ : EqD P w K mg base C := ⟨⟨fM1, dM1, _, ok_deqB FM1 T D R.ins, bM1, aM1, iM1, nf C fM1 D.mgC aM1⟩⟩
  have c48 : CStays P w K mg base C := ⟨⟨f__law_stays, d__law_stays, g__law_stays, F__law_stays.kp, ok_stays F__law_stays T4 D EQ MB MS c19 (cE 5), b__law_stays⟩⟩
  have c49 : CTBook P w K mg base C := ⟨⟨f__law_turned_book, d__law_turned_book, g__law_turned_book, F__law_turned_book.kp, ok_tbook F__law_turned_book T4 D MI, b__law_turned_book⟩⟩
  have c50 : CRR P w K mg base := ⟨⟨f__law_rescues_right, d__law_rescues_right, g__law_rescues_right, F__law_rescues_right.kp, ok_rr F__law_rescues_right T4 c19 c22 c41 (cE 4) c45 c47 c48 c20 c49, b__law_rescues_right⟩⟩
  exact ok_law F_law T4 c0 c11 c12 c50
end
/-- what the head asks -/
theorem law_walk {l : PySem.W.OpenLaw} {q : Program} {loose : List Str} {XP : (Str → Option Value) → Heap → Prop} {YP : World → Heap → Prop} {d : DefRec} {K : Params → PySem.W.Frag} (hn : l.most = some 63) (hdf : d.params.defaults = []) (hY : ∀ (w : World) (h : Heap), YP w h → (K w.params).In h)
    (F : ∀ (w : World) (mg : Str → Option Value) (fa : Addr) (h : Heap), (K w.params).In h → h.Ns mainGlobals mg → mg d.name = some (.ref fa) →
      ∃ fd : FuncData, (∀ (s : Shared) (u : Value), BindsTo s fd ⟨[u], []⟩ [("_law_script", u)]) ∧ ∀ base : Heap, (K w.params).In base → base.Ns mainGlobals mg → FnOk l.prog w (K w.params) mg base CX0 11 fa fd ["_law_script"] (spLaw (K w.params))) :
    PySem.W.WalkO q loose XP YP l.row.toRowW d [] (fun f vs => PySem.call f vs) :=
  L2.walk_of (n := 63) (k := 11) (x := "_law_script") (CX := fun _ => CX0) (sp := fun w => spLaw (K w.params)) hn (by decide) hdf ⟨rfl, by decide, by decide⟩ hY F (fun _ _ a ns hl _ hS => ⟨a, ns, rfl, hS, hl, fun _ => rfl⟩) fun _ _ _ _ _ z => z
end D1
end L2
open PySem PySem.W PyProof.Rows in
set_option maxRecDepth 100000 in
set_option maxHeartbeats 0 in
theorem PySem.Challenge.cw_endswell_k23_whole_rescues_holds : PySem.Challenge.rw_endswell_k23_whole_rescues.Holds :=
  head (by
  k_fill
  refine L2.D1.law_walk (l := PySem.Challenge.rw_endswell_k23_whole_rescues) rfl rfl (fun w h Y => PySem.W.kIn_of Y) ?F
  intro w mg fa h KX G hmg
  have f_is_name : L2.D1.RowF (L2.KOf KX) mg "is_name" L2.D1.sIsName := by
    dsimp only [L2.KOf]
    refine' L2.D1.rowF KX G ?a ?l ?c ?k
    (case a => k_is)
    (case l => k_is)
    (case c => k_is)
    (case k => k_is)
  have f_is_row : L2.D1.RowF (L2.KOf KX) mg "is_row" L2.D1.sIsRow := by
    dsimp only [L2.KOf]
    refine' L2.D1.rowF KX G ?a ?l ?c ?k
    (case a => k_is)
    (case l => k_is)
    (case c => k_is)
    (case k => k_is)
  have f_is_state_of : L2.D1.RowF (L2.KOf KX) mg "is_state_of" L2.D1.sIsState := by
    dsimp only [L2.KOf]
    refine' L2.D1.rowF KX G ?a ?l ?c ?k
    (case a => k_is)
    (case l => k_is)
    (case c => k_is)
    (case k => k_is)
  have f_is_ascending : L2.D1.RowF (L2.KOf KX) mg "is_ascending" L2.D1.sAsc := by
    dsimp only [L2.KOf]
    refine' L2.D1.rowF KX G ?a ?l ?c ?k
    (case a => k_is)
    (case l => k_is)
    (case c => k_is)
    (case k => k_is)
  have f_nodes_before : L2.D1.RowF (L2.KOf KX) mg "nodes_before" L2.D1.sBefore := by
    dsimp only [L2.KOf]
    refine' L2.D1.rowF KX G ?a ?l ?c ?k
    (case a => k_is)
    (case l => k_is)
    (case c => k_is)
    (case k => k_is)
  have f_words_to : L2.D1.RowF (L2.KOf KX) mg "words_to" L2.D1.sWordsTo := by
    dsimp only [L2.KOf]
    refine' L2.D1.rowF KX G ?a ?l ?c ?k
    (case a => k_is)
    (case l => k_is)
    (case c => k_is)
    (case k => k_is)
  have f_is_book : L2.D1.RowF (L2.KOf KX) mg "is_book" L2.D1.sIsBook := by
    dsimp only [L2.KOf]
    refine' L2.D1.rowF KX G ?a ?l ?c ?k
    (case a => k_is)
    (case l => k_is)
    (case c => k_is)
    (case k => k_is)
  have f_ordered_turns : L2.D1.RowF (L2.KOf KX) mg "ordered_turns" L2.D1.sOrdT := by
    dsimp only [L2.KOf]
    refine' L2.D1.rowF KX G ?a ?l ?c ?k
    (case a => k_is)
    (case l => k_is)
    (case c => k_is)
    (case k => k_is)
  have f_ordered_book : L2.D1.RowF (L2.KOf KX) mg "ordered_book" L2.D1.sOrdB := by
    dsimp only [L2.KOf]
    refine' L2.D1.rowF KX G ?a ?l ?c ?k
    (case a => k_is)
    (case l => k_is)
    (case c => k_is)
    (case k => k_is)
  have f_need_desk : L2.D1.RowF (L2.KOf KX) mg "need_desk" L2.D1.sNeed := by
    dsimp only [L2.KOf]
    refine' L2.D1.rowF KX G ?a ?l ?c ?k
    (case a => k_is)
    (case l => k_is)
    (case c => k_is)
    (case k => k_is)
  have f_words_at : L2.D1.RowF (L2.KOf KX) mg "words_at" L2.D1.sWordsAt := by
    dsimp only [L2.KOf]
    refine' L2.D1.rowF KX G ?a ?l ?c ?k
    (case a => k_is)
    (case l => k_is)
    (case c => k_is)
    (case k => k_is)
  have f_book_without : L2.D1.RowF (L2.KOf KX) mg "book_without" L2.D1.sBookW := by
    dsimp only [L2.KOf]
    refine' L2.D1.rowF KX G ?a ?l ?c ?k
    (case a => k_is)
    (case l => k_is)
    (case c => k_is)
    (case k => k_is)
  have f_row_without : L2.D1.RowF (L2.KOf KX) mg "row_without" L2.D1.sRowW := by
    dsimp only [L2.KOf]
    refine' L2.D1.rowF KX G ?a ?l ?c ?k
    (case a => k_is)
    (case l => k_is)
    (case c => k_is)
    (case k => k_is)
  have f_least_parts : L2.D1.RowF (L2.KOf KX) mg "least_parts" L2.D1.sLeast := by
    dsimp only [L2.KOf]
    refine' L2.D1.rowF KX G ?a ?l ?c ?k
    (case a => k_is)
    (case l => k_is)
    (case c => k_is)
    (case k => k_is)
  have f_holds : L2.D1.RowF (L2.KOf KX) mg "holds" L2.D1.sHolds := by
    dsimp only [L2.KOf]
    refine' L2.D1.rowF KX G ?a ?l ?c ?k
    (case a => k_is)
    (case l => k_is)
    (case c => k_is)
    (case k => k_is)
  have f_parted : L2.D1.RowF (L2.KOf KX) mg "parted" L2.Gs.sParted := by
    dsimp only [L2.KOf]
    refine' L2.D1.rowF KX G ?a ?l ?c ?k
    (case a => k_is)
    (case l => k_is)
    (case c => k_is)
    (case k => k_is)
  have f_rests_at_first : L2.D1.RowF (L2.KOf KX) mg "rests_at_first" L2.Gs.sFirst := by
    dsimp only [L2.KOf]
    refine' L2.D1.rowF KX G ?a ?l ?c ?k
    (case a => k_is)
    (case l => k_is)
    (case c => k_is)
    (case k => k_is)
  have f_let_rest : L2.D1.RowF (L2.KOf KX) mg "let_rest" L2.Gs.sLet := by
    dsimp only [L2.KOf]
    refine' L2.D1.rowF KX G ?a ?l ?c ?k
    (case a => k_is)
    (case l => k_is)
    (case c => k_is)
    (case k => k_is)
  have f_going_then : L2.D1.RowF (L2.KOf KX) mg "going_then" L2.Gs.sGoing := by
    dsimp only [L2.KOf]
    refine' L2.D1.rowF KX G ?a ?l ?c ?k
    (case a => k_is)
    (case l => k_is)
    (case c => k_is)
    (case k => k_is)
  have f_dropped_by : L2.D1.RowF (L2.KOf KX) mg "dropped_by" L2.Gs.sDropped := by
    dsimp only [L2.KOf]
    refine' L2.D1.rowF KX G ?a ?l ?c ?k
    (case a => k_is)
    (case l => k_is)
    (case c => k_is)
    (case k => k_is)
  have f_resting_on : L2.D1.RowF (L2.KOf KX) mg "resting_on" L2.Gs.sResting := by
    dsimp only [L2.KOf]
    refine' L2.D1.rowF KX G ?a ?l ?c ?k
    (case a => k_is)
    (case l => k_is)
    (case c => k_is)
    (case k => k_is)
  have f_ranks_of : L2.D1.RowF (L2.KOf KX) mg "ranks_of" L2.Gs.sRanks := by
    dsimp only [L2.KOf]
    refine' L2.D1.rowF KX G ?a ?l ?c ?k
    (case a => k_is)
    (case l => k_is)
    (case c => k_is)
    (case k => k_is)
  have f_viability : L2.D1.RowF (L2.KOf KX) mg "viability" L2.D1.sViab := by
    dsimp only [L2.KOf]
    refine' L2.D1.rowF KX G ?a ?l ?c ?k
    (case a => k_is)
    (case l => k_is)
    (case c => k_is)
    (case k => k_is)
  have f_viable_ranks : L2.D1.RowF (L2.KOf KX) mg "viable_ranks" L2.D1.sVRanks := by
    dsimp only [L2.KOf]
    refine' L2.D1.rowF KX G ?a ?l ?c ?k
    (case a => k_is)
    (case l => k_is)
    (case c => k_is)
    (case k => k_is)
  have f_has_partner : L2.D1.RowF (L2.KOf KX) mg "has_partner" L2.D1.sHasP := by
    dsimp only [L2.KOf]
    refine' L2.D1.rowF KX G ?a ?l ?c ?k
    (case a => k_is)
    (case l => k_is)
    (case c => k_is)
    (case k => k_is)
  have f_desk_rank : L2.D1.RowF (L2.KOf KX) mg "desk_rank" L2.D1.sRank := by
    dsimp only [L2.KOf]
    refine' L2.D1.rowF KX G ?a ?l ?c ?k
    (case a => k_is)
    (case l => k_is)
    (case c => k_is)
    (case k => k_is)
  have f_rescues : L2.D1.RowF (L2.KOf KX) mg "rescues" L2.D1.sRescues := by
    dsimp only [L2.KOf]
    refine' L2.D1.rowF KX G ?a ?l ?c ?k
    (case a => k_is)
    (case l => k_is)
    (case c => k_is)
    (case k => k_is)
  have f_rescues_without : L2.D1.RowF (L2.KOf KX) mg "rescues_without" L2.D1.sResW := by
    dsimp only [L2.KOf]
    refine' L2.D1.rowF KX G ?a ?l ?c ?k
    (case a => k_is)
    (case l => k_is)
    (case c => k_is)
    (case k => k_is)
  have f_is_word_at : L2.D1.RowF (L2.KOf KX) mg "is_word_at" L2.D1.sIsWA := by
    dsimp only [L2.KOf]
    refine' L2.D1.rowF KX G ?a ?l ?c ?k
    (case a => k_is)
    (case l => k_is)
    (case c => k_is)
    (case k => k_is)
  have f_desk_without : L2.D1.RowF (L2.KOf KX) mg "desk_without" L2.D1.sDeskW := by
    dsimp only [L2.KOf]
    refine' L2.D1.rowF KX G ?a ?l ?c ?k
    (case a => k_is)
    (case l => k_is)
    (case c => k_is)
    (case k => k_is)
  have f_dropped : L2.D1.RowF (L2.KOf KX) mg "dropped" L2.D1.sDropped2 := by
    dsimp only [L2.KOf]
    refine' L2.D1.rowF KX G ?a ?l ?c ?k
    (case a => k_is)
    (case l => k_is)
    (case c => k_is)
    (case k => k_is)
  have f__law_purse : L2.D1.RowF (L2.KOf KX) mg "_law_purse" L2.D1.sPurse := by
    dsimp only [L2.KOf]
    refine' L2.D1.rowF KX G ?a ?l ?c ?k
    (case a => k_is)
    (case l => k_is)
    (case c => k_is)
    (case k => k_is)
  have f__law_mixed : L2.D1.RowF (L2.KOf KX) mg "_law_mixed" L2.D1.sMixed := by
    dsimp only [L2.KOf]
    refine' L2.D1.rowF KX G ?a ?l ?c ?k
    (case a => k_is)
    (case l => k_is)
    (case c => k_is)
    (case k => k_is)
  have f__law_draw : L2.D1.RowF (L2.KOf KX) mg "_law_draw" L2.D1.sDraw := by
    dsimp only [L2.KOf]
    refine' L2.D1.rowF KX G ?a ?l ?c ?k
    (case a => k_is)
    (case l => k_is)
    (case c => k_is)
    (case k => k_is)
  have f__law_purses : L2.D1.RowF (L2.KOf KX) mg "_law_purses" L2.D1.sPurses := by
    dsimp only [L2.KOf]
    refine' L2.D1.rowF KX G ?a ?l ?c ?k
    (case a => k_is)
    (case l => k_is)
    (case c => k_is)
    (case k => k_is)
  have f__law_one_of : L2.D1.RowF (L2.KOf KX) mg "_law_one_of" L2.D1.sOneOf := by
    dsimp only [L2.KOf]
    refine' L2.D1.rowF KX G ?a ?l ?c ?k
    (case a => k_is)
    (case l => k_is)
    (case c => k_is)
    (case k => k_is)
  have f__law_shuffled : L2.D1.RowF (L2.KOf KX) mg "_law_shuffled" L2.D1.sShuf := by
    dsimp only [L2.KOf]
    refine' L2.D1.rowF KX G ?a ?l ?c ?k
    (case a => k_is)
    (case l => k_is)
    (case c => k_is)
    (case k => k_is)
  have f__law_exact : L2.D1.RowF (L2.KOf KX) mg "_law_exact" L2.D1.sExact := by
    dsimp only [L2.KOf]
    refine' L2.D1.rowF KX G ?a ?l ?c ?k
    (case a => k_is)
    (case l => k_is)
    (case c => k_is)
    (case k => k_is)
  have f__law_word : L2.D1.RowF (L2.KOf KX) mg "_law_word" L2.D1.sWord := by
    dsimp only [L2.KOf]
    refine' L2.D1.rowF KX G ?a ?l ?c ?k
    (case a => k_is)
    (case l => k_is)
    (case c => k_is)
    (case k => k_is)
  have f__law_words : L2.D1.RowF (L2.KOf KX) mg "_law_words" L2.D1.sWords := by
    dsimp only [L2.KOf]
    refine' L2.D1.rowF KX G ?a ?l ?c ?k
    (case a => k_is)
    (case l => k_is)
    (case c => k_is)
    (case k => k_is)
  have f__law_pool : L2.D1.RowF (L2.KOf KX) mg "_law_pool" L2.D1.sPool := by
    dsimp only [L2.KOf]
    refine' L2.D1.rowF KX G ?a ?l ?c ?k
    (case a => k_is)
    (case l => k_is)
    (case c => k_is)
    (case k => k_is)
  have f__law_turns : L2.D1.RowF (L2.KOf KX) mg "_law_turns" L2.D1.sTurns := by
    dsimp only [L2.KOf]
    refine' L2.D1.rowF KX G ?a ?l ?c ?k
    (case a => k_is)
    (case l => k_is)
    (case c => k_is)
    (case k => k_is)
  have f__law_world : L2.D1.RowF (L2.KOf KX) mg "_law_world" L2.D1.sWorld := by
    dsimp only [L2.KOf]
    refine' L2.D1.rowF KX G ?a ?l ?c ?k
    (case a => k_is)
    (case l => k_is)
    (case c => k_is)
    (case k => k_is)
  have f__law_shape : L2.D1.RowF (L2.KOf KX) mg "_law_shape" L2.D1.sShape := by
    dsimp only [L2.KOf]
    refine' L2.D1.rowF KX G ?a ?l ?c ?k
    (case a => k_is)
    (case l => k_is)
    (case c => k_is)
    (case k => k_is)
  have f__law_desk : L2.D1.RowF (L2.KOf KX) mg "_law_desk" L2.D1.sLDesk := by
    dsimp only [L2.KOf]
    refine' L2.D1.rowF KX G ?a ?l ?c ?k
    (case a => k_is)
    (case l => k_is)
    (case c => k_is)
    (case k => k_is)
  have f__law_viable : L2.D1.RowF (L2.KOf KX) mg "_law_viable" L2.D1.sViable := by
    dsimp only [L2.KOf]
    refine' L2.D1.rowF KX G ?a ?l ?c ?k
    (case a => k_is)
    (case l => k_is)
    (case c => k_is)
    (case k => k_is)
  have f__law_row_of : L2.D1.RowF (L2.KOf KX) mg "_law_row_of" L2.D1.sRowOf := by
    dsimp only [L2.KOf]
    refine' L2.D1.rowF KX G ?a ?l ?c ?k
    (case a => k_is)
    (case l => k_is)
    (case c => k_is)
    (case k => k_is)
  have f__law_turned_book : L2.D1.RowF (L2.KOf KX) mg "_law_turned_book" L2.D1.sTBook := by
    dsimp only [L2.KOf]
    refine' L2.D1.rowF KX G ?a ?l ?c ?k
    (case a => k_is)
    (case l => k_is)
    (case c => k_is)
    (case k => k_is)
  have f__law_stays : L2.D1.RowF (L2.KOf KX) mg "_law_stays" L2.D1.sStays := by
    dsimp only [L2.KOf]
    refine' L2.D1.rowF KX G ?a ?l ?c ?k
    (case a => k_is)
    (case l => k_is)
    (case c => k_is)
    (case k => k_is)
  have f__law_said_words : L2.D1.RowF (L2.KOf KX) mg "_law_said_words" L2.D1.sSaidW := by
    dsimp only [L2.KOf]
    refine' L2.D1.rowF KX G ?a ?l ?c ?k
    (case a => k_is)
    (case l => k_is)
    (case c => k_is)
    (case k => k_is)
  have f__law_without : L2.D1.RowF (L2.KOf KX) mg "_law_without" L2.D1.sWithout := by
    dsimp only [L2.KOf]
    refine' L2.D1.rowF KX G ?a ?l ?c ?k
    (case a => k_is)
    (case l => k_is)
    (case c => k_is)
    (case k => k_is)
  have f__law_own_rescues : L2.D1.RowF (L2.KOf KX) mg "_law_own_rescues" L2.D1.sOwnR := by
    dsimp only [L2.KOf]
    refine' L2.D1.rowF KX G ?a ?l ?c ?k
    (case a => k_is)
    (case l => k_is)
    (case c => k_is)
    (case k => k_is)
  have f__law_rescues_right : L2.D1.RowF (L2.KOf KX) mg "_law_rescues_right" L2.D1.sRR := by
    dsimp only [L2.KOf]
    refine' L2.D1.rowF KX G ?a ?l ?c ?k
    (case a => k_is)
    (case l => k_is)
    (case c => k_is)
    (case k => k_is)
  have f_law : L2.D1.RowF (L2.KOf KX) mg "law" L2.D1.sLaw := by
    dsimp only [L2.KOf]
    refine' L2.D1.rowF KX G ?a ?l ?c ?k
    (case a => k_is)
    (case l => k_is)
    (case c => k_is)
    (case k => k_is)
  have dr : ∃ C, L2.D1.DeskRow (L2.KOf KX) mg C := by
    dsimp only [L2.KOf]
    refine' L2.D1.deskRow KX G ?aC ?pg ?hd ?po ?sa ?nB ?nS ?ca ?gs ?ss ?mo ?mk ?kp ?m0 ?m1 ?m2 ?m3
    (case aC => k_is)
    (case pg => k_is)
    (case hd => k_is)
    (case po => k_is)
    (case sa => k_is)
    (case nB => k_is)
    (case nS => k_is)
    (case ca => k_is)
    (case gs => k_is)
    (case ss => k_is)
    (case mo => k_is)
    (case mk => k_is)
    (case kp => k_is)
    (case m0 => refine' L2.D1.rowM KX ?a ?i ?l ?c ?k; (case a => k_is); (case i => k_is); (case l => k_is); (case c => k_is); (case k => k_is))
    (case m1 => refine' L2.D1.rowM KX ?a ?i ?l ?c ?k; (case a => k_is); (case i => k_is); (case l => k_is); (case c => k_is); (case k => k_is))
    (case m2 => refine' L2.D1.rowM KX ?a ?i ?l ?c ?k; (case a => k_is); (case i => k_is); (case l => k_is); (case c => k_is); (case k => k_is))
    (case m3 => refine' L2.D1.rowM KX ?a ?i ?l ?c ?k; (case a => k_is); (case i => k_is); (case l => k_is); (case c => k_is); (case k => k_is))
  have nf : ∀ C f, mg "Desk" = some (.ref C) → PySem.W.findIn (L2.KOf KX) (.ref C) "__eq__" = some (some (.ref f)) → L2.D2.NeF (L2.KOf KX) C f := by
    dsimp only [L2.KOf]
    refine' L2.D1.neRow KX G ?aC ?a1 ?l ?lN ?hk ?e1 ?e2 ?lI ?tI
    (case aC => k_is)
    (case a1 => k_is)
    (case l => k_is)
    (case lN => k_is)
    (case e1 => k_is)
    (case e2 => k_is)
    (case lI => k_is)
    (case tI => rfl)
    (case hk => repeat (first | exact True.intro | refine And.intro (Exists.intro _ (Exists.intro _ rfl)) ?_))
  have T3 : L2.D1.Free3 mg := ⟨⟨⟨PySem.W.mg_none_of KX G (by k_is), PySem.W.mg_none_of KX G (by k_is), PySem.W.mg_none_of KX G (by k_is), PySem.W.mg_none_of KX G (by k_is), PySem.W.mg_none_of KX G (by k_is), PySem.W.mg_none_of KX G (by k_is), PySem.W.mg_none_of KX G (by k_is), PySem.W.mg_none_of KX G (by k_is), PySem.W.mg_none_of KX G (by k_is)⟩, PySem.W.mg_none_of KX G (by k_is), PySem.W.mg_none_of KX G (by k_is), PySem.W.mg_none_of KX G (by k_is), PySem.W.mg_none_of KX G (by k_is), PySem.W.mg_none_of KX G (by k_is), PySem.W.mg_none_of KX G (by k_is), PySem.W.mg_none_of KX G (by k_is)⟩, ⟨_, PySem.W.mg_of KX G (by k_is)⟩, ⟨_, PySem.W.mg_of KX G (by k_is)⟩⟩
  have T : L2.D1.Free4 mg := ⟨T3, PySem.W.mg_none_of KX G (by k_is)⟩
  have UA : L2.D1.AsT (L2.KOf KX) w mg := by
    dsimp only [L2.KOf]
    refine' L2.D1.asRow KX G ?aT ?l ?lit ?low ?u1 ?u2 ?u3
    (case aT => k_is)
    (case l => k_is)
    (case u1 => k_is)
    (case u2 => k_is)
    (case u3 => k_is)
    (case low => rfl)
    (case lit => repeat (first | exact True.intro | refine And.intro (Exists.intro _ (Exists.intro _ (And.intro rfl rfl))) ?_))
  exact L2.D1.law_of hmg T UA dr nf f_is_name f_is_row f_is_state_of f_is_ascending f_nodes_before f_words_to f_is_book f_ordered_turns f_ordered_book f_need_desk f_words_at f_book_without f_row_without f_least_parts f_holds f_parted f_rests_at_first f_let_rest f_going_then f_dropped_by f_resting_on f_ranks_of f_viability f_viable_ranks f_has_partner f_desk_rank f_rescues f_rescues_without f_is_word_at f_desk_without f_dropped f__law_purse f__law_mixed f__law_draw f__law_purses f__law_one_of f__law_shuffled f__law_exact f__law_word f__law_words f__law_pool f__law_turns f__law_world f__law_shape f__law_desk f__law_viable f__law_row_of f__law_turned_book f__law_stays f__law_said_words f__law_without f__law_own_rescues f__law_rescues_right f_law)
