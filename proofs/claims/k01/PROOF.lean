import PyProof.Rows.All
import Wide.All
import OpenK.AllK
import Wide.FinOn
import HandS.ForMost
import HandS.Walk
import HandS.IsInst
import HandS.Codes
import HandS.FStr
import HandS.Exc
import HandS.ExcInit
import HandS.ExcIs
import HandS.ExcOwn
import HandS.ExcValue
import KE.KExcSuper
import HandS.TupLe
import PySem.Challenge.RW_layoutswap_k01_errors_and_names
set_option Elab.async false
set_option linter.all false
set_option maxRecDepth 100000
set_option maxHeartbeats 0
namespace My
open PySem PySem.Spec PyProof.Rows L2
/-! ### the text by places -/
def topS (i : Nat) : Stmt := PySem.Challenge.pw_layoutswap_k01_errors_and_names.main.body.getD i (.Pass ⟨0, 0, 0, 0⟩)
abbrev s_law_kneaded : Stmt := topS 25
abbrev s_law_pot_of : Stmt := topS 26
abbrev s_law_below : Stmt := topS 27
abbrev s_law_pick : Stmt := topS 28
theorem sc_law_kneaded : FnScope ["seed", "lap", "prime", "amount", "again"] ["seed", "lap"] (defScope s_law_kneaded) := ⟨rfl, rfl, rfl, by decide +kernel, rfl, by decide +kernel, by decide +kernel⟩
theorem sc_law_pot_of : FnScope ["script", "cell", "cells", "place"] ["script"] (defScope s_law_pot_of) := ⟨rfl, rfl, rfl, by decide +kernel, rfl, by decide +kernel, by decide +kernel⟩
theorem sc_law_below : FnScope ["pot", "bound", "cells", "place", "amount", "found"] ["pot", "bound"] (defScope s_law_below) := ⟨rfl, rfl, rfl, by decide +kernel, rfl, by decide +kernel, by decide +kernel⟩
theorem sc_law_pick : FnScope ["pot", "items"] ["pot", "items"] (defScope s_law_pick) := ⟨rfl, rfl, rfl, by decide +kernel, rfl, by decide +kernel, by decide +kernel⟩
/-! ### heaps -/
/-- all that was tracked is as it was, but what stands at p -/
def But (p : Addr) (H H' : Hp) : Prop := (∀ b o, H b = some o → b ≠ p → H' b = some o) ∧ H' p ≠ none
theorem But.trans {p : Addr} {H H1 H2 : Hp} (a : But p H H1) (b : But p H1 H2) : But p H H2 := ⟨fun c o e n => b.1 c o (a.1 c o e n) n, b.2⟩
theorem But.free {p : Addr} {H H' : Hp} (a : But p H H') {q : Addr} (h : H' q = none) : H q = none := by
  cases e : H q with
  | none => rfl
  | some o =>
    by_cases n : q = p
    · subst n
      exact absurd h a.2
    · rw [a.1 q o e n] at h
      cases h
theorem But.same {p : Addr} {H H1 H2 : Hp} (a : But p H H1) (b : Same H1 H2) : But p H H2 := ⟨fun c o e n => b c o (a.1 c o e n), fun z => by
  cases e : H1 p with
  | none => exact a.2 e
  | some o =>
    rw [b p o e] at z
    cases z⟩
theorem But.of {p : Addr} {H H1 : Hp} {o : HO} (h : H1 p = some o) (b : Same H H1) : But p H H1 := ⟨fun c o e n => b c o e, fun z => by
  rw [h] at z
  cases z⟩
theorem same_upd {H : Hp} {p : Addr} {o : HO} (h : H p = none) : Same H (upd H p o) := fun b x e => by
  rw [upd_ne (ne_of_none e h)]
  exact e
theorem but_upd {H : Hp} {p : Addr} {o : HO} : But p H (upd H p o) := ⟨fun b x e n => by
  rw [upd_ne n]
  exact e, fun z => by
  rw [upd_same] at z
  cases z⟩
/-- a pot at p, its cells at c -/
def Pot (H : Hp) (p c : Addr) : Prop := ∃ (ns : List Int) (pl am sz : Int), H p = some (.lst [.ref c, .int pl, .int am, .int sz]) ∧ H c = some (.lst (ns.map V.int)) ∧ ns.length ≤ 17
theorem pot_ne {H : Hp} {p c : Addr} {ns : List Int} {r : List V} (hp : H p = some (.lst (.ref c :: r))) (hc : H c = some (.lst (ns.map V.int))) : c ≠ p := fun z => by
  rw [z, hp] at hc
  cases ns with
  | nil => cases hc
  | cons x s => cases hc
theorem Pot.same {H H' : Hp} {p c : Addr} (h : Pot H p c) (s : Same H H') : Pot H' p c := by
  obtain ⟨ns, pl, am, sz, h1, h2, h3⟩ := h
  exact ⟨ns, pl, am, sz, s _ _ h1, s _ _ h2, h3⟩
theorem Pot.but {H H' : Hp} {p c q : Addr} (h : Pot H p c) (s : But q H H') (n1 : p ≠ q) (n2 : c ≠ q) : Pot H' p c := by
  obtain ⟨ns, pl, am, sz, h1, h2, h3⟩ := h
  exact ⟨ns, pl, am, sz, s.1 _ _ h1 n1, s.1 _ _ h2 n2, h3⟩
theorem at4 {x0 x1 x2 x3 : V} : atI [x0, x1, x2, x3] 0 = some x0 ∧ atI [x0, x1, x2, x3] 1 = some x1 ∧ atI [x0, x1, x2, x3] 2 = some x2 ∧ atI [x0, x1, x2, x3] 3 = some x3 := ⟨rfl, rfl, rfl, rfl⟩
theorem fmod_range {i j : Int} (h : 0 < j) : 0 ≤ i % j ∧ i % j < j := ⟨Int.emod_nonneg _ (by omega), Int.emod_lt_of_pos _ h⟩
theorem at_mod {ns : List Int} {pl : Int} (h : ns ≠ []) : ∃ z, atI (ns.map V.int) (pl % (ns.length : Int)) = some (.int z) := by
  have hl : 0 < ns.length := by
    cases ns with
    | nil => exact absurd rfl h
    | cons => exact Nat.succ_pos _
  have a := fmod_range (i := pl) (j := (ns.length : Int)) (by omega)
  obtain ⟨j, hj⟩ : ∃ j : Nat, pl % (ns.length : Int) = (j : Int) := ⟨(pl % (ns.length : Int)).toNat, by omega⟩
  have hjl : j < ns.length := by omega
  refine ⟨ns[j], ?_⟩
  rw [hj]
  refine atI_nat ?_
  rw [List.getElem?_map, List.getElem?_eq_getElem hjl]
  rfl
/-! ### data: lists of ints, of texts -/
theorem dp_ints {K : PySem.W.Frag} {H : Hp} : ∀ ns : List Int, DpAll K H (ns.map V.int) (ns.map PyData.int)
  | [] => .nil
  | n :: r => .cons (.int n) (dp_ints r)
theorem lay_ints : ∀ ns : List Int, PyData.canLayAll0 (ns.map PyData.int) = true
  | [] => by simp [PyData.canLayAll0]
  | n :: r => by simp [PyData.canLayAll0, PyData.canLay0, lay_ints r]
theorem dep_ints : ∀ ns : List Int, PyData.depthAll (ns.map PyData.int) ≤ 1
  | [] => by simp [PyData.depthAll]
  | n :: r => by
    have h := dep_ints r
    simp only [List.map_cons, PyData.depthAll, PyData.depth]
    omega
theorem sh_of {d : PyData} (h1 : d.canLay0 = true) (h2 : d.depth ≤ 64) : SeqAt.shaped d = true := by
  show (d.canLay0 && decide (d.depth ≤ 64)) = true
  rw [h1, decide_eq_true h2]
  rfl
theorem sh_ints (ns : List Int) : SeqAt.shaped (.list (ns.map PyData.int)) = true := by
  have h := dep_ints ns
  exact sh_of (by simp only [PyData.canLay0]; exact lay_ints ns) (by simp only [PyData.depth]; omega)
theorem sh_nil : SeqAt.shaped (.list []) = true := sh_of (by simp [PyData.canLay0, PyData.canLayAll0]) (by simp [PyData.depth, PyData.depthAll])
theorem eqv_nil : ∀ ds : List PyData, PyData.eqv (.list ds) (.list []) = decide (ds = [])
  | [] => by simp [PyData.eqv, PyData.eqvAll]
  | _ :: _ => by simp [PyData.eqv, PyData.eqvAll]
theorem pos17 : (0 : Int) < 17 := by decide
theorem posQ : (0 : Int) < 982451629 := by decide
theorem posP : (0 : Int) < 2305843009213693907 := by decide
/-! ### what the module holds -/
structure TxtD (mg : Str → Option Value) : Prop where
  n_int : mg "int" = none
  n_range : mg "range" = none
  n_abs : mg "abs" = none
  n_enumerate : mg "enumerate" = none
  n_len : mg "len" = none
/-! ### promises -/
def spKneaded : Sp := fun vs H Q _ => ∃ (a b : Int), vs = [.int a, .int b] ∧ ∀ v, Q (.int v) H
def spPotOf (K : PySem.W.Frag) : Sp := fun vs H Q _ => ∃ (a : Addr) (ns : List Int), vs = [.ref a] ∧ SqL K H a (ns.map V.int) ∧ ns.length ≤ 63 ∧ ∀ p c H', Same H H' → H p = none → H c = none → Pot H' p c → Q (.ref p) H'
def spBelow : Sp := fun vs H Q _ => ∃ (p c : Addr) (b : Int), vs = [.ref p, .int b] ∧ Pot H p c ∧ 0 < b ∧ b < 1073741824 ∧ ∀ v H', 0 ≤ v → v < b → Pot H' p c → But p H H' → Q (.int v) H'
def spPick (K : PySem.W.Frag) : Sp := fun vs H Q _ => ∃ (p c l : Addr) (xs : List V), vs = [.ref p, .ref l] ∧ Pot H p c ∧ SqL K H l xs ∧ xs ≠ [] ∧ xs.length < 1073741824 ∧ (∀ H', But p H H' → SqL K H' l xs) ∧ ∀ v H', v ∈ xs → Pot H' p c → But p H H' → Q v H'
section
variable {P : Program} {w : World} {K : PySem.W.Frag} {mg : Str → Option Value} {base : Heap}
theorem ok_kneaded {f : Addr} {fd : FuncData} {k : Nat} (F : Fun K "_law_kneaded" "_law_kneaded" s_law_kneaded f fd) (T : TxtD mg) : FnOk P w K mg base CX0 (k + 1) f fd ["seed", "lap"] spKneaded := by
  refine F.ok sc_law_kneaded (fun vs H Q E h => ?_) (fun cdv A outer s H vs Q E hr h => ?_)
  · obtain ⟨a, b, rfl, _⟩ := h
    rfl
  · obtain ⟨a, b, rfl, q⟩ := h
    refine ⟨_, (pss_cons (ps_set (i := 2) sc_law_kneaded.nd rfl (.inl rfl) pe_int)
  (pss_cons (ps_set (i := 3) sc_law_kneaded.nd rfl (.inl rfl) (pe_op op_mod (pe_callTy call_int1 (by rfl) T.n_int (by decide +kernel) (pa_cons (pe_op op_add (pe_op op_add (pe_op op_mul (pv 0) pe_int) (pe_op op_mul (pv 1) pe_int)) pe_int) pa_nil)) (pv 2)))
  (pss_cons (ps_for PassesOwn.never rfl (pi_range1 (by rfl) T.n_range (pa_cons pe_int pa_nil)) (pg_name (i := 4) sc_law_kneaded.nd rfl (.inl rfl))
   (pss_one (ps_set (i := 3) sc_law_kneaded.nd rfl (.inl rfl) (pe_op op_mod (pe_callTy call_int1 (by rfl) T.n_int (by decide +kernel) (pa_cons (pe_op op_add (pe_op op_add (pe_op op_add (pe_op op_mul (pv 3) (pv 3)) (pe_op op_mul pe_int (pv 3))) (pe_op op_mul pe_int (pv 4))) (pv 1)) pa_nil)) (pv 2)))))
  (pss_one (ps_ret (pe_op op_add (pe_op op_mul (pv 3) (pv 2)) (pe_op op_mod (pe_callTy call_int1 (by rfl) T.n_int (by decide +kernel) (pa_cons (pe_op op_add (pe_op op_mul (pv 3) pe_int) (pv 1)) pa_nil)) (pv 2)))))))), ?_⟩
    -- prime = ..; amount = ..
    refine ⟨_, rfl, _, _, rfl, rfl, .inr ⟨by decide, by decide⟩, _, rfl, _, _, rfl, rfl, .inr ⟨by decide, by decide⟩, _, _, rfl, rfl, _, _, rfl, rfl, .inl ⟨_, rfl, _, rfl, _, _, rfl, rfl, posP, ?_⟩⟩
    refine ⟨4, rfl, by decide, by decide, for_range (n := 4) (fun i σ H2 => H2 = H ∧ ∃ (am : Int) (v : Option V), σ = [some (.int a), some (.int b), some (.int 2305843009213693907), some (.int am), v] ∧ 0 ≤ am ∧ am < 2305843009213693907)
      ⟨rfl, _, none, rfl, (fmod_range (by decide)).1, (fmod_range (by decide)).2⟩ ?_ ?_⟩
    · rintro i σ H2 hi ⟨rfl, am, v, rfl, h1, h2⟩
      refine ⟨_, rfl, _, rfl, _, _, rfl, rfl, .inl ⟨by omega, by omega⟩, _, rfl, _, _, rfl, rfl, .inl ⟨by decide, by decide⟩, _, _, rfl, rfl, _, rfl, _, _, rfl, rfl, .inl ⟨by decide, by decide⟩, _, _, rfl, rfl, _, rfl, _, _, rfl, rfl, .inl ⟨_, rfl, _, rfl, _, _, rfl, rfl, posP, ?_⟩⟩
      exact ⟨rfl, _, _, rfl, (fmod_range (by decide)).1, (fmod_range (by decide)).2⟩
    · rintro σ H2 ⟨rfl, am, v, rfl, h1, h2⟩
      refine ⟨_, rfl, _, rfl, _, _, rfl, rfl, .inl ⟨by omega, by omega⟩, _, rfl, _, _, rfl, rfl, .inl ⟨by omega, by omega⟩, _, rfl, _, _, rfl, rfl, .inl ⟨_, rfl, _, rfl, _, _, rfl, rfl, posP, ?_⟩⟩
      exact ⟨_, _, rfl, rfl, q _⟩
theorem cut_map (ns : List Int) (lo hi : Option Int) : cutV (ns.map V.int) lo hi = ((ns.drop (HT.sIx ns.length 0 lo)).take (HT.sIx ns.length ns.length hi - HT.sIx ns.length 0 lo)).map V.int := by
  unfold cutV
  rw [List.length_map, List.map_take, List.map_drop]
theorem ok_pot_of {f : Addr} {fd : FuncData} {k : Nat} (F : Fun K "_law_pot_of" "_law_pot_of" s_law_pot_of f fd) (T : TxtD mg) : FnOk P w K mg base CX0 (k + 1) f fd ["script"] (spPotOf K) := by
  refine F.ok sc_law_pot_of (fun vs H Q E h => ?_) (fun cdv A outer s H vs Q E hr h => ?_)
  · obtain ⟨a, ns, rfl, _⟩ := h
    rfl
  · obtain ⟨a, ns, rfl, hS, hl, q⟩ := h
    refine ⟨_, (pss_cons (ps_setLc (i := 2) (own := [("cell", 1)]) (g := gName 1) rfl sc_law_pot_of.nd rfl rfl (sw_true rfl rfl rfl (by decide +kernel)) (pi_list (pe_slice sl_list (pv 0) po_none (po_some pe_int))) (blkOk_by (own := [("cell", 1)]) (N := ["script", "cell", "cells", "place"]) (sc := defScope s_law_pot_of) (by decide +kernel)) (fun _ _ _ _ _ => (pg_name (i := 1) sc_law_pot_of.nd rfl (.inl rfl))) (fun _ _ _ _ _ => pts_nil) (fun _ _ _ _ _ => (pe_callB call_abs (by rfl) T.n_abs (by decide +kernel) (pa_cons (pv 1) pa_nil))))
  (pss_cons (ps_for PassesOwn.never rfl (pi_enum (by rfl) T.n_enumerate (pa_cons (pe_slice sl_list (pv 0) (po_some pe_int) (po_some pe_int)) pa_nil)) (pg_tup rfl (pgs_cons (pg_name (i := 3) sc_law_pot_of.nd rfl (.inl rfl)) (pgs_cons (pg_name (i := 1) sc_law_pot_of.nd rfl (.inl rfl)) pgs_nil)))
   (pss_one (ps_asg (pe_op op_add (pe_ix ix_list (pv 2) (pe_op op_mod (pv 3) pe_int) (fun _ _ => rfl)) (pe_callB call_abs (by rfl) T.n_abs (by decide +kernel) (pa_cons (pv 1) pa_nil))) (pg_sub (pv 2) (pe_op op_mod (pv 3) pe_int) set_list))))
  (pss_one (ps_ret (pe_lst (pa_cons (pv 2) (pa_cons pe_int (pa_cons pe_int (pa_cons pe_int pa_nil))))))))), ?_⟩
    -- cells
    refine ⟨_, rfl, _, rfl, a, _, rfl, hS, fun p1 n1 => ?_⟩
    rw [cut_map]
    generalize hm : (ns.drop (HT.sIx ns.length 0 none)).take (HT.sIx ns.length ns.length (some 17) - HT.sIx ns.length 0 none) = ms
    have lm : ms.length = min 17 ns.length := by
      rw [← hm, HT.sIx_none, show HT.sIx ns.length ns.length (some 17) = min 17 ns.length from HT.sIx_nat ns.length ns.length 17]
      rw [List.drop_zero, List.length_take]
      omega
    have s1 : Same H (upd H p1 (.lst (ms.map V.int))) := same_upd n1
    refine ⟨p1, rfl, ⟨_, .inl (.inl upd_same)⟩, fun D nD => ?_⟩
    have nDH : H D = none := s1.free nD
    have nDp : p1 ≠ D := fun z => by
      rw [z, upd_same] at nD
      cases nD
    refine lc_list (K := K) (a := p1) (xs := ms.map V.int) (fun i H2 => Same (upd H p1 (.lst (ms.map V.int))) H2 ∧ ∃ zs : List Int, H2 D = some (.lst (zs.map V.int)) ∧ zs.length = i) ⟨same_upd nD, [], upd_same, rfl⟩ (fun i H2 _ h => .inl (.inl (h.1 _ _ upd_same))) ?_ ?_
    · rintro i x H2 hi ⟨s2, zs, hz, hlz⟩
      have hil : i < ms.length := by
        have h := (List.getElem?_eq_some_iff.mp hi).1
        rw [List.length_map] at h
        exact h
      rw [List.getElem?_map, List.getElem?_eq_getElem hil] at hi
      obtain rfl : V.int ms[i] = x := Option.some.inj hi
      refine ⟨rfl, ?_⟩
      unfold tYes
      dsimp only
      rw [if_pos rfl]
      refine ⟨_, rfl, _, rfl, _, hz, ?_, ?_, ?_⟩
      · rw [List.length_map]
        exact small1000 (by omega)
      · exact fun b o e => by
          have hb : b ≠ D := ne_of_none e nD
          rw [upd_ne hb]
          exact s2 b o e
      · refine ⟨zs ++ [if ms[i] < 0 then -ms[i] else ms[i]], ?_, ?_⟩
        · rw [upd_same, List.map_append]
          rfl
        · rw [List.length_append, hlz]
          rfl
    · rintro H2 ⟨s2, zs, hz, hlz⟩
      have sH : Same H H2 := s1.trans s2
      rw [List.length_map] at hlz
      -- enumerate(script[17:60])
      refine ⟨_, rfl, _, rfl, _, rfl, a, _, rfl, sH.seq hS, fun p2 n2 => ?_⟩
      rw [cut_map]
      generalize hm2 : (ns.drop (HT.sIx ns.length 0 (some 17))).take (HT.sIx ns.length ns.length (some 60) - HT.sIx ns.length 0 (some 17)) = ms2
      have lm2 : ms2.length = min 60 ns.length - 17 := by
        rw [← hm2, show HT.sIx ns.length ns.length (some 60) = min 60 ns.length from HT.sIx_nat ns.length ns.length 60, show HT.sIx ns.length 0 (some 17) = min 17 ns.length from HT.sIx_nat ns.length 0 17]
        rw [List.length_take, List.length_drop]
        omega
      have s3 : Same H2 (upd H2 p2 (.lst (ms2.map V.int))) := same_upd n2
      have nDp2 : D ≠ p2 := ne_of_none hz n2
      refine ⟨p2, _, rfl, .inl (.inl upd_same), ?_⟩
      refine for_it (walk_enum (xs := ms2.map V.int)) (fun i σ H3 => Same H H3 ∧ H3 p2 = some (.lst (ms2.map V.int)) ∧ ∃ (zs : List Int) (y z : Option V), σ = [some (.ref a), y, some (.ref D), z] ∧ H3 D = some (.lst (zs.map V.int)) ∧ zs.length = ms.length)
        ⟨sH.trans s3, upd_same, zs, _, _, rfl, s3 _ _ hz, hlz⟩ (fun i σ H3 _ h => .inl (.inl h.2.1)) ?_ ?_
      · rintro i x σ H3 H4 hi ⟨s4, h4, zs4, y, z, rfl, hz4, lz4⟩ ⟨T4, x4, y4, rfl, nT, rfl, ex, ey⟩
        rw [List.length_map] at hi
        have ey : (ms2.map V.int)[i]? = some y4 := ey
        rw [List.getElem?_map, List.getElem?_eq_getElem hi] at ey
        obtain rfl : V.int ms2[i] = y4 := Option.some.inj ey
        obtain rfl : V.int (i : Nat) = x4 := Option.some.inj ex
        have l17 : zs4.length = 17 := by omega
        have r := fmod_range (i := ((i : Nat) : Int)) (j := 17) (by omega)
        obtain ⟨j, hj⟩ : ∃ j : Nat, ((i : Nat) : Int) % 17 = (j : Int) := ⟨(((i : Nat) : Int) % 17).toNat, by omega⟩
        have hjl : j < zs4.length := by omega
        have s5 : Same H3 (upd H3 T4 (.tup [.int (i : Nat), .int ms2[i]])) := same_upd nT
        have hz5 := s5 _ _ hz4
        refine ⟨T4, _, rfl, .inl (.inl upd_same), rfl, _, _, rfl, _, _, rfl, rfl, ?_⟩
        refine ⟨_, rfl, _, rfl, _, _, rfl, rfl, pos17, D, _, _, V.int zs4[j], rfl, rfl, .inl (.inl hz5), ?_, _, rfl, _, rfl, _, _, rfl, rfl, _, rfl, _, rfl, _, _, rfl, rfl, pos17, D, _, _, j, rfl, rfl, hz5, ?_, ?_⟩
        · rw [hj]
          refine atI_nat ?_
          rw [List.getElem?_map, List.getElem?_eq_getElem hjl]
          rfl
        · rw [List.length_map, hj]
          unfold ixN
          rw [if_pos (by omega), if_pos (by omega)]
          rfl
        · refine ⟨?_, ?_, zs4.set j (zs4[j] + (if ms2[i] < 0 then -ms2[i] else ms2[i])), _, _, rfl, ?_, ?_⟩
          · exact fun b o e => by
              have hb : b ≠ D := ne_of_none e nDH
              rw [upd_ne hb]
              exact s5 _ _ (s4 b o e)
          · rw [upd_ne (fun z => nDp2 z.symm)]
            exact s5 _ _ h4
          · rw [upd_same, List.map_set]
          · rw [List.length_set]
            exact lz4
      · rintro σ H3 ⟨s4, h4, zs4, y, z, rfl, hz4, lz4⟩
        refine ⟨_, rfl, ?_, fun p np => ?_⟩
        · show 4 ≤ sizeLine
          decide
        · have s6 : Same H3 (upd H3 p (.lst [.ref D, .int 0, .int 0, .int 0])) := same_upd np
          exact q p D _ (s4.trans s6) (s4.free np) nDH ⟨zs4, 0, 0, 0, upd_same, s6 _ _ hz4, by omega⟩
theorem ok_below {f fk : Addr} {fd fdk : FuncData} {k : Nat} (F : Fun K "_law_below" "_law_below" s_law_below f fd) (T : TxtD mg) (F__law_kneaded : Fun K "_law_kneaded" "_law_kneaded" s_law_kneaded fk fdk) (b__law_kneaded : Binds K fdk ["seed", "lap"] []) (g_k : mg "_law_kneaded" = some (.ref fk)) :
    FnOk P w K mg base CX0 (k + 2) f fd ["pot", "bound"] spBelow := by
  have G__law_kneaded : FnOk P w K mg base CX0 1 fk fdk ["seed", "lap"] spKneaded := ok_kneaded F__law_kneaded T
  refine F.ok sc_law_below (fun vs H Q E h => ?_) (fun cdv A outer s H vs Q E hr h => ?_)
  · obtain ⟨p, c, b, rfl, _⟩ := h
    rfl
  · obtain ⟨p, c, b, rfl, ⟨ns, pl, am, sz, hp, hc, hl⟩, b0, b1, q⟩ := h
    refine ⟨_, (C8.pss_cut (ps_if (pt_cmpR op_lt (pe_ix ix_list (pv 0) pe_int (fun _ _ => rfl)) (pv 1) (nomark _))
   (pss_cons (ps_par (i := 2) (j := 3) (by rfl) sc_law_below.nd rfl rfl (by decide) rfl rfl (pa_cons (pe_ix ix_list (pv 0) pe_int (fun _ _ => rfl)) (pa_cons (pe_ix ix_list (pv 0) pe_int (fun _ _ => rfl)) pa_nil)) (by rfl))
  (C8.pss_cut (ps_set (i := 4) sc_law_below.nd rfl (.inl rfl) (pe_ifExp (pt_cmpR (op_neD hr.units) (pv 2) (pe_lst pa_nil) (nomark _)) (pe_ix ix_list (pv 2) (pe_op op_mod (pv 3) (pe_callB call_len_seq (by rfl) T.n_len (by decide +kernel) (pa_cons (pv 2) pa_nil))) (fun _ _ => rfl)) pe_int))
  (C8.pss_cut (ps_if (PW.pt (pw_or (pt_cmpR op_ge (pv 3) (pe_callB call_len_seq (by rfl) T.n_len (by decide +kernel) (pa_cons (pv 2) pa_nil)) (nomark _)) (pw_or1 (pt_cmpR op_lt (pv 4) (pe_op op_pow pe_int pe_int) (nomark _)))))
   (pss_one (ps_set (i := 4) sc_law_below.nd rfl (.inl rfl) (pe_call G__law_kneaded (hr.mono (by omega)) (by rfl) g_k F__law_kneaded.kp b__law_kneaded .nil pass0 (pa_cons (pe_op op_mod (pe_callTy call_int1 (by rfl) T.n_int (by decide +kernel) (pa_cons (pv 4) pa_nil)) pe_int) (pa_cons (pv 3) pa_nil)))))
   pss_nil)
  (pss_cons (ps_asg (pe_op op_add (pv 3) pe_int) (pg_sub (pv 0) pe_int set_list))
  (pss_cons (ps_asg (pv 4) (pg_sub (pv 0) pe_int set_list))
  (pss_one (ps_asg (pv 4) (pg_sub (pv 0) pe_int set_list))))))))
   pss_nil)
  (pss_cons (ps_set (i := 5) sc_law_below.nd rfl (.inl rfl) (pe_op op_mod (pe_callTy call_int1 (by rfl) T.n_int (by decide +kernel) (pa_cons (pe_ix ix_list (pv 0) pe_int (fun _ _ => rfl)) pa_nil)) (pv 1)))
  (pss_cons (ps_asg (pe_op op_fdiv (pe_ix ix_list (pv 0) pe_int (fun _ _ => rfl)) (pv 1)) (pg_sub (pv 0) pe_int set_list))
  (pss_cons (ps_asg (pe_op op_fdiv (pe_ix ix_list (pv 0) pe_int (fun _ _ => rfl)) (pv 1)) (pg_sub (pv 0) pe_int set_list))
  (pss_one (ps_ret (pv 5))))))), ?_⟩
    have ncp : c ≠ p := pot_ne hp hc
    refine ⟨fun σ H2 => ∃ (pl2 am2 sz2 : Int) (x2 x3 x4 : Option V), σ = [some (.ref p), some (.int b), x2, x3, x4, none] ∧ But p H H2 ∧ H2 p = some (.lst [.ref c, .int pl2, .int am2, .int sz2]) ∧ H2 c = some (.lst (ns.map V.int)), ?_, ?_⟩
    · refine ⟨_, rfl, p, _, _, _, rfl, rfl, .inl (.inl hp), at4.2.2.2, _, rfl, _, _, rfl, rfl, _, rfl, ite2 (fun e => ?_) (fun e => ?_)⟩
      · refine ⟨_, rfl, p, _, _, _, rfl, rfl, .inl (.inl hp), at4.1, _, rfl, p, _, _, _, rfl, rfl, .inl (.inl hp), at4.2.1, _, _, rfl, ?_⟩
        -- amount = cells[..] if cells != [] else 0
        refine ⟨fun σ H2 => ∃ am3 : Int, σ = [some (.ref p), some (.int b), some (.ref c), some (.int pl), some (.int am3), none] ∧ Same H H2, ?_, ?_⟩
        · refine ⟨_, rfl, Nat.zero_le _, fun o no => ?_⟩
          have so : Same H (upd H o (.lst [])) := same_upd no
          have ho : SqL K (upd H o (.lst [])) o [] := .inl (.inl upd_same)
          have hp1 := so _ _ hp
          have hc1 := so _ _ hc
          refine ⟨_, _, .lst (.inl (.inl hc1)) (dp_ints ns), .lst ho .nil, sh_ints ns, sh_nil, _, rfl, ?_⟩
          rw [eqv_nil]
          by_cases hn : ns = []
          · subst hn
            refine iteF ?_
            exact ⟨_, rfl, so⟩
          · have h1 : decide (ns.map PyData.int = []) = false := by
              cases ns with
              | nil => exact absurd rfl hn
              | cons => rfl
            rw [h1]
            refine iteT ?_
            obtain ⟨z, hz⟩ := at_mod (pl := pl) hn
            have hl0 : 0 < ns.length := by
              cases ns with
              | nil => exact absurd rfl hn
              | cons => exact Nat.succ_pos _
            refine ⟨_, rfl, _, rfl, _, rfl, c, _, rfl, .inl (.inl (.inl hc1)), _, _, rfl, rfl, ?_, c, _, _, V.int z, rfl, rfl, .inl (.inl hc1), ?_, ?_⟩
            · rw [List.length_map]
              omega
            · rw [List.length_map]
              exact hz
            · exact ⟨z, rfl, so⟩
        -- if place >= len(cells) or amount < 10 ** 16
        · rintro σ H2 ⟨am3, rfl, s2⟩
          have hp2 := s2 _ _ hp
          have hc2 := s2 _ _ hc
          refine ⟨fun σ H2 => ∃ am3 : Int, σ = [some (.ref p), some (.int b), some (.ref c), some (.int pl), some (.int am3), none] ∧ Same H H2, ?_, ?_⟩
          · have yes : ∃ am4 : Int, ∀ v : Int, True := ⟨0, fun _ => True.intro⟩
            refine ⟨_, rfl, _, rfl, c, _, rfl, .inl (.inl (.inl hc2)), _, _, rfl, rfl, _, rfl, ?_⟩
            refine ite2 (fun e => ?_) (fun e => ?_)
            · refine iteT ?_
              refine ⟨_, rfl, .inl ⟨_, rfl, _, _, rfl, rfl, posQ, _, rfl, _, _, rfl, fun v => ⟨v, rfl, s2⟩⟩⟩
            · refine ⟨_, rfl, _, _, rfl, rfl, ⟨by decide, by decide, by decide⟩, _, _, rfl, rfl, _, rfl, ?_⟩
              refine ite2 (fun e => ?_) (fun e => ?_)
              · refine ⟨_, rfl, .inl ⟨_, rfl, _, _, rfl, rfl, posQ, _, rfl, _, _, rfl, fun v => ⟨v, rfl, s2⟩⟩⟩
              · exact ⟨am3, rfl, s2⟩
          · -- pot[1] = place + 1; pot[2] = amount; pot[3] = amount
            rintro σ H2 ⟨am3, rfl, s2⟩
            have hp2 := s2 _ _ hp
            have hc2 := s2 _ _ hc
            refine ⟨_, rfl, _, _, rfl, rfl, _, rfl, p, _, _, _, rfl, rfl, hp2, rfl, ?_⟩
            refine ⟨_, rfl, _, rfl, p, _, _, _, rfl, rfl, upd_same, rfl, ?_⟩
            refine ⟨_, rfl, _, rfl, p, _, _, _, rfl, rfl, upd_same, rfl, ?_⟩
            refine ⟨pl + 1, am3, am3, _, _, _, rfl, (((But.of hp2 s2).trans but_upd).trans but_upd).trans but_upd, ?_, ?_⟩
            · rw [upd_same]
              rfl
            · rw [upd_ne ncp, upd_ne ncp, upd_ne ncp]
              exact hc2
      · exact ⟨pl, am, sz, none, none, none, rfl, ⟨fun _ _ z _ => z, by rw [hp]; exact fun z => nomatch z⟩, hp, hc⟩
    · rintro σ H2 ⟨pl2, am2, sz2, x2, x3, x4, rfl, hb, hp2, hc2⟩
      -- found = int(pot[2]) % bound
      refine ⟨_, rfl, p, _, _, _, rfl, rfl, .inl (.inl hp2), at4.2.2.1, .inl ⟨_, rfl, _, rfl, _, _, rfl, rfl, b0, ?_⟩⟩
      -- pot[2] = pot[2] // bound; pot[3] = pot[3] // bound
      refine ⟨_, rfl, p, _, _, _, rfl, rfl, .inl (.inl hp2), at4.2.2.1, _, rfl, _, _, rfl, rfl, ⟨b0, b1⟩, _, rfl, p, _, _, _, rfl, rfl, hp2, rfl, ?_⟩
      refine ⟨_, rfl, p, _, _, _, rfl, rfl, .inl (.inl upd_same), at4.2.2.2, _, rfl, _, _, rfl, rfl, ⟨b0, b1⟩, _, rfl, p, _, _, _, rfl, rfl, upd_same, rfl, ?_⟩
      refine ⟨_, rfl, q _ _ (fmod_range b0).1 (fmod_range b0).2 ⟨ns, pl2, am2 / b, sz2 / b, ?_, ?_, hl⟩ ((hb.trans but_upd).trans but_upd)⟩
      · rw [upd_same]
        rfl
      · rw [upd_ne ncp, upd_ne ncp]
        exact hc2
theorem ok_pick {f fb : Addr} {fd fdb : FuncData} {k : Nat} (F : Fun K "_law_pick" "_law_pick" s_law_pick f fd) (T : TxtD mg) (F__law_below : Fun K "_law_below" "_law_below" s_law_below fb fdb) (b__law_below : Binds K fdb ["pot", "bound"] []) (g_b : mg "_law_below" = some (.ref fb))
    (G__law_below : FnOk P w K mg base CX0 2 fb fdb ["pot", "bound"] spBelow) : FnOk P w K mg base CX0 (k + 3) f fd ["pot", "items"] (spPick K) := by
  refine F.ok sc_law_pick (fun vs H Q E h => ?_) (fun cdv A outer s H vs Q E hr h => ?_)
  · obtain ⟨p, c, l, xs, rfl, _⟩ := h
    rfl
  · obtain ⟨p, c, l, xs, rfl, hP, hS, hne, hlen, hk, q⟩ := h
    have hl : 0 < xs.length := by
      cases xs with
      | nil => exact absurd rfl hne
      | cons => exact Nat.succ_pos _
    refine ⟨_, (pss_one (ps_ret (pe_ix ix_list (pv 1) (pe_call G__law_below (hr.mono (by omega)) (by rfl) g_b F__law_below.kp b__law_below .nil pass0 (pa_cons (pv 0) (pa_cons (pe_callB call_len_seq (by rfl) T.n_len (by decide +kernel) (pa_cons (pv 1) pa_nil)) pa_nil))) (fun _ _ => rfl)))), ?_⟩
    refine ⟨_, rfl, _, rfl, _, rfl, l, xs, rfl, .inl hS, p, c, _, rfl, hP, by omega, by omega, fun v H' v0 v1 hP' hb => ?_⟩
    obtain ⟨j, rfl⟩ : ∃ j : Nat, v = (j : Int) := ⟨v.toNat, by omega⟩
    have hj : j < xs.length := by omega
    exact ⟨l, xs, _, xs[j], rfl, rfl, hk H' hb, atI_nat (List.getElem?_eq_getElem hj), q _ H' (List.getElem_mem hj) hP' hb⟩
end
end My

namespace My
open PySem PySem.Spec PyProof.Rows L2
/-! ### defs whose run shows containers: nothing is being shown around them -/
structure FnG (P : Program) (w : World) (K : PySem.W.Frag) (mg : Str → Option Value) (base : Heap) (CX : CXT) (k : Nat) (f : Addr) (fd : FuncData) (ps : List Str) (sp : Sp) : Prop where
  many : ∀ vs H Q E, sp vs H Q E → vs.length = ps.length
  go : ∀ {A : Around} {outer : List Env} {s : Shared} {H : Hp} {args : Args} {us : List Value} {vs : List V} {Q : VK} {E : XK}, Room k A → A.guards = some [] → Env0 P w K mg base A outer s H → BindsTo s fd args (ps.zip us) → Vals vs us →
    sp vs H Q E → codeAny (model P w) A (.call (.ref f) args) (CR CX outer P w H s Q E) s
theorem guards_deeper {A : Around} {env : Env} (h : A.guards = some []) : (A.deeper env).guards = some [] := by
  first | exact h | (simp [Around.deeper, h]; done)
section
variable {P : Program} {w : World} {K : PySem.W.Frag} {mg : Str → Option Value} {base : Heap} {CX : CXT} {k : Nat} {f : Addr} {fd : FuncData} {ps : List Str} {sp : Sp}
theorem FnG.of (F : FnOk P w K mg base CX k f fd ps sp) : FnG P w K mg base CX k f fd ps sp :=
  ⟨F.len, fun r _ e b v h => F.run _ _ _ _ _ _ _ _ _ r e b v h⟩
/-- a def by its body, where nothing is being shown -/
theorem go_of {x qual : Str} {st : Stmt} {N : List Str} (F : Fun K x qual st f fd) (S : FnScope N ps (defScope st)) (many : ∀ vs H Q E, sp vs H Q E → vs.length = ps.length)
    (hb : ∀ (cdv : Value) (A : Around) (outer : List Env) (s : Shared) (H : Hp) (vs : List V) (Q : VK) (E : XK), Room k (A.deeper (envOfC qual (defScope st) s.heap.objs.size f cdv)) → (A.deeper (envOfC qual (defScope st) s.heap.objs.size f cdv)).guards = some [] →
      sp vs H Q E → ∃ t, PSs (cxOf CX P w K mg base N qual (defScope st) f cdv A outer s H E) (defBody st) t ∧ t { nx := fun _ H' => Q .non H', rt := Q } (start N vs) H) : FnG P w K mg base CX (k + 1) f fd ps sp := by
  obtain ⟨oc, od, kV, doc, pm, an, cdv, ct, osl, e1, lk, hcd⟩ := F.ex
  subst e1
  refine ⟨many, ?_⟩
  intro A outer s H args us vs Q E room quiet e0 bind rel want
  have inK := e0.mod.kin.keeps (h' := s.heap) (fun b o z => (e0.bs b o z).1)
  have nolim := e0.mod.nolimit.keeps (h' := s.heap) (fun b o z => (e0.bs b o z).1)
  have kinds : ∀ y ∈ ps.zip us, (defScope st).names.lookup y.1 = some .local ∨ ((defScope st).names.lookup y.1 = some .cell ∧ ((cellsFrom (s.heap.objs.size + 1) (defScope st).names []).lookup y.1).isSome = true) := by
    rintro ⟨n, v⟩ hy
    have hn := (List.of_mem_zip hy).1
    cases S.par n hn with
    | inl z => exact Or.inl z
    | inr z => exact Or.inr ⟨z, PySem.W.cellsFrom_some _ _ _ (Or.inl z)⟩
  refine codeAny_call_function room.depth (inK _ _ lk) rfl S.co S.gen rfl (PySem.W.codeRec_of inK hcd) (bind _ _ _ _ (wpAny_newFunctionEnv_cells S.kind kinds ?_))
  rintro env rfl s1 ic
  obtain ⟨t, ht, ready⟩ := hb cdv A outer s H vs Q E (room.deeper _) (guards_deeper quiet) want
  have J : Inv (cxOf CX P w K mg base N qual (defScope st) f cdv A outer s H E) [] (start N vs) H s1 := inv_start S room.hd e0 (many _ _ _ _ want) rel ic
  refine ⟨nolim.keeps ic.toInCall.keep, codeAny_func (wpAny_mono (ht.run [] s1 _ H _ J ready) ?_ (fun _ _ z => z))⟩
  intro fl s' hs
  cases fl with
  | next =>
    obtain ⟨σ', H', J', q⟩ := hs
    exact ⟨V.non, H', J'.os, J'.bare, J'.base, J'.hok, rfl, q⟩
  | ret u =>
    obtain ⟨v, σ', H', J', rv, q⟩ := hs
    exact ⟨v, H', J'.os, J'.bare, J'.base, J'.hok, rv, q⟩
  | brk =>
    obtain ⟨_, _, _, z⟩ := hs
    exact (z : False).elim
  | cont =>
    obtain ⟨_, _, _, z⟩ := hs
    exact (z : False).elim
end
section
variable {X : Cx} {CX : CXT} {k : Nat} {f : Addr} {fd : FuncData} {ps : List Str} {sp : Sp} {dvs : List V} {ds : List Value} {E : XK} {x : Str} {p pos : Pos} {e : Expr} {es : List Expr} {t : TA}
/-- a call of such a def from where nothing is being shown -/
theorem pe_callG (F : FnG X.prog X.w X.K X.mg X.base CX k f fd ps sp) (hr : Room k X.A) (quiet : X.A.guards = some []) (hg : Gl X x) (hm : X.mg x = some (.ref f)) (hk : PySem.W.keepIn X.K (.ref f) = true) (hb : Binds X.K fd ps ds) (hd : Vals dvs ds) (hx : Passes CX X E)
    (ha : PA X (e :: es) t) (hdb : (x == ("__debug__" : Str)) = false := by decide) (he : starEach (e :: es) X.env = (false, eval e X.env) :: starEach es X.env := by rfl) (hpl : (backTo pos (starEach es X.env)).any (·.1) = false := by rfl) :
    PE X (.Call (.Name x p) (e :: es) [] pos) (tCall sp dvs E t) := by
  constructor
  intro pins s σ H Q I h
  have args := ha.run pos pins s σ H _ I h
  refine wpAny_Call_Name_kw (ld_glob I hg hm (PySem.W.callWith_K (h₀ := X.base) I.ok.mod.kin hk (thn args ?_) he hpl) hdb)
  rintro us s1 ⟨vs, H1, J, r, want⟩
  have rel := r.append hd
  refine ⟨J.kIn, wpAny_call (codeAny_mono (F.go (A := X.A) hr quiet J.env0 (hb s1 us J.kIn ?_) rel want) ?_)⟩
  · have z := rel.length
    rw [← z]
    exact F.many _ _ _ _ want
  · intro res s' hq
    match res, hq with
    | .error _, hq => exact hx pins σ H1 s1 _ s' J hq
    | .ok (.ret _), hq => exact J.after hq
    | .ok .next, hq => exact False.elim hq
    | .ok .brk, hq => exact False.elim hq
    | .ok .cont, hq => exact False.elim hq
end
/-! ### repr of data -/
structure rRepr (K : PySem.W.Frag) (xs : List V) (H : Hp) (Q : VK) : Prop where
  ex : ∃ x d, xs = [x] ∧ Dp K H x d ∧ d.showable = true ∧ d.canLay0 = true ∧ d.depth ≤ 60 ∧ d.shown.length ≤ sizeLine ∧ Q (.str d.shown) H
theorem call_repr {X : Cx} (quiet : X.A.guards = some []) (hu : X.A.units + 64 < cLine) : CallR X (.builtin "repr") (rRepr X.K) := by
  intro pins s σ H xs us Q I r h
  obtain ⟨x, d, rfl, hd, h1, h2, h3, h4, q⟩ := h
  obtain ⟨u, rfl, ru⟩ := vals1 r
  cases hd with
  | non =>
    cases (show u = Value.none from ru)
    exact PySem.P.repr_of_none ⟨.str "None", H, I.tok _, ⟨_, rfl⟩, by simpa only [PyData.shown] using q⟩
  | bl b =>
    cases (show u = Value.bool b from ru)
    exact PySem.P.repr_of_bool ⟨.str (if b then "True" else "False"), H, I.tok _, ⟨_, rfl⟩, by simpa only [PyData.shown] using q⟩
  | int i =>
    obtain ⟨tk, rfl⟩ := (show ∃ t, u = Value.int i t from ru)
    exact PySem.P.repr_of_int (by simpa only [PyData.showable, decide_eq_true_eq] using h1) ⟨V.str (Str.ofString (toString i)), H, I.tok _, ⟨_, rfl⟩, by simpa only [PyData.shown] using q⟩
  | str z =>
    obtain ⟨tk, rfl⟩ := (show ∃ t, u = Value.str z t from ru)
    exact PySem.P.repr_of_str ⟨.str (reprText z), H, I.tok _, ⟨_, rfl⟩, by simpa only [PyData.shown] using q⟩ (by simpa only [PyData.shown] using h4)
  | @lst a ys ds hs ha =>
    cases (show u = Value.ref a from ru)
    obtain ⟨as, rd⟩ := Dp.reads I (.list ds) (.ref a) (.ref a) (.lst hs ha) rfl
    exact PySem.repr_of_reads' rd h1 (PyData.noDict_hsm (PyData.hasDict_of_canLay _ h2)) quiet (by omega) (fun _ _ z => z) (fun h' v tk k => ⟨.str (PyData.list ds).shown, H, I.kept k, ⟨_, rfl⟩, q⟩) h4
  | @tup a ys ds hs ha =>
    cases (show u = Value.ref a from ru)
    obtain ⟨as, rd⟩ := Dp.reads I (.tuple ds) (.ref a) (.ref a) (.tup hs ha) rfl
    exact PySem.repr_of_reads' rd h1 (PyData.noDict_hsm (PyData.hasDict_of_canLay _ h2)) quiet (by omega) (fun _ _ z => z) (fun h' v tk k => ⟨.str (PyData.tuple ds).shown, H, I.kept k, ⟨_, rfl⟩, q⟩) h4
/-! ### the law's own call -/
/-- only the script may be tracked -/
def One (H : Hp) (a : Addr) : Prop := ∀ b, H b = none ∨ (b = a ∧ ∃ o xs, H b = some (.frz o (.lst xs)))
section
variable {P : Program} {w : World} {K : PySem.W.Frag} {mg mb : Str → Option Value} {k : Nat} {fa a : Addr} {fd : FuncData} {x : Str} {sp : Sp} {s₁ : Shared} {vs : List Value} {ns : List Int}
/-- a law's def run at its call, from an abstract heap that tracks the script or nothing -/
theorem top_run {H : Hp} (KX : K.In s₁.heap) (hns : s₁.heap.Ns mainGlobals mg) (hb : s₁.heap.Ns builtinsNs mb) (hbb : ∀ y : Str, y ≠ "__name__" → mb y = bootBuiltins y) (hlim : s₁.heap.NoLimit) (hg : s₁.gens = #[])
    (ha : s₁.heap.get? a = some { cls := .type "list", data := .seq vs.toArray }) (hr : Room k callerA) (hbind : ∀ (s : Shared) (u : Value), BindsTo s fd ⟨[u], []⟩ [(x, u)])
    (F : ∀ base : Heap, K.In base → base.Ns mainGlobals mg → FnG P w K mg base CX0 k fa fd [x] sp)
    (one : One H a) (free : H a ≠ none → K.lookup a = none) (ok : HOk P w H s₁.heap) (want : sp [.ref a] H (fun v _ => v = .bl true) fun _ _ _ => False) :
    codeAny (model P w) callerA (.call (.ref fa) ⟨[.ref a], []⟩) (fun r s' => r = .ok (.ret (.bool true)) ∧ OldK s₁.heap s'.heap ∧ s'.os = s₁.os ∧ AllBare s'.gens) s₁ := by
  have not_a : ∀ {b : Addr}, b ≠ a → H b = none := fun {b} n => (one b).elim id fun z => (n z.1).elim
  have seen : ∀ {b : Addr} {o : Obj}, s₁.heap.get? b = some o → H b = none → (hidT s₁.heap H).get? b = some o := hidT_get
  have dict_free : ∀ {b : Addr} {o : Obj} {es : Array DictEntry} {ep : Nat}, s₁.heap.get? b = some o → o.data = .dict es ep → H b = none := by
    intro b o es ep e1 e2
    refine not_a fun z => ?_
    subst z
    cases ha.symm.trans e1
    cases e2
  have keepNs : ∀ {b : Addr} {m : Str → Option Value}, s₁.heap.Ns b m → (hidT s₁.heap H).Ns b m := by
    rintro b m ⟨o, es, ep, e1, e2, e3⟩
    exact ⟨o, es, ep, seen e1 (dict_free e1 e2), e2, e3⟩
  have KB : K.In (hidT s₁.heap H) := by
    intro b o e
    refine seen (KX b o e) ?_
    by_cases z : b = a
    · subst z
      cases q : H b with
      | none => rfl
      | some u =>
        have z2 := free (by rw [q]; exact fun z => nomatch z)
        cases z2.symm.trans e
    · exact not_a z
  obtain ⟨ml, l1, l2⟩ := hlim
  have e0 : Env0 P w K mg (hidT s₁.heap H) callerA [] s₁ H := {
    frames := rfl
    mod := ⟨KB, keepNs hns, ⟨mb, keepNs hb, hbb⟩, ⟨ml, keepNs l1, l2⟩⟩
    bs := fun b o e => of_hidT e
    bsz := Nat.le_of_eq (hidT_size _ _)
    funs := trivial
    frf := fun b z => nomatch z
    hok := ok
    bare := .of_eq hg }
  refine codeAny_mono ((F _ KB (keepNs hns)).go (us := [.ref a]) (vs := [.ref a]) hr rfl e0 (hbind s₁ (.ref a)) (.cons rfl .nil) want) ?_
  intro r s' hq
  match r, hq with
  | .ok (.ret u), hq =>
    obtain ⟨v, H', os, bare, un, ok', rv, q⟩ := hq
    subst q
    cases (show u = Value.bool true from rv)
    refine ⟨rfl, OldK.of_keep ?_, os, bare⟩
    intro b o e
    rcases one b with z | ⟨_, ob, xs, z⟩
    · exact un.keep b o e z (fun z => nomatch z) (fun z => nomatch z)
    · have h1 : s₁.heap.get? b = some ob := (ok b _ z).1
      have h2 : s'.heap.get? b = some ob := (ok' b _ (un.frzs b ob _ z)).1
      rw [← h1.symm.trans e]
      exact h2
  | .ok .next, hq => exact False.elim hq
  | .ok .brk, hq => exact False.elim hq
  | .ok .cont, hq => exact False.elim hq
  | .error _, hq => exact False.elim hq
/-- .. from whatever the script is -/
theorem top_call (KX : K.In s₁.heap) (hns : s₁.heap.Ns mainGlobals mg) (hb : s₁.heap.Ns builtinsNs mb) (hbb : ∀ y : Str, y ≠ "__name__" → mb y = bootBuiltins y) (hlim : s₁.heap.NoLimit) (hg : s₁.gens = #[])
    (ha : s₁.heap.get? a = some { cls := .type "list", data := .seq vs.toArray }) (hi : IntsAre vs ns) (hl : ns.length ≤ sizeLine) (hr : Room k callerA) (hbind : ∀ (s : Shared) (u : Value), BindsTo s fd ⟨[u], []⟩ [(x, u)])
    (F : ∀ base : Heap, K.In base → base.Ns mainGlobals mg → FnG P w K mg base CX0 k fa fd [x] sp)
    (want : ∀ H : Hp, One H a → SqL K H a (ns.map V.int) → sp [.ref a] H (fun v _ => v = .bl true) fun _ _ _ => False) :
    codeAny (model P w) callerA (.call (.ref fa) ⟨[.ref a], []⟩) (fun r s' => r = .ok (.ret (.bool true)) ∧ OldK s₁.heap s'.heap ∧ s'.os = s₁.os ∧ AllBare s'.gens) s₁ := by
  have rv := vals_ints hi
  have len := hi.length
  cases hk : K.lookup a with
  | none =>
    let O : Obj := { cls := .type "list", data := .seq vs.toArray }
    let H : Hp := fun b => if b = a then some (.frz O (.lst (ns.map V.int))) else none
    have Ha : H a = some (.frz O (.lst (ns.map V.int))) := if_pos rfl
    have one : One H a := fun b => by
      by_cases z : b = a
      · exact .inr ⟨z, O, ns.map V.int, if_pos z⟩
      · exact .inl (if_neg z)
    refine top_run KX hns hb hbb hlim hg ha hr hbind F one (fun _ => hk) ?_ (want H one (.inl (.inr ⟨O, Ha⟩)))
    intro b u e
    rcases one b with z | ⟨z, _⟩
    · cases z.symm.trans e
    · subst z
      cases Ha.symm.trans e
      exact ⟨ha, by rw [List.length_map]; exact hl, vs, _, rv, ha⟩
  | some o =>
    cases (KX a o hk).symm.trans ha
    have one : One (fun _ => none) a := fun _ => .inl rfl
    refine top_run KX hns hb hbb hlim hg ha hr hbind F one (fun z => absurd rfl z) (fun _ _ z => nomatch z) (want _ one (.inr ⟨_, vs.toArray, _, hk, rfl, rfl, rfl, ?_, ?_⟩))
    · rw [List.size_toArray, len]
      exact hl
    · simpa using rv
end
/-- the end of a law whose def is FnG -/
theorem walk_ofG {l : PySem.W.OpenLaw} {n k : Nat} {q : Program} {loose : List Str} {XP : (Str → Option Value) → Heap → Prop} {YP : World → Heap → Prop} {d : DefRec} {K : Params → PySem.W.Frag} {sp : PySem.W.Frag → Sp} {x : Str}
    (hn : l.most = some n) (hn2 : n ≤ sizeLine) (hdf : d.params.defaults = []) (hr : Room k callerA) (hY : ∀ (w : World) (h : Heap), YP w h → (K w.params).In h)
    (F : ∀ (w : World) (mg : Str → Option Value) (fa : Addr) (h : Heap), (K w.params).In h → h.Ns mainGlobals mg → mg d.name = some (.ref fa) →
      ∃ fd : FuncData, (∀ (s : Shared) (u : Value), BindsTo s fd ⟨[u], []⟩ [(x, u)]) ∧ ∀ base : Heap, (K w.params).In base → base.Ns mainGlobals mg → FnG l.prog w (K w.params) mg base CX0 k fa fd [x] (sp (K w.params)))
    (want : ∀ (K : PySem.W.Frag) (H : Hp) (a : Addr) (ns : List Int), ns.length ≤ n → SqL K H a (ns.map V.int) → sp K [.ref a] H (fun v _ => v = .bl true) fun _ _ _ => False) :
    PySem.W.WalkO q loose XP YP l.row.toRowW d [] (fun f vs => PySem.call f vs) := by
  refine Att.attach_call hn hdf ?_
  intro w s₀ s₁ mg mb fa o pm cd doc a vs ns G Y ho hd hcd hmg hobj hints hlen hg
  obtain ⟨fd, hbind, hF⟩ := F w mg fa _ (hY w _ Y) G.T.g hmg
  exact top_call (hY w _ Y) G.T.g G.T.b G.T.builtins G.T.nolimit hg hobj hints (Nat.le_trans hlen hn2) hr hbind hF fun H _ hS => want _ H a ns hlen hS
/-! ### list(text), text * int -/
abbrev oneS (c : Nat) : Str := ⟨#[c]⟩
def rListS : List V → Hp → VK → Prop := fun xs H Q => ∃ z : Str, xs = [.str z] ∧ z.length ≤ sizeLine ∧ ∀ p, H p = none → Q (.ref p) (upd H p (.lst (z.cps.toList.map fun c => V.str (oneS c))))
theorem call_listS {X : Cx} (calm : X.calm = true) : CallR X (.type "list") rListS := by
  intro pins s σ H xs us Q I r h
  obtain ⟨z, rfl, hz, q⟩ := h
  obtain ⟨u, rfl, tk, rfl⟩ := vals1 r
  refine PySem.call_list_str (I.ok.hd calm) z tk (fun h' t acc c keep new items => ?_) hz
  refine ⟨.ref s.heap.objs.size, upd H s.heap.objs.size (.lst (z.cps.toList.map fun c => V.str (oneS c))), I.laid (t' := t) keep (Nat.le_refl _) ?_, rfl, q _ (I.hok.fresh (Nat.le_refl _))⟩
  refine ⟨?_, acc.toList, c, ?_, by rw [Array.toArray_toList]; exact new⟩
  · rw [List.length_map, Array.length_toList]
    exact hz
  · have len : acc.toList.length = z.cps.toList.length := by rw [Array.length_toList, Array.length_toList]; exact items.1
    have all : ∀ (cs : List Nat) (vs : List Value), vs.length = cs.length → (∀ (j : Nat) (v : Value), vs[j]? = some v → ∃ c u, cs[j]? = some c ∧ v = .str (oneS c) u) → Vals (cs.map fun c => V.str (oneS c)) vs := by
      intro cs
      induction cs with
      | nil =>
        intro vs hl _
        cases vs with
        | nil => exact .nil
        | cons => cases hl
      | cons a r ih =>
        intro vs hl hv
        cases vs with
        | nil => cases hl
        | cons v t =>
          obtain ⟨c, u, e1, e2⟩ := hv 0 v rfl
          cases e1
          exact .cons ⟨u, e2⟩ (ih t (Nat.succ.inj hl) fun j x e => hv (j + 1) x e)
    refine all _ _ len fun j v e => ?_
    rw [Array.getElem?_toList] at e
    obtain ⟨c, u, e1, e2⟩ := items.2 j v e
    exact ⟨c, u, by rw [Array.getElem?_toList]; exact e1, e2⟩
def rRepS : R2 := fun x y H Q => ∃ z n, x = .str z ∧ y = .int n ∧ MulOk z n ∧ Q (.str (Txt.mul z n)) H
theorem op_repS {X : Cx} : OpR X (binaryOp .Mult) rRepS := by
  intro pins s σ H x y v u Q I rx ry h
  obtain ⟨z, n, rfl, rfl, ok, q⟩ := h
  obtain ⟨tx, rfl⟩ := rx
  obtain ⟨ty, rfl⟩ := ry
  exact PySem.SB.mul ok fun t' k => ⟨.str (Txt.mul z n), H, I.tok _, ⟨_, rfl⟩, q⟩
/-- texts joined by nothing -/
theorem joinL_nil : ∀ l : List (List Nat), TL.joinL [] l = l.flatten
  | [] => rfl
  | [p] => by simp [TL.joinL]
  | p :: q :: r => by
    have h := joinL_nil (q :: r)
    show p ++ ([] ++ TL.joinL [] (q :: r)) = _
    rw [h]
    simp
theorem tl_join0 (ys : List Str) : (Txt.join "" ys).cps.toList = (ys.map fun y => y.cps.toList).flatten := by
  rw [TL.join_eq]
  have h := TL.tl_join "" ys
  have h2 : TL.tl ("" : Str) = [] := by decide +kernel
  rw [h2, joinL_nil] at h
  exact h
end My

namespace My
open PySem PySem.Spec PyProof.Rows L2
abbrev s_is_integer : Stmt := topS 4
theorem sc_is_integer : FnScope ["thing"] ["thing"] (defScope s_is_integer) := ⟨rfl, rfl, rfl, by decide +kernel, rfl, by decide +kernel, by decide +kernel⟩
abbrev s_is_name : Stmt := topS 5
theorem sc_is_name : FnScope ["thing", "sign"] ["thing"] (defScope s_is_name) := ⟨rfl, rfl, rfl, by decide +kernel, rfl, by decide +kernel, by decide +kernel⟩
abbrev s_law_is_named : Stmt := topS 31
theorem sc_law_is_named : FnScope ["word", "letters", "figures", "sign"] ["word"] (defScope s_law_is_named) := ⟨rfl, rfl, rfl, by decide +kernel, rfl, by decide +kernel, by decide +kernel⟩
/-! ### names -/
abbrev c_LETTERS : Str := "abcdefghijklmnopqrstuvwxyz"
abbrev c_DIGITS : Str := "0123456789"
abbrev isLet (c : Nat) : Bool := decide (c ∈ c_LETTERS.cps.toList)
abbrev isDig (c : Nat) : Bool := decide (c ∈ c_DIGITS.cps.toList)
abbrev isSign (c : Nat) : Bool := decide (c ∈ (c_LETTERS ++ c_DIGITS).cps.toList)
/-- what a name is -/
def isNm (z : Str) : Bool := match z.cps.toList with
  | [] => false
  | c :: r => decide (r.length < 8) && (isLet c && (c :: r).all isSign)
theorem sign_or (c : Nat) : isSign c = (isLet c || isDig c) := by
  have e : (c_LETTERS ++ c_DIGITS).cps.toList = c_LETTERS.cps.toList ++ c_DIGITS.cps.toList := by decide +kernel
  unfold isSign isLet isDig
  rw [e]
  simp only [List.mem_append, Bool.decide_or]
structure TxtN (mg : Str → Option Value) (tL tD : Tok) (tN : Tok) : Prop where
  n_isinstance : mg "isinstance" = none
  n_str : mg "str" = none
  n_int : mg "int" = none
  n_bool : mg "bool" = none
  n_len : mg "len" = none
  n_all : mg "all" = none
  g_LETTERS : mg "LETTERS" = some (.str c_LETTERS tL)
  g_DIGITS : mg "DIGITS" = some (.str c_DIGITS tD)
  g_LONGEST_NAME : mg "LONGEST_NAME" = some (.int 8 tN)
/-- a value of a built-in type T -/
def TyB (K : PySem.W.Frag) (H : Hp) (x : V) (T : String) : Prop := TyX K H x (.type T)
structure spIsName (K : PySem.W.Frag) (vs : List V) (H : Hp) (Q : VK) (E : XK) : Prop where
  ex : ∃ x, vs = [x] ∧ ((∃ z : Str, x = .str z ∧ z.length ≤ 1000 ∧ ∀ H', Same H H' → Q (.bl (isNm z)) H') ∨ (∃ T, TyX K H x (.type T) ∧ kitB T "str" = some false ∧ Q (.bl false) H))
def spIsInt (K : PySem.W.Frag) : Sp := fun vs H Q _ => ∃ x T a b, vs = [x] ∧ TyX K H x (.type T) ∧ kitB T "int" = some a ∧ kitB T "bool" = some b ∧ Q (.bl (a && !b)) H

theorem dp_signs {K : PySem.W.Frag} {H : Hp} : ∀ cs : List Nat, DpAll K H (cs.map fun c => V.str (oneS c)) (cs.map fun c => PyData.str (oneS c))
  | [] => .nil
  | n :: r => .cons (.str _) (dp_signs r)
theorem lay_signs : ∀ cs : List Nat, (∀ c ∈ cs, c < 1114112) → PyData.canLayAll0 (cs.map fun c => PyData.str (oneS c)) = true
  | [], _ => by simp [PyData.canLayAll0]
  | n :: r, h => by
    have h1 : n < 1114112 := h n List.mem_cons_self
    have h2 := lay_signs r fun c hc => h c (List.mem_cons_of_mem _ hc)
    simp [PyData.canLayAll0, PyData.canLay0, PyData.strOk, h2, h1]
theorem dep_signs : ∀ cs : List Nat, PyData.depthAll (cs.map fun c => PyData.str (oneS c)) ≤ 1
  | [] => by simp [PyData.depthAll]
  | n :: r => by
    have h := dep_signs r
    simp only [List.map_cons, PyData.depthAll, PyData.depth]
    omega
theorem sh_signs {cs : List Nat} (h : ∀ c ∈ cs, c < 1114112) : SeqAt.shaped (.list (cs.map fun c => PyData.str (oneS c))) = true := by
  have h2 := dep_signs cs
  exact sh_of (by simp only [PyData.canLay0]; exact lay_signs cs h) (by simp only [PyData.depth]; omega)
def spIsNamed : Sp := fun vs H Q _ => ∃ z : Str, vs = [.str z] ∧ z.length ≤ 1000 ∧ (∀ c ∈ z.cps.toList, c < 1114112) ∧ ∀ H', Same H H' → Q (.bl (isNm z)) H'
section
variable {P : Program} {w : World} {K : PySem.W.Frag} {mg : Str → Option Value} {base : Heap}
theorem ok_is_integer {f : Addr} {fd : FuncData} {k : Nat} {tL tD tN : Tok} (F : Fun K "is_integer" "is_integer" s_is_integer f fd) (T : TxtN mg tL tD tN) : FnOk P w K mg base CX0 (k + 1) f fd ["thing"] (spIsInt K) := by
  refine F.ok sc_is_integer (fun vs H Q E h => ?_) (fun cdv A outer s H vs Q E hr h => ?_)
  · obtain ⟨x, Ty, a, b, rfl, _⟩ := h
    rfl
  · obtain ⟨x, Ty, a, b, rfl, ty, ha, hb, q⟩ := h
    refine ⟨_, (pss_one (ps_ret (pe_and (pe_callB call_isi (by rfl) T.n_isinstance (by decide +kernel) (pa_cons (pv 0) (pa_cons (pe_bltn (v := .ty "int") (by rfl) T.n_int (by decide +kernel) rfl) pa_nil))) (pe_one (pe_not (pe_callB call_isi (by rfl) T.n_isinstance (by decide +kernel) (pa_cons (pv 0) (pa_cons (pe_bltn (v := .ty "bool") (by rfl) T.n_bool (by decide +kernel) rfl) pa_nil)))))))), ?_⟩
    refine ⟨_, rfl, _, _, _, _, a, rfl, .ty "int", ty, kit_ty ha, a, rfl, ?_⟩
    cases a with
    | false => exact iteF q
    | true => exact iteT ⟨_, rfl, _, _, _, _, b, rfl, .ty "bool", ty, kit_ty hb, b, rfl, q⟩
theorem str_len (z : Str) : z.length = z.cps.toList.length := by simp [Str.length]
theorem all_take_all {α : Type} (p : α → Bool) (l : List α) : ((l.map p).all id) = l.all p := by
  rw [List.all_map]
  rfl
theorem ok_is_name {f : Addr} {fd : FuncData} {k : Nat} {tL tD tN : Tok} (F : Fun K "is_name" "is_name" s_is_name f fd) (T : TxtN mg tL tD tN) : FnOk P w K mg base CX0 (k + 1) f fd ["thing"] (spIsName K) := by
  refine F.ok sc_is_name (fun vs H Q E h => ?_) (fun cdv A outer s H vs Q E hr h => ?_)
  · obtain ⟨x, rfl, _⟩ := h
    rfl
  · obtain ⟨x, rfl, h⟩ := h
    refine ⟨_, (pss_cons (ps_if (PW.pt (pw_or (pt_not (pt_val (pe_callB call_isi (by rfl) T.n_isinstance (by decide +kernel) (pa_cons (pv 0) (pa_cons (pe_bltn (v := .ty "str") (by rfl) T.n_str (by decide +kernel) rfl) pa_nil))))) (pw_or1 (pt_not (pt_chain op_le op_le pe_int (pe_callB call_len_str (by rfl) T.n_len (by decide +kernel) (pa_cons (pv 0) pa_nil)) (pe_glob (v := .int 8) (by rfl) T.g_LONGEST_NAME ⟨_, rfl⟩))))))
   (pss_one (ps_ret pe_bl))
   pss_nil)
  (pss_one (ps_ret (pe_and (pe_cmpR op_in_sign (pe_ix ix_str (pv 0) pe_int (fun _ _ => rfl)) (pe_glob (v := .str c_LETTERS) (by rfl) T.g_LETTERS ⟨_, rfl⟩) rfl) (pe_one (pe_callB (cr_all (by rfl)) (by rfl) T.n_all (by decide +kernel) (pa_cons (pe_lc (own := [("sign", 1)]) (g := gName 1) rfl sc_is_name.nd (pi_str (pv 0)) (blkOk_by (own := [("sign", 1)]) (N := ["thing", "sign"]) (sc := defScope s_is_name) (by decide +kernel)) (fun _ _ _ _ _ => (pg_name (i := 1) sc_is_name.nd rfl (.inl rfl))) (fun _ _ _ _ _ => pts_nil) (fun _ _ _ _ _ => (pe_cmpR op_in_sign (pv 1) (pe_op op_add_str (pe_glob (v := .str c_LETTERS) (by rfl) T.g_LETTERS ⟨_, rfl⟩) (pe_glob (v := .str c_DIGITS) (by rfl) T.g_DIGITS ⟨_, rfl⟩)) rfl))) pa_nil))))))), ?_⟩
    rcases h with ⟨z, rfl, hz, q⟩ | ⟨Ty, ty, hk, q⟩
    · refine ⟨_, rfl, _, _, _, _, true, rfl, .ty "str", .base (.str z), kit_ty (by decide +kernel), true, rfl, ?_⟩
      refine iteF ?_
      have hzl : z.length ≤ sizeLine := Nat.le_of_lt (small1000 hz)
      refine ⟨_, rfl, _, rfl, hzl, _, _, rfl, rfl, _, rfl, ?_⟩
      cases hc : z.cps.toList with
      | nil =>
        have hl0 : z.length = 0 := by rw [str_len, hc]; rfl
        rw [hl0]
        refine iteF ?_
        refine ⟨_, rfl, ?_⟩
        refine iteT ?_
        have hn : isNm z = false := by unfold isNm; rw [hc]
        rw [hn] at q
        exact q H (Same.refl H)
      | cons c r =>
        have hl1 : z.length = r.length + 1 := by rw [str_len, hc]; rfl
        have h1 : decide ((1 : Int) ≤ ((z.length : Nat) : Int)) = true := decide_eq_true (by omega)
        rw [h1]
        refine iteT ?_
        refine ⟨_, _, rfl, rfl, _, rfl, ?_⟩
        by_cases h8 : r.length < 8
        · have h2 : decide (((z.length : Nat) : Int) ≤ 8) = true := decide_eq_true (by omega)
          rw [h2]
          refine iteF ?_
          have hat : atI z.cps.toList 0 = some c := by rw [hc]; exact atI_nat (j := 0) rfl
          refine ⟨_, rfl, z, 0, c, rfl, rfl, hzl, hat, c, c_LETTERS, rfl, rfl, isLet c, rfl, ?_⟩
          cases hL : isLet c with
          | false =>
            refine iteF ?_
            have hn : isNm z = false := by unfold isNm; rw [hc]; simp only [hL, Bool.false_and, Bool.and_false]
            rw [hn] at q
            exact q H (Same.refl H)
          | true =>
            refine iteT ?_
            refine ⟨_, rfl, z, rfl, fun D nD => ?_⟩
            refine lc_it walk_str (fun i H2 => Same H H2 ∧ H2 D = some (.lst (((z.cps.toList.take i).map isSign).map V.bl))) ⟨same_upd nD, upd_same⟩ (fun _ _ _ _ => True.intro) ?_ ?_
            · rintro i x H2 H3 hi ⟨s2, hD⟩ ⟨rfl, c2, hc2, rfl⟩
              refine ⟨rfl, ?_⟩
              unfold tYes
              dsimp only
              rw [if_pos rfl]
              refine ⟨_, rfl, _, _, rfl, rfl, by decide +kernel, c2, _, rfl, rfl, _, hD, ?_, ?_, ?_⟩
              · rw [List.length_map, List.length_map, List.length_take]
                exact small1000 (by rw [← str_len]; omega)
              · exact fun b o e => by
                  rw [upd_ne (ne_of_none e nD)]
                  exact s2 b o e
              · have e2 : z.cps.toList[i]? = some c2 := by rw [Array.getElem?_toList]; exact hc2
                rw [upd_same, List.take_add_one, e2, List.map_append, List.map_append]
                rfl
            · rintro H2 ⟨s2, hD⟩
              have et : z.cps.toList.take z.cps.size = z.cps.toList := List.take_of_length_le (by rw [Array.length_toList]; exact Nat.le_refl _)
              rw [et] at hD
              refine ⟨D, _, rfl, .inl (.inl hD), ?_⟩
              have hn : ((z.cps.toList.map isSign).all id) = isNm z := by
                rw [all_take_all]
                unfold isNm
                rw [hc]
                simp only [hL, decide_eq_true h8, Bool.true_and]
              rw [hn]
              exact q H2 s2
        · have h2 : decide (((z.length : Nat) : Int) ≤ 8) = false := decide_eq_false (by omega)
          rw [h2]
          refine iteT ?_
          have hn : isNm z = false := by unfold isNm; rw [hc]; simp only [decide_eq_false h8, Bool.false_and]
          rw [hn] at q
          exact q H (Same.refl H)
    · refine ⟨_, rfl, _, _, _, _, false, rfl, .ty "str", ty, kit_ty hk, false, rfl, ?_⟩
      refine iteT ?_
      refine iteT ?_
      exact q
theorem filter_no {l : List Nat} {i c : Nat} {p : Nat → Bool} (e : l[i]? = some c) (h : p c = false) : (l.take (i + 1)).filter p = (l.take i).filter p := by
  rw [List.take_add_one, e, List.filter_append]
  show _ ++ List.filter p [c] = _
  rw [List.filter_cons, if_neg (by rw [h]; decide)]
  exact List.append_nil _
theorem filter_yes {l : List Nat} {i c : Nat} {p : Nat → Bool} (e : l[i]? = some c) (h : p c = true) : (l.take (i + 1)).filter p = (l.take i).filter p ++ [c] := by
  rw [List.take_add_one, e, List.filter_append]
  show _ ++ List.filter p [c] = _
  rw [List.filter_cons, if_pos h]
  rfl
theorem none_bad : ∀ l : List Nat, decide (((l.filter fun c => !isLet c && !isDig c).map fun c => PyData.str (oneS c)) = []) = l.all isSign
  | [] => rfl
  | c :: r => by
    rw [List.filter_cons, List.all_cons, sign_or, ← none_bad r]
    cases isLet c <;> cases isDig c <;> simp
theorem ok_is_named {f : Addr} {fd : FuncData} {k : Nat} {tL tD tN : Tok} (F : Fun K "_law_is_named" "_law_is_named" s_law_is_named f fd) (T : TxtN mg tL tD tN) : FnOk P w K mg base CX0 (k + 1) f fd ["word"] spIsNamed := by
  refine F.ok sc_law_is_named (fun vs H Q E h => ?_) (fun cdv A outer s H vs Q E hr h => ?_)
  · obtain ⟨x, rfl, _⟩ := h
    rfl
  · obtain ⟨z, rfl, hz, hv, q⟩ := h
    refine ⟨_, (pss_cons (ps_asg (pe_tup (pa_cons pe_str (pa_cons pe_str pa_nil))) (pg_tup rfl (pgs_cons (pg_name (i := 1) sc_law_is_named.nd rfl (.inr rfl)) (pgs_cons (pg_name (i := 2) sc_law_is_named.nd rfl (.inr rfl)) pgs_nil))))
  (pss_cons (ps_if (PW.pt (pw_or (pt_not (pt_chain op_le op_le pe_int (pe_callB call_len_str (by rfl) T.n_len (by decide +kernel) (pa_cons (pv 0) pa_nil)) pe_int)) (pw_or1 (pt_cmpR op_notIn_sign (pe_ix ix_str (pv 0) pe_int (fun _ _ => rfl)) (pv 1) rfl))))
   (pss_one (ps_ret pe_bl))
   pss_nil)
  (pss_one (ps_ret (pe_cmpR (op_eqD hr.units) (pe_lc (own := [("sign", 3)]) (g := gName 3) rfl sc_law_is_named.nd (pi_str (pv 0)) (blkOk_by (own := [("sign", 3)]) (N := ["word", "letters", "figures", "sign"]) (sc := defScope s_law_is_named) (by decide +kernel)) (fun _ _ _ _ _ => (pg_name (i := 3) sc_law_is_named.nd rfl (.inl rfl))) (fun _ _ _ _ _ => (pts_one (PW.pt (pw_and (pt_cmpR op_notIn_sign (pv 3) (pv 1) rfl) (pw_and1 (pt_cmpR op_notIn_sign (pv 3) (pv 2) rfl)))))) (fun _ _ _ _ _ => (pv 3))) (pe_lst pa_nil) (nomark _)))))), ?_⟩
    refine ⟨by show 2 ≤ sizeLine; decide, fun t ht => ?_⟩
    have st : Same H (upd H t (.tup [.str c_LETTERS, .str c_DIGITS])) := same_upd ht
    refine ⟨t, _, rfl, .inl (.inl upd_same), rfl, _, _, rfl, _, _, rfl, rfl, ?_⟩
    have hzl : z.length ≤ sizeLine := Nat.le_of_lt (small1000 hz)
    refine ⟨_, rfl, _, rfl, hzl, _, _, rfl, rfl, _, rfl, ?_⟩
    cases hc : z.cps.toList with
    | nil =>
      have hl0 : z.length = 0 := by rw [str_len, hc]; rfl
      rw [hl0]
      refine iteF ?_
      refine ⟨_, rfl, ?_⟩
      refine iteT ?_
      refine iteT ?_
      have hn : isNm z = false := by unfold isNm; rw [hc]
      rw [hn] at q
      exact q _ st
    | cons c r =>
      have hl1 : z.length = r.length + 1 := by rw [str_len, hc]; rfl
      have h1 : decide ((1 : Int) ≤ ((z.length : Nat) : Int)) = true := decide_eq_true (by omega)
      rw [h1]
      refine iteT ?_
      by_cases h8 : r.length < 8
      · have h2 : decide (((z.length : Nat) : Int) ≤ 8) = true := decide_eq_true (by omega)
        refine ⟨_, _, rfl, rfl, _, rfl, ?_⟩
        rw [h2]
        refine iteF ?_
        have hat : atI z.cps.toList 0 = some c := by rw [hc]; exact atI_nat (j := 0) rfl
        refine ⟨_, rfl, z, 0, c, rfl, rfl, hzl, hat, _, rfl, c, c_LETTERS, rfl, rfl, !isLet c, rfl, ?_⟩
        cases hL : isLet c with
        | false =>
          refine iteT ?_
          have hn : isNm z = false := by unfold isNm; rw [hc]; simp only [hL, Bool.false_and, Bool.and_false]
          rw [hn] at q
          exact q _ st
        | true =>
          refine iteF ?_
          refine ⟨_, rfl, z, rfl, fun D nD => ?_⟩
          let bad : Nat → Bool := fun c => !isLet c && !isDig c
          refine lc_it walk_str (fun i H2 => Same H H2 ∧ H2 D = some (.lst (((z.cps.toList.take i).filter bad).map fun c => V.str (oneS c)))) ⟨st.trans (same_upd nD), upd_same⟩ (fun _ _ _ _ => True.intro) ?_ ?_
          · rintro i x H2 H3 hi ⟨s2, hD⟩ ⟨rfl, c2, hc2, rfl⟩
            have e2 : z.cps.toList[i]? = some c2 := by rw [Array.getElem?_toList]; exact hc2
            have nDH : H D = none := st.free nD
            refine ⟨rfl, _, rfl, _, rfl, c2, _, rfl, rfl, !isLet c2, rfl, ?_⟩
            cases hl : isLet c2 with
            | true =>
              refine iteF ?_
              refine iteF ?_
              refine ⟨s2, ?_⟩
              have hb : bad c2 = false := by show (!isLet c2 && !isDig c2) = false; rw [hl]; rfl
              rw [filter_no e2 hb]
              exact hD
            | false =>
              refine iteT ?_
              refine ⟨_, rfl, _, rfl, c2, _, rfl, rfl, !isDig c2, rfl, ?_⟩
              cases hd : isDig c2 with
              | true =>
                refine iteF ?_
                refine ⟨s2, ?_⟩
                have hb : bad c2 = false := by show (!isLet c2 && !isDig c2) = false; rw [hl, hd]; rfl
                rw [filter_no e2 hb]
                exact hD
              | false =>
                refine iteT ?_
                have hb : bad c2 = true := by show (!isLet c2 && !isDig c2) = true; rw [hl, hd]; rfl
                refine ⟨_, rfl, _, hD, ?_, ?_, ?_⟩
                · have hq := List.length_filter_le bad (z.cps.toList.take i)
                  rw [List.length_map]
                  rw [List.length_take] at hq
                  exact small1000 (by have := str_len z; omega)
                · exact fun b o e => by
                    rw [upd_ne (ne_of_none e nDH)]
                    exact s2 b o e
                · rw [upd_same, filter_yes e2 hb, List.map_append]
                  rfl
          · rintro H2 ⟨s2, hD⟩
            have et : z.cps.toList.take z.cps.size = z.cps.toList := List.take_of_length_le (by rw [Array.length_toList]; exact Nat.le_refl _)
            rw [et] at hD
            refine ⟨Nat.zero_le _, fun o no => ?_⟩
            have so : Same H2 (upd H2 o (.lst [])) := same_upd no
            refine ⟨_, _, .lst (.inl (.inl (so _ _ hD))) (dp_signs _), .lst (.inl (.inl upd_same)) .nil, sh_signs (fun c h => hv c (List.mem_filter.mp h).1), sh_nil, ?_⟩
            rw [eqv_nil]
            have hn : decide (((z.cps.toList.filter bad).map fun c => PyData.str (oneS c)) = []) = isNm z := by
              have h1 : isNm z = (z.cps.toList.all isSign) := by
                unfold isNm
                rw [hc]
                simp only [hL, decide_eq_true h8, Bool.true_and]
              rw [h1]
              exact none_bad z.cps.toList
            rw [hn]
            exact q _ (s2.trans so)
      · have h2 : decide (((z.length : Nat) : Int) ≤ 8) = false := decide_eq_false (by omega)
        refine ⟨_, _, rfl, rfl, _, rfl, ?_⟩
        rw [h2]
        refine iteT ?_
        refine iteT ?_
        have hn : isNm z = false := by unfold isNm; rw [hc]; simp only [decide_eq_false h8, Bool.false_and]
        rw [hn] at q
        exact q _ st
end
end My

namespace My
open PySem PySem.Spec PyProof.Rows L2
abbrev s_law_words : Stmt := topS 32
theorem sc_law_words : FnScope ["pot", "signs", "found", "turn", "spot", "word", "odd"] ["pot"] (defScope s_law_words) := ⟨rfl, rfl, rfl, by decide +kernel, rfl, by decide +kernel, by decide +kernel⟩
/-! ### words -/
/-- a piece of a word; a word -/
def Pc (y : Str) : Prop := y.length ≤ 1 ∧ ∀ c ∈ y.cps.toList, c < 1114112
def Wd (y : Str) : Prop := y.length ≤ 1000 ∧ ∀ c ∈ y.cps.toList, c < 1114112
def wdB (y : Str) : Bool := decide (y.length ≤ 1000) && y.cps.toList.all fun c => decide (c < 1114112)
theorem wd_of {y : Str} (h : wdB y = true) : Wd y := by
  unfold wdB at h
  rw [Bool.and_eq_true, decide_eq_true_eq, List.all_eq_true] at h
  exact ⟨h.1, fun c hc => of_decide_eq_true (h.2 c hc)⟩
theorem wds_of {ws : List Str} (h : ws.all wdB = true) : ∀ y ∈ ws, Wd y := fun y hy => wd_of (List.all_eq_true.mp h y hy)
theorem len_flat : ∀ {ys : List Str}, (∀ y ∈ ys, Pc y) → ((ys.map fun y => y.cps.toList).flatten).length ≤ ys.length ∧ (ys.map (·.length)).sum ≤ ys.length
  | [], _ => ⟨Nat.le_refl _, Nat.le_refl _⟩
  | y :: r, h => by
    have h1 := (h y List.mem_cons_self).1
    have h2 := len_flat (ys := r) fun z hz => h z (List.mem_cons_of_mem _ hz)
    have h3 := str_len y
    simp only [List.map_cons, List.flatten_cons, List.length_append, List.length_cons, List.sum_cons]
    omega
theorem join_wd {ys : List Str} (h : ∀ y ∈ ys, Pc y) (hl : ys.length ≤ 1000) : Wd (Txt.join "" ys) := by
  constructor
  · rw [str_len, tl_join0]
    exact Nat.le_trans (len_flat h).1 hl
  · intro c hc
    rw [tl_join0, List.mem_flatten] at hc
    obtain ⟨l, hl, hc⟩ := hc
    obtain ⟨y, hy, rfl⟩ := List.mem_map.mp hl
    exact (h y hy).2 c hc
theorem join_sum {ys : List Str} (h : ∀ y ∈ ys, Pc y) (hl : ys.length ≤ 1000) : (ys.map (·.length)).sum + ys.length * ("" : Str).length ≤ 16777216 := by
  have h1 := (len_flat h).2
  have h2 : ("" : Str).length = 0 := by decide +kernel
  rw [h2]
  omega
theorem pc_one {c : Nat} (h : c < 1114112) : Pc (oneS c) := ⟨Nat.le_refl 1, fun d hd => by
  have e : d = c := by simpa using hd
  rw [e]
  exact h⟩
theorem mul_ok (z : Str) (n : Int) (h : (decide (n < -(2 ^ 63 : Int)) || decide (n ≥ 2 ^ 63)) = false) (h2 : decide ((z.length : Int) > (2 ^ 63 - 1) / n) = false) (h3 : Builtin.Str.tooLong (z.length * n.toNat) = false) : MulOk z n :=
  ⟨h, fun _ _ => of_decide_eq_false h2, fun _ _ => h3⟩
theorem cut_mapS (ns : List Str) (lo hi : Option Int) : cutV (ns.map V.str) lo hi = ((ns.drop (HT.sIx ns.length 0 lo)).take (HT.sIx ns.length ns.length hi - HT.sIx ns.length 0 lo)).map V.str := by
  unfold cutV
  rw [List.length_map, List.map_take, List.map_drop]
/-- signs of a written text as pieces -/
theorem pcs_of {z : Str} (h : (z.cps.toList.all fun c => decide (c < 1114112)) = true) {v : V} (hv : v ∈ z.cps.toList.map fun c => V.str (oneS c)) : ∃ y, v = .str y ∧ Pc y := by
  obtain ⟨c, hc, rfl⟩ := List.mem_map.mp hv
  exact ⟨_, rfl, pc_one (of_decide_eq_true (List.all_eq_true.mp h c hc))⟩
structure TxtW (mg : Str → Option Value) : Prop where
  n_list : mg "list" = none
  n_range : mg "range" = none
  n_len : mg "len" = none
abbrev c_SIGNS : Str := "abcdefghijklmnopqrstuvwxyz0123456789"
def w16 : List Str := ["", "a", "z9", "9", Txt.mul "a" 8, Txt.mul "a" 9, "A", "aB", "a_b", " a", "a ", "a\n", "t", "_", "a.b", "0a"]
abbrev c_ODD : Str := "!#$&'()*+,-./:;<=>?\x40[\\]^_`{|}~ ABCDEFGHIJKLMNOPQRSTUVWXYZ"
abbrev oddL : List V := ((c_ODD.cps.toList.map fun c => V.str (oneS c)) ++ [V.str "\""]) ++ [V.str "\n", V.str "\t", V.str ""]
theorem odd_pc {v : V} (h : v ∈ oddL) : ∃ y, v = .str y ∧ Pc y := by
  have pb : ∀ z : Str, (decide (z.length ≤ 1) && z.cps.toList.all fun c => decide (c < 1114112)) = true → Pc z := fun z hz => by
    rw [Bool.and_eq_true, decide_eq_true_eq, List.all_eq_true] at hz
    exact ⟨hz.1, fun c hc => of_decide_eq_true (hz.2 c hc)⟩
  rcases List.mem_append.mp h with h | h
  · rcases List.mem_append.mp h with h | h
    · exact pcs_of (by decide +kernel) h
    · rw [List.mem_singleton.mp h]
      exact ⟨_, rfl, pb _ (by decide +kernel)⟩
  · simp only [List.mem_cons, List.not_mem_nil, or_false] at h
    rcases h with h | h | h
    · rw [h]
      exact ⟨_, rfl, pb _ (by decide +kernel)⟩
    · rw [h]
      exact ⟨_, rfl, pb _ (by decide +kernel)⟩
    · rw [h]
      exact ⟨_, rfl, pb _ (by decide +kernel)⟩
theorem But.set {p D : Addr} {H H' : Hp} {o : HO} (h : But p H H') (n : H D = none) : But p H (upd H' D o) := ⟨fun b u e m => by
  rw [upd_ne (ne_of_none e n)]
  exact h.1 b u e m, fun z => by
  by_cases hd : p = D
  · rw [hd, upd_same] at z
    cases z
  · rw [upd_ne hd] at z
    exact h.2 z⟩
theorem Pot.upd {H : Hp} {p c D : Addr} {o : HO} (h : Pot H p c) (n1 : p ≠ D) (n2 : c ≠ D) : Pot (L2.upd H D o) p c := by
  obtain ⟨ns, pl, am, sz, h1, h2, h3⟩ := h
  exact ⟨ns, pl, am, sz, by rw [upd_ne n1]; exact h1, by rw [upd_ne n2]; exact h2, h3⟩
def spWords : Sp := fun vs H Q _ => ∃ p c, vs = [.ref p] ∧ Pot H p c ∧ ∀ (l : Addr) (ws : List Str) (H' : Hp), But p H H' → Pot H' p c → H l = none → H' l = some (.lst (ws.map V.str)) → (∀ y ∈ ws, Wd y) → ws.length ≤ 1000 → Q (.ref l) H'
section
variable {P : Program} {w : World} {K : PySem.W.Frag} {mg : Str → Option Value} {base : Heap}
theorem ok_words {f fb fp : Addr} {fd fdb fdp : FuncData} {k : Nat} (F : Fun K "_law_words" "_law_words" s_law_words f fd) (T : TxtW mg) (F__law_below : Fun K "_law_below" "_law_below" s_law_below fb fdb) (b__law_below : Binds K fdb ["pot", "bound"] []) (g__law_below : mg "_law_below" = some (.ref fb))
    (G__law_below : FnOk P w K mg base CX0 2 fb fdb ["pot", "bound"] spBelow) (F__law_pick : Fun K "_law_pick" "_law_pick" s_law_pick fp fdp) (b__law_pick : Binds K fdp ["pot", "items"] []) (g__law_pick : mg "_law_pick" = some (.ref fp))
    (G__law_pick : FnOk P w K mg base CX0 3 fp fdp ["pot", "items"] (spPick K)) : FnOk P w K mg base CX0 (k + 4) f fd ["pot"] spWords := by
  refine F.ok sc_law_words (fun vs H Q E h => ?_) (fun cdv A outer s H vs Q E hr h => ?_)
  · obtain ⟨p, c, rfl, _⟩ := h
    rfl
  · obtain ⟨p, c, rfl, hP, q⟩ := h
    refine ⟨_, (pss_cons (ps_set (i := 1) sc_law_words.nd rfl (.inr rfl) pe_str)
  (pss_cons (ps_set (i := 2) sc_law_words.nd rfl (.inl rfl) (pe_lst (pa_cons pe_str (pa_cons pe_str (pa_cons pe_str (pa_cons pe_str (pa_cons (pe_op op_repS pe_str pe_int) (pa_cons (pe_op op_repS pe_str pe_int) (pa_cons pe_str (pa_cons pe_str (pa_cons pe_str (pa_cons pe_str (pa_cons pe_str (pa_cons pe_str (pa_cons pe_str (pa_cons pe_str (pa_cons pe_str (pa_cons pe_str pa_nil))))))))))))))))))
  (pss_cons (ps_for PassesOwn.never rfl (pi_range1 (by rfl) T.n_range (pa_cons pe_int pa_nil)) (pg_name (i := 3) sc_law_words.nd rfl (.inl rfl))
   (pss_cons (ps_setLc (i := 5) (own := [("spot", 4)]) (g := gName 4) rfl sc_law_words.nd rfl rfl (sw_true rfl rfl rfl (by decide +kernel)) (pi_range1 (by rfl) T.n_range (pa_cons (pe_op op_add pe_int (pe_call G__law_below (hr.mono (by omega)) (by rfl) g__law_below F__law_below.kp b__law_below .nil pass0 (pa_cons (pv 0) (pa_cons pe_int pa_nil)))) pa_nil)) (blkOk_by (own := [("spot", 4)]) (N := ["pot", "signs", "found", "turn", "spot", "word", "odd"]) (sc := defScope s_law_words) (by decide +kernel)) (fun _ _ _ _ _ => (pg_name (i := 4) sc_law_words.nd rfl (.inl rfl))) (fun _ _ _ _ _ => pts_nil) (fun _ _ _ _ _ => (pe_call G__law_pick (hr.mono (by omega)) (by rfl) g__law_pick F__law_pick.kp b__law_pick .nil pass0 (pa_cons (pv 0) (pa_cons (pe_callTy (call_listS (by rfl)) (by rfl) T.n_list (by decide +kernel) (pa_cons (pv 1) pa_nil)) pa_nil)))))
  (pss_cons (ps_expr (pe_bm PySem.F.plainAttrs_list PySem.F.slot_list_append PySem.F.type_list_append mt_append (pv 2) (pa_cons (pe_join pe_str (pv 5)) pa_nil)))
  (pss_cons (ps_set (i := 4) sc_law_words.nd rfl (.inl rfl) (pe_call G__law_below (hr.mono (by omega)) (by rfl) g__law_below F__law_below.kp b__law_below .nil pass0 (pa_cons (pv 0) (pa_cons (pe_callB call_len_seq (by rfl) T.n_len (by decide +kernel) (pa_cons (pv 5) pa_nil)) pa_nil))))
  (pss_cons (ps_set (i := 6) sc_law_words.nd rfl (.inl rfl) (pe_op op_cat (pe_callTy (call_listS (by rfl)) (by rfl) T.n_list (by decide +kernel) (pa_cons pe_str pa_nil)) (pe_lst (pa_cons pe_str pa_nil))))
  (pss_cons (ps_set (i := 6) sc_law_words.nd rfl (.inl rfl) (pe_call G__law_pick (hr.mono (by omega)) (by rfl) g__law_pick F__law_pick.kp b__law_pick .nil pass0 (pa_cons (pv 0) (pa_cons (pe_op op_cat (pv 6) (pe_lst (pa_cons pe_str (pa_cons pe_str (pa_cons pe_str pa_nil))))) pa_nil))))
  (pss_one (ps_expr (pe_bm PySem.F.plainAttrs_list PySem.F.slot_list_append PySem.F.type_list_append mt_append (pv 2) (pa_cons (pe_join pe_str (pe_op op_cat (pe_op op_cat (pe_slice sl_list (pv 5) po_none (po_some (pv 4))) (pe_lst (pa_cons (pv 6) pa_nil))) (pe_slice sl_list (pv 5) (po_some (pe_op op_add (pv 4) pe_int)) po_none))) pa_nil))))))))))
  (pss_one (ps_ret (pv 2)))))), ?_⟩
    -- signs; found
    refine ⟨_, _, rfl, rfl, mul_ok _ _ (by decide) (by decide +kernel) (by decide +kernel), _, _, rfl, rfl, mul_ok _ _ (by decide) (by decide +kernel) (by decide +kernel), by show 16 ≤ sizeLine; decide, fun F0 nF => ?_⟩
    have sF : Same H (upd H F0 (.lst (w16.map V.str))) := same_upd nF
    obtain ⟨ns0, pl0, am0, sz0, hp0, hc0, hl0⟩ := id hP
    have npF : p ≠ F0 := ne_of_none hp0 nF
    refine ⟨10, rfl, by decide, by decide, for_range (n := 10) (fun i σ H2 => ∃ (ws : List Str) (v3 v4 v5 v6 : Option V), σ = [some (.ref p), some (.str c_SIGNS), some (.ref F0), v3, v4, v5, v6] ∧ But p H H2 ∧ Pot H2 p c ∧ H2 F0 = some (.lst (ws.map V.str)) ∧ (∀ y ∈ ws, Wd y) ∧ ws.length = 16 + 2 * i)
      ⟨w16, none, none, none, none, rfl, But.of (sF _ _ hp0) sF, hP.same sF, upd_same, wds_of (by decide +kernel), by decide⟩ ?_ ?_⟩
    · rintro i σ H2 hi ⟨ws, v3, v4, v5, v6, rfl, hb, hP2, hF, hw, hlw⟩
      -- word = [..]
      refine ⟨_, rfl, p, c, 9, rfl, hP2, by decide, by decide, fun v H3 v0 v1 hP3 hb3 => ⟨_, _, rfl, rfl, 1 + v, rfl, by omega, by omega, fun D nD => ?_⟩⟩
      have hF3 := hb3.1 _ _ hF (Ne.symm npF)
      obtain ⟨ns3, pl3, am3, sz3, hp3, hc3, hl3⟩ := id hP3
      have npD : p ≠ D := ne_of_none hp3 nD
      have ncD : c ≠ D := ne_of_none hc3 nD
      have nFD : F0 ≠ D := ne_of_none hF3 nD
      have sD : Same H3 (upd H3 D (.lst [])) := same_upd nD
      refine lc_range (n := (1 + v).toNat) (fun j H4 => ∃ ys : List Str, But p H3 H4 ∧ Pot H4 p c ∧ H4 D = some (.lst (ys.map V.str)) ∧ (∀ y ∈ ys, Pc y) ∧ ys.length = j) ⟨[], But.of (sD _ _ hp3) sD, hP3.same sD, upd_same, (fun _ z => nomatch z), rfl⟩ ?_ ?_
      · rintro j H4 hj ⟨ys, hb4, hP4, hD4, hy4, hl4⟩
        refine ⟨rfl, ?_⟩
        unfold tYes
        dsimp only
        rw [if_pos rfl]
        refine ⟨_, rfl, _, rfl, _, rfl, by decide +kernel, fun l nl => ?_⟩
        have sl : Same H4 (upd H4 l (.lst (c_SIGNS.cps.toList.map fun c => V.str (oneS c)))) := same_upd nl
        obtain ⟨ns4, pl4, am4, sz4, hp4, hc4, hl4'⟩ := id hP4
        have npl : p ≠ l := ne_of_none hp4 nl
        refine ⟨p, c, l, _, rfl, hP4.same sl, .inl (.inl upd_same), (by decide +kernel), (by decide +kernel), fun H5 hb5 => .inl (.inl (hb5.1 _ _ upd_same (Ne.symm npl))), fun x H5 hx hP5 hb5 => ?_⟩
        obtain ⟨y, rfl, hy⟩ := pcs_of (by decide +kernel) hx
        have hD5 := hb5.1 _ _ (sl _ _ hD4) (Ne.symm npD)
        refine ⟨_, hD5, ?_, ys ++ [y], ?_, ?_, ?_, ?_, ?_⟩
        · rw [List.length_map, hl4]
          exact small1000 (by omega)
        · exact ((hb4.same sl).trans hb5).set nD
        · exact hP5.upd npD ncD
        · rw [upd_same, List.map_append]
          rfl
        · intro y' hy'
          rcases List.mem_append.mp hy' with z | z
          · exact hy4 y' z
          · rw [List.mem_singleton.mp z]
            exact hy
        · rw [List.length_append, hl4]
          rfl
      · rintro H4 ⟨ys, hb4, hP4, hD4, hy4, hl4⟩
        have hF4 := hb4.1 _ _ hF3 (Ne.symm npF)
        have hls : ys.length ≤ 1000 := by omega
        have nDH : H D = none := hb.free (hb3.free nD)
        -- found.append("".join(word))
        refine ⟨_, rfl, .inl ⟨rfl, _, .inl (.inl hF4)⟩, ⟨_, rfl⟩, _, rfl, _, D, ys, rfl, rfl, .inl (.inl (.inl hD4)), join_sum hy4 hls, F0, _, _, rfl, rfl, hF4, ?_, ?_⟩
        · rw [List.length_map]
          exact small1000 (by omega)
        have hFD : D ≠ F0 := Ne.symm nFD
        have ncF : c ≠ F0 := fun z => by
          have z2 := ne_of_none hc0 nF
          exact z2 z
        have e5 : ws.map V.str ++ [V.str (Txt.join "" ys)] = (ws ++ [Txt.join "" ys]).map V.str := by
          rw [List.map_append]
          rfl
        rw [e5]
        generalize hH5 : upd H4 F0 (.lst ((ws ++ [Txt.join "" ys]).map V.str)) = H5
        have hD5 : H5 D = some (.lst (ys.map V.str)) := by rw [← hH5, upd_ne hFD]; exact hD4
        have hF5 : H5 F0 = some (.lst ((ws ++ [Txt.join "" ys]).map V.str)) := by rw [← hH5, upd_same]
        have hP5 : Pot H5 p c := by rw [← hH5]; exact hP4.upd npF ncF
        have hb5 : But p H H5 := by rw [← hH5]; exact ((hb.trans hb3).trans hb4).set nF
        have nD5 : D ≠ p := Ne.symm npD
        have nF5 : F0 ≠ p := Ne.symm npF
        -- spot = _law_below(pot, len(word))
        refine ⟨_, rfl, _, rfl, D, _, rfl, .inl (.inl (.inl hD5)), p, c, _, rfl, hP5, ?_, ?_, fun v6 H6 v60 v61 hP6 hb6 => ?_⟩
        · rw [List.length_map]
          omega
        · rw [List.length_map]
          omega
        have hD6 := hb6.1 _ _ hD5 nD5
        have hF6 := hb6.1 _ _ hF5 nF5
        -- odd
        refine ⟨_, rfl, by decide +kernel, fun l1 n1 => ⟨by show 1 ≤ sizeLine; decide, fun o1 m1 => ?_⟩⟩
        refine ⟨l1, o1, _, _, rfl, rfl, (same_upd m1) _ _ upd_same, upd_same, by decide +kernel, fun q1 k1 => ?_⟩
        refine ⟨_, rfl, _, rfl, by show 3 ≤ sizeLine; decide, fun o2 m2 => ?_⟩
        refine ⟨q1, o2, _, _, rfl, rfl, (same_upd m2) _ _ upd_same, upd_same, by decide +kernel, fun q2 k2 => ?_⟩
        have s6 : Same H6 (upd _ q2 (.lst oddL)) := (((((same_upd n1).trans (same_upd m1)).trans (same_upd k1)).trans (same_upd m2)).trans (same_upd k2))
        have hq2 : ∀ G : Hp, upd G q2 (.lst oddL) q2 = some (.lst oddL) := fun G => upd_same
        obtain ⟨ns6, pl6, am6, sz6, hp6, hc6, hl6⟩ := id hP6
        have nq2 : q2 ≠ p := fun z => by
          have z2 := ne_of_none (((((same_upd n1).trans (same_upd m1)).trans (same_upd k1)).trans (same_upd m2)) _ _ hp6) k2
          exact z2 z.symm
        refine ⟨p, c, q2, oddL, rfl, hP6.same s6, .inl (.inl (hq2 _)), by decide +kernel, by decide +kernel, fun H9 hb9 => .inl (.inl (hb9.1 _ _ (hq2 _) nq2)), fun x H9 hx hP9 hb9 => ?_⟩
        obtain ⟨y, rfl, hy⟩ := odd_pc hx
        have hD9 := hb9.1 _ _ (s6 _ _ hD6) nD5
        have hF9 := hb9.1 _ _ (s6 _ _ hF6) nF5
        have hbH9 : But p H H9 := ((hb5.trans hb6).same s6).trans hb9
        -- found.append("".join(word[:spot] + [odd] + word[spot + 1:]))
        refine ⟨_, rfl, .inl ⟨rfl, _, .inl (.inl hF9)⟩, ⟨_, rfl⟩, ?_⟩
        refine ⟨_, rfl, _, rfl, _, rfl, D, _, rfl, .inl (.inl hD9), fun a1 f1 => ?_⟩
        rw [cut_mapS]
        generalize hz1 : (ys.drop (HT.sIx ys.length 0 none)).take (HT.sIx ys.length ys.length (some v6) - HT.sIx ys.length 0 none) = zs1
        have l1 : zs1.length ≤ ys.length := by
          rw [← hz1]
          refine Nat.le_trans (List.length_take_le' _ _) ?_
          rw [List.length_drop]
          omega
        have g1 : ∀ z ∈ zs1, Pc z := fun z hz => by
          rw [← hz1] at hz
          exact hy4 z (List.mem_of_mem_drop (List.mem_of_mem_take hz))
        refine ⟨_, rfl, by show 1 ≤ sizeLine; decide, fun a2 f2 => ?_⟩
        refine ⟨a1, a2, zs1.map V.str, [V.str y], rfl, rfl, (same_upd f2) _ _ upd_same, upd_same, Nat.le_of_lt (small1000 (by rw [List.length_map]; show _ + 1 ≤ _; omega)), fun a3 f3 => ?_⟩
        refine ⟨_, rfl, _, rfl, _, _, rfl, rfl, _, rfl, D, _, rfl, .inl (.inl (same_upd f3 _ _ (same_upd f2 _ _ (same_upd f1 _ _ hD9)))), fun a4 f4 => ?_⟩
        rw [cut_mapS]
        generalize hz2 : (ys.drop (HT.sIx ys.length 0 (some (v6 + 1)))).take (HT.sIx ys.length ys.length none - HT.sIx ys.length 0 (some (v6 + 1))) = zs2
        have l2 : zs2.length ≤ ys.length := by
          rw [← hz2]
          refine Nat.le_trans (List.length_take_le' _ _) ?_
          rw [List.length_drop]
          omega
        have g2 : ∀ z ∈ zs2, Pc z := fun z hz => by
          rw [← hz2] at hz
          exact hy4 z (List.mem_of_mem_drop (List.mem_of_mem_take hz))
        refine ⟨a3, a4, _, zs2.map V.str, rfl, rfl, (same_upd f4) _ _ upd_same, upd_same, Nat.le_of_lt (small1000 (by rw [List.length_append, List.length_map, List.length_map]; show _ + 1 + _ ≤ _; omega)), fun a5 f5 => ?_⟩
        have e9 : (zs1.map V.str ++ [V.str y]) ++ zs2.map V.str = (zs1 ++ [y] ++ zs2).map V.str := by
          rw [List.map_append, List.map_append]
          rfl
        rw [e9]
        have g3 : ∀ z ∈ zs1 ++ [y] ++ zs2, Pc z := fun z hz => by
          rcases List.mem_append.mp hz with hz | hz
          · rcases List.mem_append.mp hz with hz | hz
            · exact g1 z hz
            · rw [List.mem_singleton.mp hz]
              exact hy
          · exact g2 z hz
        have l3 : (zs1 ++ [y] ++ zs2).length ≤ 1000 := by
          rw [List.length_append, List.length_append]
          show _ + 1 + _ ≤ _
          omega
        have s9 : Same H9 (upd _ a5 (.lst ((zs1 ++ [y] ++ zs2).map V.str))) := (((((same_upd f1).trans (same_upd f2)).trans (same_upd f3)).trans (same_upd f4)).trans (same_upd f5))
        have hF10 := s9 _ _ hF9
        refine ⟨_, a5, _, rfl, rfl, .inl (.inl (.inl upd_same)), join_sum g3 l3, F0, _, _, rfl, rfl, hF10, ?_, ?_⟩
        · rw [List.length_map, List.length_append]
          exact small1000 (by show _ + 1 ≤ _; omega)
        refine ⟨(ws ++ [Txt.join "" ys]) ++ [Txt.join "" (zs1 ++ [y] ++ zs2)], _, _, _, _, rfl, (hbH9.same s9).set nF, (hP9.same s9).upd npF ncF, ?_, ?_, ?_⟩
        · rw [upd_same, List.map_append (l₁ := ws ++ [Txt.join "" ys])]
          rfl
        · intro z hz
          rcases List.mem_append.mp hz with hz | hz
          · rcases List.mem_append.mp hz with hz | hz
            · exact hw z hz
            · rw [List.mem_singleton.mp hz]
              exact join_wd hy4 hls
          · rw [List.mem_singleton.mp hz]
            exact join_wd g3 l3
        · rw [List.length_append, List.length_append]
          show _ + 1 + 1 = _
          omega
    · rintro σ H2 ⟨ws, v3, v4, v5, v6, rfl, hb, hP2, hF, hw, hlw⟩
      exact ⟨_, rfl, q F0 ws H2 hb hP2 nF hF hw (by omega)⟩
end
end My

namespace My
open PySem PySem.Spec PyProof.Rows L2
/-! ### own errors whose __init__ says super().__init__(text) -/
structure SupScope (N ps : List Str) (sc : Scope) : Prop where
  kind : sc.kind = .function
  co : sc.isCoroutine = false
  gen : sc.isGenerator = false
  nd : N.Nodup
  pre : N.take ps.length = ps
  par : ∀ x ∈ ps, sc.names.lookup x = some .local
  nocell : ∀ y ∈ sc.names, y.2 ≠ .cell
  sup : sc.names.lookup ("super" : Str) = some .globalImplicit
  cls : sc.names.lookup ("__class__" : Str) = some .free
  free : ∀ y ∈ sc.names, y.2 = .free → y.1 = ("__class__" : Str)
abbrev supEnv (qual : Str) (sc : Scope) (L f cda cc : Addr) : Env := PySem.W.ksEnv qual sc L f (.ref cda) cc
/-- such an __init__'s body running -/
def cxS (P : Program) (w : World) (K : PySem.W.Frag) (mg : Str → Option Value) (base : Heap) (N : List Str) (qual : Str) (sc : Scope) (f cda cc : Addr) (A : Around) (outer : List Env) (s : Shared) (H : Hp) : Cx where
  prog := P
  w := w
  K := K
  mg := mg
  base := base
  A := A.deeper (supEnv qual sc s.heap.objs.size f cda cc)
  N := N
  s_0 := s
  H_0 := H
  env := supEnv qual sc s.heap.objs.size f cda cc
  outer := outer
  stack := supEnv qual sc s.heap.objs.size f cda cc :: outer
  ex := []
  calm := true
  fn := fun x => !(x == ("__class__" : Str))
  pn := []
  xe := fun _ _ => False
theorem cells_one {cc c : Addr} {x : Str} (h : List.lookup x [(("__class__" : Str), cc)] = some c) : x = "__class__" ∧ c = cc := by
  rw [List.lookup_cons] at h
  split at h
  · rename_i e
    exact ⟨beq_iff_eq.mp e, (Option.some.inj h).symm⟩
  · cases h
theorem lookup_mem {y : Str} {u : Value} : ∀ {l : List (Str × Value)}, (l.map (·.1)).Nodup → (y, u) ∈ l → l.lookup y = some u
  | [], _, h => nomatch h
  | (z, v) :: r, hn, h => by
    rw [List.map_cons, List.nodup_cons] at hn
    rw [List.lookup_cons]
    rcases List.mem_cons.mp h with e | h
    · cases e
      simp
    · have ne : (y == z) = false := by
        refine beq_eq_false_iff_ne.mpr fun e => hn.1 ?_
        rw [← e]
        exact List.mem_map.mpr ⟨(y, u), h, rfl⟩
      rw [ne]
      exact lookup_mem hn.2 h
theorem zip_sub : ∀ (ps : List Str) (us : List Value), ((ps.zip us).map fun q : Str × Value => q.1).Sublist ps
  | [], _ => List.Sublist.refl _
  | _ :: _, [] => List.nil_sublist _
  | p :: ps, u :: us => List.Sublist.cons_cons _ (zip_sub ps us)
theorem zip_lookup {ps : List Str} {us : List Value} {i : Nat} {y : Str} {u : Value} (hn : ps.Nodup) (h1 : ps[i]? = some y) (h2 : us[i]? = some u) : (ps.zip us).reverse.lookup y = some u := by
  refine lookup_mem ?_ ?_
  · rw [List.map_reverse]
    refine List.pairwise_reverse.mpr (List.Pairwise.imp (R := fun a b => a ≠ b) (fun z => Ne.symm z) ?_)
    refine List.Pairwise.sublist ?_ hn
    exact zip_sub ps us
  · rw [List.mem_reverse]
    refine List.mem_of_getElem? (i := i) ?_
    rw [List.getElem?_zip_eq_some]
    exact ⟨h1, h2⟩
section
variable {P : Program} {w : World} {K : PySem.W.Frag} {mg : Str → Option Value} {base : Heap} {N ps : List Str} {qual : Str} {sc : Scope} {f cda cc : Addr} {A : Around} {outer : List Env} {s : Shared} {H : Hp} {us : List Value} {vs : List V}
theorem sup_start {oc : Obj} {v0 : Value} (S : SupScope N ps sc) (hd : A.handled = none) (e0 : Env0 P w K mg base A outer s H) (hl : vs.length = ps.length) (r : Vals vs us) (hc : K.lookup cc = some oc) (hcd : oc.data = .cell (some v0))
    {h : Heap} {t : Nat} (ns : h.Ns s.heap.objs.size (fun x => (ps.zip us).reverse.lookup x)) (keep : ∀ b o, s.heap.get? b = some o → h.get? b = some o) :
    Inv (cxS P w K mg base N qual sc f cda cc A outer s H) [] (L2.start N vs) H { s with heap := h, toks := t } := by
  have noA : ∀ b : Addr, b ∉ (cxS P w K mg base N qual sc f cda cc A outer s H).ex := fun b z => nomatch z
  have cB : base.get? cc = some oc := e0.mod.kin _ _ hc
  have cS := e0.bs _ _ cB
  have pl : ps.length ≤ N.length := by
    have z := congrArg List.length S.pre
    rw [List.length_take] at z
    omega
  constructor
  · constructor
    · exact e0.mod
    · exact S.kind
    · rfl
    · rfl
    · exact Nat.le_refl _
    · intro x y c h1 h2
      exact (cells_one h1).1.trans (cells_one h2).1.symm
    · intro x hx
      have hx : sc.names.lookup x = some .cell ∨ sc.names.lookup x = some .free := hx
      rcases hx with z | z
      · exact absurd rfl (S.nocell _ (PySem.mem_of_lookup z))
      · have e := S.free _ (PySem.mem_of_lookup z) rfl
        exact ⟨cc, by show List.lookup x [(("__class__" : Str), cc)] = some cc; rw [show x = "__class__" from e]; rfl⟩
    · intro x c h1 h2
      have e := (cells_one h2).1
      subst e
      exact absurd (show (!((("__class__" : Str)) == ("__class__" : Str))) = true from h1) (by decide)
    · exact fun _ => hd
    · exact Around.frames_deeper e0.frames
    · exact .inr ⟨rfl, rfl⟩
    · exact fun b z => absurd z (noA b)
    · exact e0.bs
    · exact e0.bsz
    · exact fun b _ _ => noA b
    · exact fun b z => absurd z (noA b)
    · exact e0.funs
    · exact e0.frf
  · rfl
  · exact e0.bare
  · exact Un.kept keep
  · refine ⟨_, ns, fun i y v h1 h2 h3 => ?_⟩
    have hi : i < vs.length := by
      by_cases z : i < vs.length
      · exact z
      · unfold L2.start at h2
        rw [List.getElem?_append_right (by simpa using z), List.getElem?_replicate] at h2
        split at h2 <;> cases h2
    have ha : vs[i]? = some v := by
      unfold L2.start at h2
      rw [List.getElem?_append_left (by simpa using hi), List.getElem?_map, List.getElem?_eq_getElem hi] at h2
      rw [List.getElem?_eq_getElem hi]
      exact Option.some.inj h2
    obtain ⟨u, hu, rv⟩ := r.get ha
    have hp : ps[i]? = some y := by
      rw [← S.pre, List.getElem?_take_of_lt (by omega)]
      exact h1
    have ndp : ps.Nodup := by
      rw [← S.pre]
      exact S.nd.sublist (List.take_sublist _ _)
    refine ⟨u, rv, .inl ⟨S.par y (List.mem_of_getElem? hp), ?_⟩⟩
    exact zip_lookup ndp hp hu
  · intro x c h1
    obtain ⟨_, rfl⟩ := cells_one h1
    exact ⟨_, oc, keep _ _ cS.1, hcd⟩
  · exact e0.hok.fresh (Nat.le_refl _)
  · intro x c h1
    obtain ⟨_, rfl⟩ := cells_one h1
    exact cS.2
  · exact fun p z => nomatch z
  · exact e0.hok.kept keep
  · show (L2.start N vs).length = N.length
    unfold L2.start
    rw [List.length_append, List.length_map, List.length_replicate]
    omega
end
/-- the built-in __init__ bound to an exception, called: its args are laid anew -/
theorem mw_call {prog : Program} {w : World} {A : Around} {E : Value → Shared → Prop} {h : Heap} {g : Array GenState} {d : Drawn} {t : Nat} {os : OsState} {nm q : Str} {C N u x t0 : Addr} {bs bm : List Value} {hdct : Bool} {sn : List Str} {sub : List Value} {ab : Bool} {col : Option Bool}
    {dd : Option Addr} {k0 k1 k2 k3 k5 : Option Value} {rest : List Value} {Q : Value → Shared → Prop} (hC : h.get? C = some (excClassObj nm q C N bs bm hdct sn sub ab col dd k0 k1 k2 k3 k5 "ValueError.__new__")) (hu : h.get? u = some (PySem.W.kxs_mw "ValueError.__init__" x))
    (he : h.get? x = some (PySem.HandSPX.excO C t0)) (hz : rest.length ≤ sizeLine)
    (hq : ∀ h' t1, (∀ b o, b ≠ x → h.get? b = some o → h'.get? b = some o) → h'.get? x = some (PySem.HandSPX.excO C t1) → Q .none ⟨h', g, d, t, os⟩) :
    wpAny (model prog w) A (call (.ref u) rest) Q E ⟨h, g, d, t, os⟩ := by
  refine wpAny_call (codeAny_of_tree ?_)
  show wpAny _ A.in1 (callAny (.ref u) ⟨rest, []⟩) _ _ _
  unfold callAny
  refine wpAny_bind (wpAny_load hu ?_)
  have k : (Value.type "method-wrapper" == Value.type "method" || Value.type "method-wrapper" == Value.type "builtin_function_or_method" || Value.type "method-wrapper" == Value.type "method-wrapper") = true := by decide
  simp only [PySem.W.kxs_mw, k, if_true]
  refine PySem.W.KFB.if_so (by decide) ?_
  refine wpAny_bind (PySem.W.check_bound_init F.excBase_ValueError.toExcCallFacts hC he rfl ?_)
  refine wpAny_bind (wpAny_pure (wpAny_pure ⟨plainId_quiet F.excBase_ValueError.init.plain _, codeAny_builtin F.excBase_ValueError.initEntry ?_⟩))
  exact PySem.W.exc_init_tree (cls := .ref C) (t0 := t0) (dv := none) (c2 := .none) (c3 := .none) (b4 := .bool false) he hz fun h' k1 k2 _ => hq h' h.objs.size k1 k2
/-- what the text and the top say of such a class -/
structure SupCls (P : Program) (K : PySem.W.Frag) (mg : Str → Option Value) (x qual : Str) (st : Stmt) (C fI cc cda : Addr) (fd : FuncData) : Prop where
  gC : mg x = some (.ref C)
  ox : OexC K C
  iC : PySem.W.findIn K (.ref C) "__init__" = some (some (.ref fI))
  tI : PySem.W.typeIn K (.ref fI) = some (.type "function")
  fn : ∃ (oc : Value) (od : Option Addr) (doc pm : Value) (an : Option Addr) (ct : Value) (osl : Array (Option Value)), fd = PySem.W.ksFn "__init__" qual (defArgs st) (defBody st) (defScope st) .none .none doc pm an (.ref cda) ct cc ∧ K.lookup fI = some ⟨oc, od, .func fd, osl⟩
  cdq : PySem.W.codeIn K (.ref cda) qual = true
  code : ∃ (ccl : Value) (cdd : Option Addr) (vs : Array Value) (ccs : Array (Option Value)) (file : Str) (tf : Tok), K.lookup cda = some ⟨ccl, cdd, .fields vs, ccs⟩ ∧ vs[2]? = some (.str file tf) ∧ ((P.main.file : Str) == file) = true
  cell : ∃ (cl : Value) (cld : Option Addr) (csl : Array (Option Value)), K.lookup cc = some ⟨cl, cld, .cell (some (.ref C)), csl⟩
  sub : PySem.W.mroIn K C (.ref C) = some true
  noS : mg "super" = none
  anyC : PySem.W.nsIn K cStatics "thirdparty.any" = some none
  supI : PySem.W.ks_superIn K C C "__init__" = some (some (.builtin "ValueError.__init__"))
  subV : PySem.W.subIn K (.ref C) (.type "ValueError") = some true
  noTop : (P.main.scope.names.lookup ("super" : Str)).isSome = false
theorem boot_super : bootBuiltins "super" = some (.type "super") := by decide +kernel
section
variable {P : Program} {w : World} {K : PySem.W.Frag} {mg : Str → Option Value} {base : Heap}
theorem ok_sup {x qual : Str} {st : Stmt} {C fI cc cda : Addr} {fd : FuncData} {N ps : List Str} {ar : Arg} {k : Nat} {sp : Sp} {p0 p1 p2 p3 p4 : Pos} {msg : Expr} {rest : List Stmt} (T : SupCls P K mg x qual st C fI cc cda fd) (S : SupScope N ps (defScope st))
    (hp : ((defArgs st).posonlyargs ++ (defArgs st).args).head? = some ar) (hps : ps[0]? = some ar.arg) (hbody : defBody st = .Expr (.Call (.Attribute (.Call (.Name "super" p0) [] [] p1) "__init__" p2) [msg] [] p3) p4 :: rest)
    {pl : Sem Bool} (hev : ∀ L : Addr, eval (.Call (.Attribute (.Call (.Name "super" p0) [] [] p1) "__init__" p2) [msg] [] p3) (supEnv qual (defScope st) L fI cda cc) = (do
      let ov ← attributeBase (.Call (.Name "super" p0) [] [] p1) "__init__" (supEnv qual (defScope st) L fI cda cc) (eval (.Call (.Name "super" p0) [] [] p1) (supEnv qual (defScope st) L fI cda cc))
      standAt p2.atName
      let (f, first) ← holding [ov] (getMethod ov "__init__" pl)
      callWith p3 f first (backTo p3 (starEach [msg] (supEnv qual (defScope st) L fI cda cc))) []))
    (hst : ∀ L : Addr, starEach [msg] (supEnv qual (defScope st) L fI cda cc) = [(false, eval msg (supEnv qual (defScope st) L fI cda cc))])
    (len : ∀ vs H Q E, sp vs H Q E → vs.length = ps.length)
    (hb : ∀ (A : Around) (outer : List Env) (s : Shared) (H : Hp) (vs : List V) (Q : VK) (E : XK), Room k (A.deeper (supEnv qual (defScope st) s.heap.objs.size fI cda cc)) → sp vs H Q E →
      ∃ (a : Addr) (tm : TE) (t : TS), vs[0]? = some (.ref a) ∧ H a = some (exo a C none) ∧ PE (cxS P w K mg base N qual (defScope st) fI cda cc A outer s H) msg tm ∧ PSs (cxS P w K mg base N qual (defScope st) fI cda cc A outer s H) rest t ∧
        tm (L2.start N vs) H fun _ H1 => H1 a = some (exo a C none) ∧ t { nx := fun _ H' => Q .non H', rt := Q } (L2.start N vs) H1) :
    FnOk P w K mg base CX0 (k + 1) fI fd ps sp := by
  refine ⟨len, fun A outer s H args us vs Q E hr e0 bind r want => ?_⟩
  obtain ⟨oc, od, doc, pm, an, ct, osl, rfl, lk⟩ := T.fn
  obtain ⟨ccl, cdd, cvs, ccs, file, tf, lkc, hv2, hfile⟩ := T.code
  obtain ⟨cl, cld, csl, lcc⟩ := T.cell
  obtain ⟨nm, qn, NS, bs, bm, sn, sub, ab, col, dd, k0, k1, k2, k3, k5, hC, hbm⟩ := T.ox.cls
  have hl := len _ _ _ _ want
  have KX : K.In s.heap := e0.mod.kin.keeps fun b o z => (e0.bs b o z).1
  have lim : s.heap.NoLimit := e0.mod.nolimit.keeps fun b o z => (e0.bs b o z).1
  obtain ⟨a, tm, t, h0, hexo, pm1, prest, ready⟩ := hb A outer s H vs Q E (hr.deeper _) want
  refine PySem.ks_codeAny_call_defAt (body := defBody st) hr.depth (KX _ _ lk) rfl lim (PySem.W.codeRec_of KX T.cdq) rfl bind S.nocell (fun y hy => ?_) (fun hh hns hk => ?_) S.co S.gen S.kind
  · exact S.par _ (List.of_mem_zip (a := y.1) (b := y.2) hy).1
  have I0 : Inv (cxS P w K mg base N qual (defScope st) fI cda cc A outer s H) [] (L2.start N vs) H { s with heap := hh, toks := s.toks + (ps.zip us).length } := sup_start S hr.hd e0 hl r lcc rfl hns hk
  have KH : K.In hh := KX.keeps hk
  have v0 : us[0]? = some (.ref a) := by
    obtain ⟨u, hu, ru⟩ := r.get h0
    cases (show u = Value.ref a from ru)
    exact hu
  obtain ⟨t0, hea⟩ := exo_at I0.hok hexo
  have hea : hh.get? a = some (PySem.HandSPX.excO C t0) := hea
  -- super().__init__(msg)
  show PySem.wpAt (model P w) (A.deeper (supEnv qual (defScope st) s.heap.objs.size fI cda cc)) (.func (defBody st) (supEnv qual (defScope st) s.heap.objs.size fI cda cc)) (execs (defBody st) (supEnv qual (defScope st) s.heap.objs.size fI cda cc)) _ _ _
  rw [show execs (defBody st) (supEnv qual (defScope st) s.heap.objs.size fI cda cc) = execs (.Expr (.Call (.Attribute (.Call (.Name "super" p0) [] [] p1) "__init__" p2) [msg] [] p3) p4 :: rest) (supEnv qual (defScope st) s.heap.objs.size fI cda cc) from congrArg (fun b => execs b _) hbody]
  obtain ⟨mL, glob, blt⟩ : (∃ m, (⟨hh, s.gens, s.drawn, s.toks + (ps.zip us).length, s.os⟩ : Shared).heap.Ns s.heap.objs.size m) ∧ hh.Ns mainGlobals mg ∧ ∃ mb, hh.Ns builtinsNs mb ∧ ∀ y : Str, y ≠ "__name__" → mb y = bootBuiltins y := by
    refine ⟨⟨_, hns⟩, e0.mod.glob.keeps I0.bk, ?_⟩
    obtain ⟨mb, b1, b2⟩ := e0.mod.blt
    exact ⟨mb, b1.keeps I0.bk, b2⟩
  obtain ⟨mb, b1, b2⟩ := blt
  obtain ⟨cdD, hcdD, oD, hoD, hoD2⟩ : ∃ cdD, PySem.W.clsIn K C = some cdD ∧ ∃ oD, hh.get? C = some oD ∧ oD.data = .cls cdD := by
    refine ⟨{ name := nm, bases := bs, mro := .ref C :: bm, ns := NS, qualname := qn, hasDict := true, slotNames := sn, subclasses := sub, abstract := ab, collection := col, hasDel := false }, ?_, _, KH _ _ hC, rfl⟩
    unfold PySem.W.clsIn
    rw [hC] <;> rfl
  refine PySem.ks_wpAt_execs_cons (PySem.ks_wpAt_Expr_any (PySem.ks_wpAt_MethodCall (pl := pl) ?_ (hev _)) (by unfold interactive; rw [show (supEnv qual (defScope st) s.heap.objs.size fI cda cc).scope.kind = .function from S.kind]; rfl) (by rfl))
  refine PySem.ks_wpAt_super_base (env := supEnv qual (defScope st) s.heap.objs.size fI cda cc) S.sup S.cls (by decide) rfl (KH _ _ lk) rfl hp rfl (KH _ _ lkc) rfl hv2 hfile T.noTop ?_
  refine PySem.W.ks_loadName_global S.kind S.sup (PySem.Calls.loadGlobal_builtin (env := supEnv qual (defScope st) s.heap.objs.size fI cda cc) glob T.noS b1 ((b2 _ (by decide)).trans boot_super) ⟨rfl, ?_⟩)
  refine wpAny_loadName_free S.kind S.cls rfl ⟨_, KH _ _ lcc, rfl⟩ ?_
  refine wpAny_loadName_local S.kind (S.par _ (List.mem_of_getElem? hps)) hns (zip_lookup (i := 0) (by rw [← S.pre]; exact S.nd.sublist (List.take_sublist _ _)) hps v0) ?_
  refine PySem.ks_wpAny_isType_cls hoD hoD2 ⟨rfl, ?_⟩
  refine PySem.ks_wpAny_call_super hoD hoD2 hea rfl (fun c e => nomatch e) (PySem.W.looks_mroIn KH T.sub) (fun h1 hso k1 => ?_)
  have KH1 : K.In h1 := KH.keeps k1
  have hea1 := k1 _ _ hea
  have inst : PySem.W.InstAt h1 a (PySem.HandSPX.excO C t0) C none := ⟨hea1, rfl, rfl, trivial⟩
  have along : PySem.W.alongIn K "__init__" ((cdD.mro.dropWhile (· != .ref C)).drop 1) = some (some (.builtin "ValueError.__init__")) := by
    have z := T.supI
    unfold PySem.W.ks_superIn at z
    rw [hcdD] at z
    exact z
  refine PySem.W.kxs_getMethod PySem.W.kxs_ValueError hso (PySem.W.looks_opaque KH1 T.anyC) (l₀ := cdD.mro) (fun A Q E s k q => wpAny_bind ((PySem.W.looks_clsIn KH1 hcdD) A _ E s k (wpAny_pure q))) rfl KH1 along
    (inst.type.andThen (PySem.W.looks_subIn KH1 T.subV)) (PySem.W.ks_ne KH1 inst hcdD) (by decide) ?_
  show wpAny _ _ (callWith p3 (.ref h1.objs.size) [] (backTo p3 (starEach [msg] (supEnv qual (defScope st) s.heap.objs.size fI cda cc))) []) _ _ _
  rw [hst]
  generalize hu : h1.objs.size = u
  have k2 : ∀ b o, h1.get? b = some o → (h1.push (PySem.W.kxs_mw "ValueError.__init__" a)).get? b = some o := fun b o z => Heap.get?_push_of_some _ z
  have hmw : (h1.push (PySem.W.kxs_mw "ValueError.__init__" a)).get? u = some (PySem.W.kxs_mw "ValueError.__init__" a) := by rw [← hu]; exact Heap.get?_push_size _ rfl
  have I2 := I0.kept (h' := h1.push (PySem.W.kxs_mw "ValueError.__init__" a)) (t' := s.toks + (ps.zip us).length + 1) (fun b o z => k2 b o (k1 b o z))
  have uH : H u = none := by
    rw [← hu]
    exact I0.hok.fresh (Nat.le_of_lt (Heap.lt_size hso))
  have I3 : Inv (cxS P w K mg base N qual (defScope st) fI cda cc A outer s H) [(u, PySem.W.kxs_mw "ValueError.__init__" a)] (L2.start N vs) H _ := I2.pins_of (by
    intro p hp
    rw [List.mem_singleton.mp hp]
    refine ⟨hmw, uH, ?_, ?_, fun v z => nomatch z⟩
    · have z1 : s.heap.objs.size < hh.objs.size := hns.lt
      have z2 := Heap.lt_size hso
      rw [hu] at z2
      exact Nat.ne_of_gt (Nat.lt_trans z1 z2)
    · refine I0.nofs ?_
      rw [← hu]
      exact Nat.le_of_lt (Heap.lt_size hso))
  refine PySem.W.kxs_callWith (i := "ValueError.__init__") (x := a) rfl (PySem.Calls.evalArgs_plain ?_)
  refine PySem.Calls.spliced_cons (wpAny_mono (pm1.run _ _ _ _ _ I3 ready) ?_ (fun _ _ z => z.elim))
  rintro v s1 ⟨y, H1, I4, ry, hexo1, ready1⟩
  refine PySem.Calls.spliced_nil ⟨(I4.pin (u, _) (List.mem_append_right _ List.mem_cons_self)).1, ?_⟩
  obtain ⟨t1, he1⟩ := exo_at I4.hok hexo1
  have hmw1 := (I4.pin (u, _) (List.mem_append_right _ List.mem_cons_self)).1
  have KH4 := I4.kIn
  obtain ⟨hp4, g4, d4, tk4, os4⟩ := s1
  refine mw_call (KH4 _ _ hC) hmw1 he1 (by show 1 ≤ sizeLine; decide) (fun h5 t5 keep5 he5 => ?_)
  have I5 := I4.write (t' := tk4) (x := a) (e := a) (o := exo a C none) (by rw [hexo1]; exact True.intro) (.inl rfl) keep5 ⟨_, he5⟩ (exo_ok he5)
  have eH : upd H1 a (exo a C none) = H1 := by
    funext b
    by_cases hb : b = a
    · rw [hb, upd_same, hexo1]
    · rw [upd_ne hb]
  rw [eH] at I5
  refine PySem.wpAt_of_wpAny (wpAny_mono (prest.run _ _ _ _ _ I5 ready1) ?_ (fun _ _ z => z.elim))
  intro fl s' hs
  cases fl with
  | next =>
    obtain ⟨σ', H', J, q⟩ := hs
    exact ⟨V.non, H', J.os, J.bare, J.base, J.hok, rfl, q⟩
  | ret z =>
    obtain ⟨v', σ', H', J, rv, q⟩ := hs
    exact ⟨v', H', J.os, J.bare, J.base, J.hok, rv, q⟩
  | brk =>
    obtain ⟨_, _, _, z⟩ := hs
    exact (z : False).elim
  | cont =>
    obtain ⟨_, _, _, z⟩ := hs
    exact (z : False).elim
end
/-! ### such an error as a value -/
/-- C(e, ..) as a value: a new error at a, its dict at d -/
def tNewE (C : Addr) (sp : Sp) (ta : TA) : TE := fun σ H Q => ta σ H fun vs H1 => vs.length ≤ 1000 ∧ ∀ a, H1 a = none → sp (.ref a :: vs) (upd H1 a (exo a C none)) (fun v H2 => v = .non ∧ H1 a = none ∧ Q (.ref a) H2) fun _ _ _ => False
theorem pe_oex {X : Cx} {x : Str} {C fI : Addr} {k : Nat} {fd : FuncData} {ps : List Str} {sp : Sp} {e : Expr} {es : List Expr} {ta : TA} {p pos : Pos} (T : OexC X.K C) (iC : PySem.W.findIn X.K (.ref C) "__init__" = some (some (.ref fI))) (tI : PySem.W.typeIn X.K (.ref fI) = some (.type "function"))
    (F1 : FnOk X.prog X.w X.K X.mg X.base CX0 k fI fd ps sp) (hr : Room (k + 1) X.A) (hb : Binds X.K fd ps []) (hg : Gl X x) (hm : X.mg x = some (.ref C)) (ha : PA X (e :: es) ta)
    (hdb : (x == ("__debug__" : Str)) = false := by decide) (he : starEach (e :: es) X.env = (false, eval e X.env) :: starEach es X.env := by rfl) (hpl : (backTo pos (starEach es X.env)).any (·.1) = false := by rfl) :
    PE X (.Call (.Name x p) (e :: es) [] pos) (tNewE C sp ta) := by
  constructor
  intro pins s σ H Q I h
  obtain ⟨nm, q, N, bs, bm, sn, sub, ab, col, dd, k0, k1, k2, k3, k5, hC, hbm⟩ := T.cls
  have args := ha.run pos pins s σ H _ I h
  refine wpAny_Call_Name_kw (ld_glob I hg hm (PySem.W.callWith_K (h₀ := X.base) I.ok.mod.kin T.kC (thn args ?_) he hpl) hdb)
  rintro us s1 ⟨vs, H1, J, r1, hz, want⟩
  refine ⟨J.kIn, ?_⟩
  show wpAny _ _ (call (.ref C) us) _ _ _
  obtain ⟨hp, g, dr, tk, os⟩ := s1
  let a := hp.objs.size + 1
  let h2 : Heap := (hp.push (PySem.W.kdv_tup us)).push (PySem.HandSPX.excO C hp.objs.size)
  have big : hp.objs.size ≤ a := Nat.le_succ _
  have na : H1 a = none := J.hok.fresh big
  have keep : ∀ b o, hp.get? b = some o → h2.get? b = some o := fun b o z => Heap.get?_push_of_some _ (Heap.get?_push_of_some _ z)
  have at2 : h2.get? a = some (PySem.HandSPX.excO C hp.objs.size) := by
    show ((hp.push (PySem.W.kdv_tup us)).push (PySem.HandSPX.excO C hp.objs.size)).get? (hp.objs.size + 1) = _
    heap_get
  have J2 : Inv X pins σ (upd H1 a (exo a C none)) ⟨h2, g, dr, tk, os⟩ := J.laid (t' := tk) (a := a) (o := exo a C none) (h' := h2) keep big (exo_ok at2)
  have rel : Vals (V.ref a :: vs) (Value.ref a :: us) := .cons rfl r1
  have ready := want a na
  have len : (Value.ref a :: us).length = ps.length := by
    rw [← rel.length]
    exact F1.len _ _ _ _ ready
  have lus : us.length ≤ sizeLine := by
    rw [← r1.length, sizeLine_eq]
    omega
  have rel0 : Vals (V.ref a :: vs) (Value.ref a :: us ++ []) := by
    rw [List.append_nil]
    exact rel
  refine wpAny_call (PySem.HandSPX.call_own F.excBase_ValueError (fun Y => PySem.HandSPX.refsVE_contains Y bm hbm) (J.kIn _ _ hC) (PySem.W.looks_findIn J.kIn iC) (fun self => PySem.W.bind_fn J.kIn self tI) lus
    (codeAny_mono (F1.run _ X.stack _ _ ⟨Value.ref a :: us, []⟩ (Value.ref a :: us ++ []) (V.ref a :: vs) _ (fun _ _ _ => False) (hr.make C us []) (J2.env0.make C us []) (hb _ (Value.ref a :: us) J2.kIn (by rw [List.append_nil]; exact len)) rel0 ready) ?_))
  intro r s' hq
  match r, hq with
  | .error _, hq => exact (hq : False).elim
  | .ok .next, hq => exact False.elim hq
  | .ok .brk, hq => exact False.elim hq
  | .ok .cont, hq => exact False.elim hq
  | .ok (.ret u), hq =>
    obtain ⟨v, H2, os2, bare2, un2, ok2, rv, ev, _, q2⟩ := hq
    subst ev
    obtain ⟨hh2, g2, d2, t2, os'⟩ := s'
    exact ⟨rv, .ref a, H2, J2.call' (ch := []) os2 un2 ok2 bare2 (fun b z => nomatch z), rfl, q2⟩
/-! ### e.f of such an error that is tracked -/
def tExf (K : PySem.W.Frag) (f : Str) (te : TE) : TE := fun σ H Q => te σ H fun x H1 => ∃ (a C d : Addr) (fs : List (Str × V)) (v : V), x = .ref a ∧ ExcC K C ∧ PySem.W.findIn K (.ref C) f = some none ∧ H1 a = some (exo a C (some d)) ∧ H1 d = some (exd d fs) ∧ fs.lookup f = some v ∧ Q v H1
theorem pe_exf {X : Cx} {e : Expr} {te : TE} {pos : Pos} {n : Str} (he : PE X e te) (hb : attributeBase e n X.env (eval e X.env) = eval e X.env := by rfl) : PE X (.Attribute e n pos) (tExf X.K n te) := by
  constructor
  intro pins s σ H Q I h
  refine attr_of hb (thn (he.run pins s σ H _ I h) ?_)
  rintro u s1 ⟨x, H1, J, rx, a, C, d, fs, v, rfl, T, hno, ea, ed, hl, q⟩
  cases (show u = Value.ref a from rx)
  obtain ⟨t1, ho⟩ := exo_at J.hok ea
  obtain ⟨mA, hns, hr⟩ := exd_at J.hok ed
  obtain ⟨od, hod, hlk⟩ := lookIn_ns hns
  obtain ⟨w', hw, rw'⟩ := RelO.some_of (v := v) (o := mA n) (by rw [← hl]; exact hr n)
  have inst : PySem.W.InstAt s1.heap a { cls := .ref C, dict := some d, data := .fields #[.ref t1, .none, .none, .none, .bool false, .none] } C (some od) := ⟨ho, rfl, rfl, hod⟩
  exact HandSPX.exc_get J.kIn inst T.hg T.hk T.hs (PySem.W.findObj_own T.hd hno rfl (by rw [hlk, hw])) (handed_of rw') ⟨v, H1, J.tok _, rw', q⟩
/-! ### isinstance of an error that is tracked -/
theorem found_cls {K : PySem.W.Frag} {D : Addr} (T : ExcC K D) (od : Option Obj) : PySem.W.findObj K D od "__class__" = some (.bind (.builtin "getset_descriptor.__get__") (.builtin "object.__class__")) := by
  cases od with
  | none =>
    refine PySem.W.findObj_dataN ?_ T.ha T.hn T.ht
    obtain ⟨cd, e, _⟩ := PySem.W.any_some T.hd
    rw [e] <;> rfl
  | some o =>
    refine PySem.W.findObj_data ?_ T.ha T.hn T.ht
    obtain ⟨cd, e, _⟩ := PySem.W.any_some T.hd
    rw [e] <;> rfl
/-- e.__class__ of an error, with a dict of its own or without -/
theorem err_class {prog : Program} {w : World} {A : Around} {E : Value → Shared → Prop} {s : Shared} {K : PySem.W.Frag} {x D : Addr} {ox : Obj} {od : Option Obj} {Q : Option Value → Shared → Prop} (T : ExcC K D) (X : K.In s.heap) (I : PySem.W.InstAt s.heap x ox D od)
    (h : Q (some (.ref D)) { s with toks := s.toks + 1 }) : wpAny (model prog w) A (getAttr? (.ref x) "__class__") Q E s := by
  obtain ⟨hp, g, d, t, os⟩ := s
  have isD := I.type (M := model prog w)
  have noGo : (Value.builtin "BaseException.__getattribute__" == Value.builtin "object.__getattribute__") = false := by decide +kernel
  have plain : (onTheHeap (Value.ref D) && Value.builtin "BaseException.__getattribute__" == Value.builtin "object.__getattribute__") = false := by
    rw [noGo]
    exact Bool.and_false _
  unfold getAttr? getAttrBy? getAttrBy
  refine wpAny_bind (wpAny_mkText (wpAny_bind (wpAny_attempt (wpAny_holding (wpAny_bind (isD.at (wpAny_bind ((PySem.W.looks_findIn (M := model prog w) X T.hg).at ?_))))))))
  show wpAny _ _ (if (onTheHeap (Value.ref D) && Value.builtin "BaseException.__getattribute__" == Value.builtin "object.__getattribute__") = true then _ else _) _ _ _
  rw [if_neg (by rw [plain]; exact Bool.false_ne_true)]
  unfold getAttrByItsOwn hookBefore
  refine wpAny_bind ?_
  have onHeap : onTheHeap (Value.ref D) = true := rfl
  rw [if_pos onHeap]
  refine (PySem.W.looks_findIn (M := model prog w) X T.hk).at (wpAny_bind (wpAny_attempt (wpAny_holding ?_)))
  unfold callGetattribute boundAndCalled
  rw [if_neg (by exact Bool.false_ne_true), PySem.F.excAttr_ValueError.ga.bind (.ref x)]
  refine wpAny_bind (wpAny_pure ?_)
  show wpAny _ _ (call (.builtin "BaseException.__getattribute__") [.ref x, .str "__class__" t]) _ _ _
  refine wpAny_call (codeAny_call_builtin PySem.F.excAttr_ValueError.ga.plain PySem.F.entry_bexc_ga ?_)
  have sub : PySem.W.Looks (model prog w) hp (isInstance (.ref x) (.type "BaseException")) true := isD.andThen (PySem.W.looks_subIn X T.hs)
  refine @PySem.W.check_slot (model prog w) _ _ ⟨hp, g, d, t + 1, os⟩ "BaseException.__getattribute__" "BaseException" "__getattribute__" (.ref x) [.str "__class__" t] [] _ (by decide +kernel) (by decide +kernel) sub (PySem.F.args_bexc_ga (.ref x) (.str "__class__" t)) ?_
  unfold Builtin.«object.__getattribute__»
  refine wpAny_bind (wpAny_of_eq (a := ((Value.ref x : Value), [Value.str "__class__" t])) (by first | rfl | (simp only [slotArgs]; rfl)) (wpAny_bind (wpAny_pure (wpAny_bind (isD.at (wpAny_bind ((PySem.W.looks_find (M := model prog w) X I (found_cls T od)).at ?_)))))))
  show wpAny _ _ (holding [Value.builtin "object.__class__"] (call (.builtin "getset_descriptor.__get__") [.builtin "object.__class__", .ref x, .ref D]) >>= ret) _ _ _
  refine wpAny_bind (wpAny_holding (wpAny_call (PySem.W.class_get (s := ⟨hp, g, d, t + 1, os⟩) (ox := ox) (od := od) X I T.hm (wpAny_pure ?_))))
  show wpAny _ _ (handedOut (.ref D)) _ _ _
  rw [PySem.W.handedOut_of (v := .ref D) rfl]
  first
    | exact wpAny_pure (wpAny_pure h)
    | exact wpAny_pure h
    | exact wpAny_pure (wpAny_bind (wpAny_pure (wpAny_pure h)))
theorem kitx_err {K : PySem.W.Frag} {x D : Addr} {ox : Obj} {od : Option Obj} (T : ExcC K D) : PySem.W.KitX K (.ref x) (.ref D) (fun h => PySem.W.InstAt h x ox D od) := by
  have Z := PySem.W.handS_kitx_exc (x := x) (ox := ox) T.hg T.hk T.hs T.hd T.ha T.hn T.ht T.hm
  refine ⟨fun _ _ _ I => I.type, fun M h X _ => ?_, Z.ne, fun X I k => err_class T X I k⟩
  obtain ⟨cdD, e, _⟩ := PySem.W.any_some T.hd
  unfold PySem.W.clsIn at e
  split at e
  · rename_i c' d' cd' sl' ho
    intro A' Q' E' s' k q
    unfold isType loadHead
    exact wpAny_bind (wpAny_loadPart (k _ _ (X _ _ ho)) (wpAny_pure q))
  · cases e
/-- an error of the class at C stands at a -/
def ErrAt (H : Hp) (a C : Addr) : Prop := H a = some (ExO (.ref C) a) ∨ ∃ d fs, H a = some (exo a C (some d)) ∧ H d = some (exd d fs)
def rIsX (K : PySem.W.Frag) : List V → Hp → VK → Prop := fun xs H Q => ∃ (a C : Addr) (c : V) (u : Value) (b : Bool), xs = [.ref a, c] ∧ ErrAt H a C ∧ ExcC K C ∧ ClsV c u ∧ PySem.W.kitOne K (.ref C) u = some b ∧ Q (.bl b) H
theorem call_isX {X : Cx} : CallR X (.builtin "isinstance") (rIsX X.K) := by
  intro pins s σ H xs us Q I r h
  obtain ⟨a, C, c, cv, b, rfl, err, T, hc, e, q⟩ := h
  obtain ⟨u1, u2, rfl, r1, r2⟩ := vals2 r
  cases (show u1 = Value.ref a from r1)
  have e2 := hc.eq r2
  subst e2
  rcases err with ea | ⟨d, fs, ea, ed⟩
  · obtain ⟨⟨oe, vs, ho, hz, hd, _⟩, _, _⟩ := I.hok a _ ea
    obtain ⟨oc, od, oda, osl⟩ := oe
    obtain ⟨h1, h2⟩ := hz
    dsimp only at h1 h2 hd
    subst h1 h2 hd
    exact PySem.W.kia_one (PySem.W.handS_kitx_exc T.hg T.hk T.hs T.hd T.ha T.hn T.ht T.hm) I.kIn (show PySem.W.InstAt s.heap a _ C none from ⟨ho, rfl, rfl, trivial⟩) e (fun z => nomatch z) fun tk => ⟨.bl b, H, I.tok tk, rfl, q⟩
  · obtain ⟨t1, ho⟩ := exo_at I.hok ea
    obtain ⟨mA, hns, _⟩ := exd_at I.hok ed
    obtain ⟨od, hod, _⟩ := lookIn_ns hns
    exact PySem.W.kia_one (kitx_err T) I.kIn (show PySem.W.InstAt s.heap a _ C (some od) from ⟨ho, rfl, rfl, hod⟩) e (fun z => nomatch z) fun tk => ⟨.bl b, H, I.tok tk, rfl, q⟩
end My

namespace My
open PySem PySem.Spec PyProof.Rows L2
/-! ### the errors' own __init__ -/
abbrev i_TooMany : Stmt := inClass (topS 8) 0
abbrev i_SyntaxProblem : Stmt := inClass (topS 9) 0
abbrev i_NoStep : Stmt := inClass (topS 10) 0
abbrev i_NoRow : Stmt := inClass (topS 11) 0
abbrev i_NoTable : Stmt := inClass (topS 12) 0
abbrev i_NotLike : Stmt := inClass (topS 13) 0
theorem sup_TooMany : SupScope ["self", "limit"] ["self", "limit"] (defScope i_TooMany) := ⟨rfl, rfl, rfl, by decide +kernel, rfl, by decide +kernel, by decide +kernel, by decide +kernel, by decide +kernel, by decide +kernel⟩
theorem sup_SyntaxProblem : SupScope ["self", "line", "column"] ["self", "line", "column"] (defScope i_SyntaxProblem) := ⟨rfl, rfl, rfl, by decide +kernel, rfl, by decide +kernel, by decide +kernel, by decide +kernel, by decide +kernel, by decide +kernel⟩
theorem sup_NoStep : SupScope ["self", "place"] ["self", "place"] (defScope i_NoStep) := ⟨rfl, rfl, rfl, by decide +kernel, rfl, by decide +kernel, by decide +kernel, by decide +kernel, by decide +kernel, by decide +kernel⟩
theorem sup_NoRow : SupScope ["self", "place"] ["self", "place"] (defScope i_NoRow) := ⟨rfl, rfl, rfl, by decide +kernel, rfl, by decide +kernel, by decide +kernel, by decide +kernel, by decide +kernel, by decide +kernel⟩
theorem sup_NoTable : SupScope ["self", "fault"] ["self", "fault"] (defScope i_NoTable) := ⟨rfl, rfl, rfl, by decide +kernel, rfl, by decide +kernel, by decide +kernel, by decide +kernel, by decide +kernel, by decide +kernel⟩
theorem sup_NotLike : SupScope ["self", "answer"] ["self", "answer"] (defScope i_NotLike) := ⟨rfl, rfl, rfl, by decide +kernel, rfl, by decide +kernel, by decide +kernel, by decide +kernel, by decide +kernel, by decide +kernel⟩
/-- C(v): one field -/
def spErr1 (C : Addr) (f : Str) (M : V → Prop) : Sp := fun vs H Q _ => ∃ a v, vs = [.ref a, v] ∧ H a = some (exo a C none) ∧ M v ∧ ∀ d, H d = none → d ≠ a → Q .non (upd (upd H d (exd d [(f, v)])) a (exo a C (some d)))
def spErr2 (C : Addr) (f g : Str) (M : V → Prop) : Sp := fun vs H Q _ => ∃ a v u, vs = [.ref a, v, u] ∧ H a = some (exo a C none) ∧ M v ∧ M u ∧ ∀ d, H d = none → d ≠ a → Q .non (upd (upd (upd H d (exd d [(f, v)])) a (exo a C (some d))) d (exd d [(g, u), (f, v)]))
/-- an int that is shown -/
def IntV (v : V) : Prop := ∃ i : Int, v = .int i ∧ i.natAbs < 10 ^ 30
theorem IntV.log {i : Int} (h : i.natAbs < 10 ^ 30) : i.natAbs.log2 < 1920 := by
  by_cases z : i.natAbs = 0
  · rw [z]
    decide
  · exact (Nat.log2_lt z).mpr (Nat.lt_trans h (by decide))
section
variable {P : Program} {w : World} {K : PySem.W.Frag} {mg : Str → Option Value} {base : Heap}
theorem ok_NoTable {C fI cc cda : Addr} {fd : FuncData} {k : Nat} (T : SupCls P K mg "NoTable" "NoTable.__init__" i_NoTable C fI cc cda fd) (hno : PySem.W.findIn K (.ref C) "fault" = some none) : FnOk P w K mg base CX0 (k + 1) fI fd ["self", "fault"] (spErr1 C "fault" fun _ => True) := by
  refine ok_sup T sup_NoTable rfl rfl rfl (fun _ => rfl) (fun _ => rfl) (fun vs H Q E h => ?_) (fun A outer s H vs Q E hr h => ?_)
  · obtain ⟨a, v, rfl, _⟩ := h
    rfl
  · obtain ⟨a, v, rfl, ha, hm, q⟩ := h
    refine ⟨a, _, _, rfl, ha, pe_str, pss_one (ps_ost (pv 0) (pv 1)), ?_⟩
    exact ⟨ha, _, rfl, _, rfl, a, C, rfl, T.ox, hno, .inl ⟨ha, fun d hd ne => q d hd ne⟩⟩
theorem ok_NotLike {C fI cc cda : Addr} {fd : FuncData} {k : Nat} (T : SupCls P K mg "NotLike" "NotLike.__init__" i_NotLike C fI cc cda fd) (hno : PySem.W.findIn K (.ref C) "answer" = some none) : FnOk P w K mg base CX0 (k + 1) fI fd ["self", "answer"] (spErr1 C "answer" fun _ => True) := by
  refine ok_sup T sup_NotLike rfl rfl rfl (fun _ => rfl) (fun _ => rfl) (fun vs H Q E h => ?_) (fun A outer s H vs Q E hr h => ?_)
  · obtain ⟨a, v, rfl, _⟩ := h
    rfl
  · obtain ⟨a, v, rfl, ha, hm, q⟩ := h
    refine ⟨a, _, _, rfl, ha, pe_str, pss_one (ps_ost (pv 0) (pv 1)), ?_⟩
    exact ⟨ha, _, rfl, _, rfl, a, C, rfl, T.ox, hno, .inl ⟨ha, fun d hd ne => q d hd ne⟩⟩
theorem IntV.txt {i : Int} (h : i.natAbs < 10 ^ 30) : (Str.ofString (toString i)).length ≤ 1921 := by
  rw [PySem.ofString_length]
  exact int_text_length_le (by decide) (IntV.log h)
theorem app_len {a b : Str} {m n : Nat} (h1 : a.length ≤ m) (h2 : b.length ≤ n) : (a ++ b).length ≤ m + n := by
  rw [strLen_append]
  exact Nat.add_le_add h1 h2
theorem le_line {a : Str} {m : Nat} (h : a.length ≤ m) (hm : m ≤ 9000) : a.length ≤ sizeLine := by
  rw [sizeLine_eq]
  omega
theorem ok_TooMany {C fI cc cda : Addr} {fd : FuncData} {k : Nat} (T : SupCls P K mg "TooMany" "TooMany.__init__" i_TooMany C fI cc cda fd) (hno : PySem.W.findIn K (.ref C) "limit" = some none) : FnOk P w K mg base CX0 (k + 1) fI fd ["self", "limit"] (spErr1 C "limit" IntV) := by
  refine ok_sup T sup_TooMany rfl rfl rfl (fun _ => rfl) (fun _ => rfl) (fun vs H Q E h => ?_) (fun A outer s H vs Q E hr h => ?_)
  · obtain ⟨a, v, rfl, _⟩ := h
    rfl
  · obtain ⟨a, v, rfl, ha, ⟨i, rfl, hi⟩, q⟩ := h
    refine ⟨a, _, _, rfl, ha, pe_joined (.cons pe_str (.cons (pe_fmt (pv 1)) (.cons pe_str .nil))), pss_one (ps_ost (pv 0) (pv 1)), ?_⟩
    refine ⟨_, rfl, le_line (m := 60) (by decide) (by decide), _, rfl, .inr ⟨i, rfl, IntV.log hi, _, rfl, le_line (app_len (m := 60) (by decide) (IntV.txt hi)) (by decide), _, rfl, le_line (app_len (n := 60) (app_len (m := 60) (by decide) (IntV.txt hi)) (by decide)) (by decide), ?_⟩⟩
    exact ⟨ha, _, rfl, _, rfl, a, C, rfl, T.ox, hno, .inl ⟨ha, fun d hd ne => q d hd ne⟩⟩
theorem ok_NoStep {C fI cc cda : Addr} {fd : FuncData} {k : Nat} (T : SupCls P K mg "NoStep" "NoStep.__init__" i_NoStep C fI cc cda fd) (hno : PySem.W.findIn K (.ref C) "place" = some none) : FnOk P w K mg base CX0 (k + 1) fI fd ["self", "place"] (spErr1 C "place" IntV) := by
  refine ok_sup T sup_NoStep rfl rfl rfl (fun _ => rfl) (fun _ => rfl) (fun vs H Q E h => ?_) (fun A outer s H vs Q E hr h => ?_)
  · obtain ⟨a, v, rfl, _⟩ := h
    rfl
  · obtain ⟨a, v, rfl, ha, ⟨i, rfl, hi⟩, q⟩ := h
    refine ⟨a, _, _, rfl, ha, pe_joined (.cons pe_str (.cons (pe_fmt (pv 1)) .nil)), pss_one (ps_ost (pv 0) (pv 1)), ?_⟩
    refine ⟨_, rfl, le_line (m := 60) (by decide) (by decide), _, rfl, .inr ⟨i, rfl, IntV.log hi, _, rfl, le_line (app_len (m := 60) (by decide) (IntV.txt hi)) (by decide), ?_⟩⟩
    exact ⟨ha, _, rfl, _, rfl, a, C, rfl, T.ox, hno, .inl ⟨ha, fun d hd ne => q d hd ne⟩⟩
theorem ok_NoRow {C fI cc cda : Addr} {fd : FuncData} {k : Nat} (T : SupCls P K mg "NoRow" "NoRow.__init__" i_NoRow C fI cc cda fd) (hno : PySem.W.findIn K (.ref C) "place" = some none) : FnOk P w K mg base CX0 (k + 1) fI fd ["self", "place"] (spErr1 C "place" IntV) := by
  refine ok_sup T sup_NoRow rfl rfl rfl (fun _ => rfl) (fun _ => rfl) (fun vs H Q E h => ?_) (fun A outer s H vs Q E hr h => ?_)
  · obtain ⟨a, v, rfl, _⟩ := h
    rfl
  · obtain ⟨a, v, rfl, ha, ⟨i, rfl, hi⟩, q⟩ := h
    refine ⟨a, _, _, rfl, ha, pe_joined (.cons pe_str (.cons (pe_fmt (pv 1)) .nil)), pss_one (ps_ost (pv 0) (pv 1)), ?_⟩
    refine ⟨_, rfl, le_line (m := 60) (by decide) (by decide), _, rfl, .inr ⟨i, rfl, IntV.log hi, _, rfl, le_line (app_len (m := 60) (by decide) (IntV.txt hi)) (by decide), ?_⟩⟩
    exact ⟨ha, _, rfl, _, rfl, a, C, rfl, T.ox, hno, .inl ⟨ha, fun d hd ne => q d hd ne⟩⟩
theorem ok_SyntaxProblem {C fI cc cda : Addr} {fd : FuncData} {k : Nat} (T : SupCls P K mg "SyntaxProblem" "SyntaxProblem.__init__" i_SyntaxProblem C fI cc cda fd) (h1 : PySem.W.findIn K (.ref C) "line" = some none) (h2 : PySem.W.findIn K (.ref C) "column" = some none) : FnOk P w K mg base CX0 (k + 1) fI fd ["self", "line", "column"] (spErr2 C "line" "column" IntV) := by
  refine ok_sup T sup_SyntaxProblem rfl rfl rfl (fun _ => rfl) (fun _ => rfl) (fun vs H Q E h => ?_) (fun A outer s H vs Q E hr h => ?_)
  · obtain ⟨a, v, u, rfl, _⟩ := h
    rfl
  · obtain ⟨a, v, u, rfl, ha, ⟨i, rfl, hi⟩, ⟨j, rfl, hj⟩, q⟩ := h
    refine ⟨a, _, _, rfl, ha, pe_joined (.cons pe_str (.cons (pe_fmt (pv 1)) (.cons pe_str (.cons (pe_fmt (pv 2)) (.cons pe_str .nil))))), pss_cons (ps_ost (pv 0) (pv 1)) (pss_one (ps_ost (pv 0) (pv 2))), ?_⟩
    refine ⟨_, rfl, le_line (m := 60) (by decide) (by decide), _, rfl, .inr ⟨i, rfl, IntV.log hi, _, rfl, le_line (app_len (m := 60) (by decide) (IntV.txt hi)) (by decide), _, rfl, le_line (app_len (n := 60) (app_len (m := 60) (by decide) (IntV.txt hi)) (by decide)) (by decide), _, rfl, .inr ⟨j, rfl, IntV.log hj, _, rfl, le_line (app_len (app_len (n := 60) (app_len (m := 60) (by decide) (IntV.txt hi)) (by decide)) (IntV.txt hj)) (by decide), _, rfl, le_line (app_len (n := 60) (app_len (app_len (n := 60) (app_len (m := 60) (by decide) (IntV.txt hi)) (by decide)) (IntV.txt hj)) (by decide)) (by decide), ?_⟩⟩⟩
    exact ⟨ha, _, rfl, _, rfl, a, C, rfl, T.ox, h1, .inl ⟨ha, fun d hd ne => ⟨_, rfl, _, rfl, a, C, rfl, T.ox, h2, .inr ⟨d, [("line", .int i)], by rw [upd_same], by rw [upd_ne ne, upd_same], Nat.le_of_lt (show 1 < 900 from by decide), q d hd ne⟩⟩⟩⟩
end
end My

namespace My
open PySem PySem.Spec PyProof.Rows L2
/-! ### the sixteen classes -/
structure SupD where
  C : Addr
  fI : Addr
  cc : Addr
  cda : Addr
  fd : FuncData
structure XD where
  (TooMany SyntaxProblem NoStep NotLike NoRow NoTable : SupD)
  (NoKind NoLayout NoTree NoRecord NoName NoNumber NoEra NoMark Mismatch InvalidCommand LE : Addr)
structure PlainCls (K : PySem.W.Frag) (mg : Str → Option Value) (x : Str) (C : Addr) : Prop where
  gC : mg x = some (.ref C)
  q : PySem.W.excIn K C [.type "ValueError", .type "Exception", .type "BaseException", .type "object"] "ValueError.__new__" = true
  kC : PySem.W.keepIn K (.ref C) = true
def XD.cls (d : XD) : List Addr := [d.TooMany.C, d.SyntaxProblem.C, d.NoStep.C, d.NotLike.C, d.NoKind, d.NoLayout, d.NoTree, d.NoRecord, d.NoName, d.NoNumber, d.NoEra, d.NoMark, d.Mismatch, d.InvalidCommand, d.NoRow.C, d.NoTable.C]
abbrev SupOf (P : Program) (K : PySem.W.Frag) (mg : Str → Option Value) (x qual : Str) (st : Stmt) (d : SupD) : Prop := SupCls P K mg x qual st d.C d.fI d.cc d.cda d.fd
structure XF (P : Program) (K : PySem.W.Frag) (mg : Str → Option Value) (d : XD) : Prop where
  TooMany : SupOf P K mg "TooMany" "TooMany.__init__" i_TooMany d.TooMany
  no_TooMany : PySem.W.findIn K (.ref d.TooMany.C) "limit" = some none
  SyntaxProblem : SupOf P K mg "SyntaxProblem" "SyntaxProblem.__init__" i_SyntaxProblem d.SyntaxProblem
  no_line : PySem.W.findIn K (.ref d.SyntaxProblem.C) "line" = some none
  no_column : PySem.W.findIn K (.ref d.SyntaxProblem.C) "column" = some none
  NoStep : SupOf P K mg "NoStep" "NoStep.__init__" i_NoStep d.NoStep
  no_NoStep : PySem.W.findIn K (.ref d.NoStep.C) "place" = some none
  NotLike : SupOf P K mg "NotLike" "NotLike.__init__" i_NotLike d.NotLike
  no_NotLike : PySem.W.findIn K (.ref d.NotLike.C) "answer" = some none
  NoRow : SupOf P K mg "NoRow" "NoRow.__init__" i_NoRow d.NoRow
  no_NoRow : PySem.W.findIn K (.ref d.NoRow.C) "place" = some none
  NoTable : SupOf P K mg "NoTable" "NoTable.__init__" i_NoTable d.NoTable
  no_NoTable : PySem.W.findIn K (.ref d.NoTable.C) "fault" = some none
  NoKind : PlainCls K mg "NoKind" d.NoKind
  NoLayout : PlainCls K mg "NoLayout" d.NoLayout
  NoTree : PlainCls K mg "NoTree" d.NoTree
  NoRecord : PlainCls K mg "NoRecord" d.NoRecord
  NoName : PlainCls K mg "NoName" d.NoName
  NoNumber : PlainCls K mg "NoNumber" d.NoNumber
  NoEra : PlainCls K mg "NoEra" d.NoEra
  NoMark : PlainCls K mg "NoMark" d.NoMark
  Mismatch : PlainCls K mg "Mismatch" d.Mismatch
  InvalidCommand : PlainCls K mg "InvalidCommand" d.InvalidCommand
  gLE : mg "LayoutError" = some (.ref d.LE)
  exc : ∀ C ∈ d.cls, ExcC K C
  kit : ∀ (i j : Nat) (C D : Addr), d.cls[i]? = some C → d.cls[j]? = some D → PySem.W.kitOne K (.ref C) (.ref D) = some (decide (j = i))
  kitL : ∀ C ∈ d.cls, PySem.W.kitOne K (.ref C) (.ref d.LE) = some true
  kitV : ∀ C ∈ d.cls, PySem.W.kitOne K (.ref C) (.type "ValueError") = some true
theorem XF.no_SyntaxProblem {P : Program} {K : PySem.W.Frag} {mg : Str → Option Value} {d : XD} (D : XF P K mg d) : PySem.W.findIn K (.ref d.SyntaxProblem.C) "line" = some none ∧ PySem.W.findIn K (.ref d.SyntaxProblem.C) "column" = some none := ⟨D.no_line, D.no_column⟩
section
variable {P : Program} {K : PySem.W.Frag} {mg : Str → Option Value} {C fI cc cda : Addr} {fd : FuncData}
theorem bd_TooMany (T : SupCls P K mg "TooMany" "TooMany.__init__" i_TooMany C fI cc cda fd) : Binds K fd ["self", "limit"] [] := by
  obtain ⟨oc, od, doc, pm, an, ct, osl, rfl, lk⟩ := T.fn
  exact .all fun us hl => match us, hl with | [_, _], _ => rfl
theorem bd_SyntaxProblem (T : SupCls P K mg "SyntaxProblem" "SyntaxProblem.__init__" i_SyntaxProblem C fI cc cda fd) : Binds K fd ["self", "line", "column"] [] := by
  obtain ⟨oc, od, doc, pm, an, ct, osl, rfl, lk⟩ := T.fn
  exact .all fun us hl => match us, hl with | [_, _, _], _ => rfl
theorem bd_NoStep (T : SupCls P K mg "NoStep" "NoStep.__init__" i_NoStep C fI cc cda fd) : Binds K fd ["self", "place"] [] := by
  obtain ⟨oc, od, doc, pm, an, ct, osl, rfl, lk⟩ := T.fn
  exact .all fun us hl => match us, hl with | [_, _], _ => rfl
theorem bd_NotLike (T : SupCls P K mg "NotLike" "NotLike.__init__" i_NotLike C fI cc cda fd) : Binds K fd ["self", "answer"] [] := by
  obtain ⟨oc, od, doc, pm, an, ct, osl, rfl, lk⟩ := T.fn
  exact .all fun us hl => match us, hl with | [_, _], _ => rfl
theorem bd_NoRow (T : SupCls P K mg "NoRow" "NoRow.__init__" i_NoRow C fI cc cda fd) : Binds K fd ["self", "place"] [] := by
  obtain ⟨oc, od, doc, pm, an, ct, osl, rfl, lk⟩ := T.fn
  exact .all fun us hl => match us, hl with | [_, _], _ => rfl
theorem bd_NoTable (T : SupCls P K mg "NoTable" "NoTable.__init__" i_NoTable C fI cc cda fd) : Binds K fd ["self", "fault"] [] := by
  obtain ⟨oc, od, doc, pm, an, ct, osl, rfl, lk⟩ := T.fn
  exact .all fun us hl => match us, hl with | [_, _], _ => rfl
end
/-! ### errors that are made, as facts of the heap -/
abbrev EP1 := Hp → Addr → Prop
def RI (i : Int) (_ : Hp) (v : V) : Prop := v = .int i
def RT (xs : List V) (H : Hp) (v : V) : Prop := ∃ t, v = .ref t ∧ H t = some (.tup xs)
def ErrF (C : Addr) (fs : List (Str × V)) : EP1 := fun H a => ∃ d, H a = some (exo a C (some d)) ∧ H d = some (exd d fs)
def Er1 (C : Addr) (f : Str) (R : Hp → V → Prop) : EP1 := fun H a => ∃ v, R H v ∧ ErrF C [(f, v)] H a
def Er2 (C : Addr) (f g : Str) (R S : Hp → V → Prop) : EP1 := fun H a => ∃ v u, R H v ∧ S H u ∧ ErrF C [(g, u), (f, v)] H a
def ErN (C : Addr) : EP1 := fun H a => H a = some (ExO (.ref C) a)
def StR (R : Hp → V → Prop) : Prop := ∀ H H' v, Same H H' → R H v → R H' v
def StE (Φ : EP1) : Prop := ∀ H H' a, Same H H' → Φ H a → Φ H' a
theorem stI {i : Int} : StR (RI i) := fun _ _ _ _ h => h
theorem stT {xs : List V} : StR (RT xs) := fun _ _ _ s ⟨t, e, h⟩ => ⟨t, e, s _ _ h⟩
theorem stF {C : Addr} {fs : List (Str × V)} : StE (ErrF C fs) := fun _ _ _ s ⟨d, e1, e2⟩ => ⟨d, s _ _ e1, s _ _ e2⟩
theorem st1 {C : Addr} {f : Str} {R : Hp → V → Prop} (h : StR R) : StE (Er1 C f R) := fun _ _ _ s ⟨v, r, e⟩ => ⟨v, h _ _ _ s r, stF _ _ _ s e⟩
theorem st2 {C : Addr} {f g : Str} {R S : Hp → V → Prop} (h1 : StR R) (h2 : StR S) : StE (Er2 C f g R S) := fun _ _ _ s ⟨v, u, r1, r2, e⟩ => ⟨v, u, h1 _ _ _ s r1, h2 _ _ _ s r2, stF _ _ _ s e⟩
theorem stN {C : Addr} : StE (ErN C) := fun _ _ _ s e => s _ _ e
inductive A2 (H : Hp) : List Addr → List EP1 → Prop
  | nil : A2 H [] []
  | cons {a : Addr} {as : List Addr} {Φ : EP1} {r : List EP1} (h : Φ H a) (t : A2 H as r) : A2 H (a :: as) (Φ :: r)
theorem A2.append {H : Hp} {as bs : List Addr} {p q : List EP1} (h : A2 H as p) (g : A2 H bs q) : A2 H (as ++ bs) (p ++ q) := by
  induction h with
  | nil => exact g
  | cons x _ ih => exact .cons x ih
theorem A2.same {H H' : Hp} {as : List Addr} {p : List EP1} (h : A2 H as p) (st : ∀ Φ ∈ p, StE Φ) (s : Same H H') : A2 H' as p := by
  induction h with
  | nil => exact .nil
  | cons x _ ih => exact .cons (st _ List.mem_cons_self _ _ _ s x) (ih fun Φ z => st Φ (List.mem_cons_of_mem _ z))
theorem A2.length {H : Hp} {as : List Addr} {p : List EP1} (h : A2 H as p) : as.length = p.length := by
  induction h with
  | nil => rfl
  | cons _ _ ih => rw [List.length_cons, List.length_cons, ih]
theorem A2.get {H : Hp} {as : List Addr} {p : List EP1} (h : A2 H as p) : ∀ {i : Nat} {a : Addr}, as[i]? = some a → ∃ Φ, p[i]? = some Φ ∧ Φ H a := by
  induction h with
  | nil =>
    intro i a e
    cases i <;> cases e
  | cons x _ ih =>
    intro i a e
    cases i with
    | zero =>
      cases e
      exact ⟨_, rfl, x⟩
    | succ i => exact ih e
/-- what makes a new error -/
def MkE (te : TE) (σ : L2.St) (Φ : EP1) : Prop := ∀ (H : Hp) (Q : VK), (∀ a H2, Same H H2 → Φ H2 a → Q (.ref a) H2) → te σ H Q
def ArgM (ta : TA) (σ : L2.St) (Ψ : Hp → List V → Prop) : Prop := ∀ (H : Hp) (Q : List V → Hp → Prop), (∀ vs H2, Same H H2 → Ψ H2 vs → Q vs H2) → ta σ H Q
def MkA (ta : TA) (σ : L2.St) (p : List EP1) : Prop := ∀ (H : Hp) (Q : List V → Hp → Prop), (∀ as H2, Same H H2 → A2 H2 as p → Q (as.map V.ref) H2) → ta σ H Q
theorem same_free {H H' : Hp} {q : Addr} (h : H' q = none) (s : Same H H') : H q = none := by
  cases e : H q with
  | none => rfl
  | some o =>
    rw [s _ _ e] at h
    cases h
theorem same_refl (H : Hp) : Same H H := fun _ _ e => e
theorem mk_nil {σ : L2.St} : MkA tNil σ [] := fun H Q h => h [] H (same_refl H) .nil
theorem mk_cons {te : TE} {ta : TA} {σ : L2.St} {Φ : EP1} {p : List EP1} (h : MkE te σ Φ) (st : StE Φ) (r : MkA ta σ p) : MkA (tCons te ta) σ (Φ :: p) := fun H Q q => h H _ fun a H1 s1 x => r H1 _ fun as H2 s2 y => q (a :: as) H2 (s1.trans s2) (.cons (st _ _ _ s2 x) y)
theorem mk_n {σ : L2.St} {C : Addr} {m : Str} : MkE (fun σ H Q => tC (.str m) σ H fun _ H1 => ∀ a, H1 a = none → Q (.ref a) (upd H1 a (ExO (.ref C) a))) σ (ErN C) := fun H Q q a ha => q a _ (same_upd ha) upd_same
theorem new_same {H : Hp} {a d : Addr} {o1 o2 o3 : HO} (ha : H a = none) (hd : upd H a o1 d = none) (ne : d ≠ a) : Same H (upd (upd (upd H a o1) d o2) a o3) := fun b o e => by
  have n1 : b ≠ a := ne_of_none e ha
  have n2 : b ≠ d := fun z => by
    rw [← z, upd_ne n1, e] at hd
    cases hd
  rw [upd_ne n1, upd_ne n2, upd_ne n1]
  exact e
theorem mk_1 {ta : TA} {σ : L2.St} {C : Addr} {f : Str} {M : V → Prop} {R : Hp → V → Prop} (st : StR R) (h : ArgM ta σ fun H vs => ∃ v, vs = [v] ∧ M v ∧ R H v) : MkE (tNewE C (spErr1 C f M) ta) σ (Er1 C f R) := by
  intro H Q q
  refine h H _ ?_
  rintro vs H1 s1 ⟨v, rfl, hm, hr⟩
  refine ⟨by show 1 ≤ 1000; decide, fun a ha => ⟨a, v, rfl, upd_same, hm, fun d hd ne => ⟨rfl, ha, ?_⟩⟩⟩
  have s2 := new_same (o1 := exo a C none) (o2 := exd d [(f, v)]) (o3 := exo a C (some d)) ha hd ne
  refine q a _ (s1.trans s2) ⟨v, st _ _ _ s2 hr, d, upd_same, ?_⟩
  rw [upd_ne ne, upd_same]
theorem mk_2 {ta : TA} {σ : L2.St} {C : Addr} {f g : Str} {M : V → Prop} {R S : Hp → V → Prop} (st : StR R) (st' : StR S) (h : ArgM ta σ fun H vs => ∃ v u, vs = [v, u] ∧ M v ∧ M u ∧ R H v ∧ S H u) : MkE (tNewE C (spErr2 C f g M) ta) σ (Er2 C f g R S) := by
  intro H Q q
  refine h H _ ?_
  rintro vs H1 s1 ⟨v, u, rfl, hm, hm2, hr, hr2⟩
  refine ⟨by show 2 ≤ 1000; decide, fun a ha => ⟨a, v, u, rfl, upd_same, hm, hm2, fun d hd ne => ⟨rfl, ha, ?_⟩⟩⟩
  have s2 : Same H1 (upd (upd (upd (upd H1 a (exo a C none)) d (exd d [(f, v)])) a (exo a C (some d))) d (exd d [(g, u), (f, v)])) := fun b o e => by
    have n1 : b ≠ a := ne_of_none e ha
    have n2 : b ≠ d := fun z => by
      rw [← z, upd_ne n1, e] at hd
      cases hd
    rw [upd_ne n2, upd_ne n1, upd_ne n2, upd_ne n1]
    exact e
  refine q a _ (s1.trans s2) ⟨v, u, st _ _ _ s2 hr, st' _ _ _ s2 hr2, d, ?_, upd_same⟩
  rw [upd_ne (Ne.symm ne), upd_same]
theorem arg_i {σ : L2.St} {i : Nat} {n : Int} (h : σ[i]? = some (some (.int n))) (hn : n.natAbs < 10 ^ 30) : ArgM (tCons (tVar i) tNil) σ (fun H vs => ∃ v, vs = [v] ∧ IntV v ∧ RI n H v) := fun H Q q => ⟨_, h, q _ H (same_refl H) ⟨_, rfl, ⟨n, rfl, hn⟩, rfl⟩⟩
theorem arg_ii {σ : L2.St} {i j : Nat} {n m : Int} (h : σ[i]? = some (some (.int n))) (h2 : σ[j]? = some (some (.int m))) (hn : n.natAbs < 10 ^ 30) (hm : m.natAbs < 10 ^ 30) : ArgM (tCons (tVar i) (tCons (tVar j) tNil)) σ (fun H vs => ∃ v u, vs = [v, u] ∧ IntV v ∧ IntV u ∧ RI n H v ∧ RI m H u) := fun H Q q => ⟨_, h, _, h2, q _ H (same_refl H) ⟨_, _, rfl, ⟨n, rfl, hn⟩, ⟨m, rfl, hm⟩, rfl, rfl⟩⟩
theorem arg_t1 {σ : L2.St} {m : Str} : ArgM (tCons (tTup (tCons (tC (.str m)) tNil)) tNil) σ (fun H vs => ∃ v, vs = [v] ∧ True ∧ RT [.str m] H v) := fun H Q q => ⟨by show 1 ≤ sizeLine; decide, fun p hp => q _ _ (same_upd hp) ⟨_, rfl, trivial, p, rfl, upd_same⟩⟩
theorem arg_t2 {σ : L2.St} {m : Str} {i : Nat} {n : Int} (h : σ[i]? = some (some (.int n))) : ArgM (tCons (tTup (tCons (tC (.str m)) (tCons (tVar i) tNil))) tNil) σ (fun H vs => ∃ v, vs = [v] ∧ True ∧ RT [.str m, .int n] H v) := fun H Q q => ⟨_, h, by show 2 ≤ sizeLine; decide, fun p hp => q _ _ (same_upd hp) ⟨_, rfl, trivial, p, rfl, upd_same⟩⟩
def Errs (d : XD) (l pl : Int) : List EP1 := [Er1 d.TooMany.C "limit" (RI l), Er2 d.SyntaxProblem.C "line" "column" (RI pl) (RI l), Er1 d.NoStep.C "place" (RI pl), Er1 d.NotLike.C "answer" (RT [.str "constant"]), ErN d.NoKind, ErN d.NoLayout, ErN d.NoTree, ErN d.NoRecord, ErN d.NoName, ErN d.NoNumber, ErN d.NoEra, ErN d.NoMark, ErN d.Mismatch, ErN d.InvalidCommand, Er1 d.NoRow.C "place" (RI pl), Er1 d.NoTable.C "fault" (RT [.str "none", .int l])]
def spMade (d : XD) : Sp := fun vs H Q _ => ∃ l pl : Int, vs = [.int l, .int pl] ∧ l.natAbs < 10 ^ 30 ∧ pl.natAbs < 10 ^ 30 ∧ ∀ p as H', Same H H' → H p = none → H' p = some (.lst (as.map V.ref)) → A2 H' as (Errs d l pl) → Q (.ref p) H'
abbrev s_law_made : Stmt := topS 29
theorem sc_law_made : FnScope ["limit", "place", "found"] ["limit", "place"] (defScope s_law_made) := ⟨rfl, rfl, rfl, by decide +kernel, rfl, by decide +kernel, by decide +kernel⟩
section
variable {P : Program} {w : World} {K : PySem.W.Frag} {mg : Str → Option Value} {base : Heap}
theorem ok_made {f : Addr} {fd : FuncData} {k : Nat} {d : XD} (F : Fun K "_law_made" "_law_made" s_law_made f fd) (D : XF P K mg d) : FnOk P w K mg base CX0 (k + 3) f fd ["limit", "place"] (spMade d) := by
  refine F.ok sc_law_made (fun vs H Q E h => ?_) (fun cdv A outer s H vs Q E hr h => ?_)
  · obtain ⟨l, pl, rfl, _⟩ := h
    rfl
  · obtain ⟨l, pl, rfl, hl, hp, q⟩ := h
    refine ⟨_, (pss_cons (ps_set (i := 2) sc_law_made.nd rfl (.inl rfl) (pe_lst (pa_cons (pe_oex D.TooMany.ox D.TooMany.iC D.TooMany.tI (ok_TooMany (k := 0) D.TooMany D.no_TooMany) (hr.mono (by omega)) (bd_TooMany D.TooMany) (by rfl) D.TooMany.gC (pa_cons (pv 0) pa_nil)) (pa_cons (pe_oex D.SyntaxProblem.ox D.SyntaxProblem.iC D.SyntaxProblem.tI (ok_SyntaxProblem (k := 0) D.SyntaxProblem D.no_line D.no_column) (hr.mono (by omega)) (bd_SyntaxProblem D.SyntaxProblem) (by rfl) D.SyntaxProblem.gC (pa_cons (pv 1) (pa_cons (pv 0) pa_nil))) (pa_cons (pe_oex D.NoStep.ox D.NoStep.iC D.NoStep.tI (ok_NoStep (k := 0) D.NoStep D.no_NoStep) (hr.mono (by omega)) (bd_NoStep D.NoStep) (by rfl) D.NoStep.gC (pa_cons (pv 1) pa_nil)) (pa_cons (pe_oex D.NotLike.ox D.NotLike.iC D.NotLike.tI (ok_NotLike (k := 0) D.NotLike D.no_NotLike) (hr.mono (by omega)) (bd_NotLike D.NotLike) (by rfl) D.NotLike.gC (pa_cons (pe_tup (pa_cons pe_str pa_nil)) pa_nil)) (pa_cons (pe_exc1 PySem.F.excBase_ValueError D.NoKind.q D.NoKind.gC D.NoKind.kC (by rfl) pe_str) pa_nil)))))))
  (pss_cons (ps_set (i := 2) sc_law_made.nd rfl (.inl rfl) (pe_op op_cat (pv 2) (pe_lst (pa_cons (pe_exc1 PySem.F.excBase_ValueError D.NoLayout.q D.NoLayout.gC D.NoLayout.kC (by rfl) pe_str) (pa_cons (pe_exc1 PySem.F.excBase_ValueError D.NoTree.q D.NoTree.gC D.NoTree.kC (by rfl) pe_str) (pa_cons (pe_exc1 PySem.F.excBase_ValueError D.NoRecord.q D.NoRecord.gC D.NoRecord.kC (by rfl) pe_str) (pa_cons (pe_exc1 PySem.F.excBase_ValueError D.NoName.q D.NoName.gC D.NoName.kC (by rfl) pe_str) (pa_cons (pe_exc1 PySem.F.excBase_ValueError D.NoNumber.q D.NoNumber.gC D.NoNumber.kC (by rfl) pe_str) (pa_cons (pe_exc1 PySem.F.excBase_ValueError D.NoEra.q D.NoEra.gC D.NoEra.kC (by rfl) pe_str) (pa_cons (pe_exc1 PySem.F.excBase_ValueError D.NoMark.q D.NoMark.gC D.NoMark.kC (by rfl) pe_str) pa_nil))))))))))
  (pss_one (ps_ret (pe_op op_cat (pv 2) (pe_lst (pa_cons (pe_exc1 PySem.F.excBase_ValueError D.Mismatch.q D.Mismatch.gC D.Mismatch.kC (by rfl) pe_str) (pa_cons (pe_exc1 PySem.F.excBase_ValueError D.InvalidCommand.q D.InvalidCommand.gC D.InvalidCommand.kC (by rfl) pe_str) (pa_cons (pe_oex D.NoRow.ox D.NoRow.iC D.NoRow.tI (ok_NoRow (k := 0) D.NoRow D.no_NoRow) (hr.mono (by omega)) (bd_NoRow D.NoRow) (by rfl) D.NoRow.gC (pa_cons (pv 1) pa_nil)) (pa_cons (pe_oex D.NoTable.ox D.NoTable.iC D.NoTable.tI (ok_NoTable (k := 0) D.NoTable D.no_NoTable) (hr.mono (by omega)) (bd_NoTable D.NoTable) (by rfl) D.NoTable.gC (pa_cons (pe_tup (pa_cons pe_str (pa_cons (pv 0) pa_nil))) pa_nil)) pa_nil)))))))))), ?_⟩
    have m1 : MkA _ (L2.start ["limit", "place", "found"] [V.int l, V.int pl]) [Er1 d.TooMany.C "limit" (RI l), Er2 d.SyntaxProblem.C "line" "column" (RI pl) (RI l), Er1 d.NoStep.C "place" (RI pl), Er1 d.NotLike.C "answer" (RT [.str "constant"]), ErN d.NoKind] :=
      mk_cons (mk_1 stI (arg_i (i := 0) rfl hl)) (st1 stI) (mk_cons (mk_2 stI stI (arg_ii (i := 1) (j := 0) rfl rfl hp hl)) (st2 stI stI) (mk_cons (mk_1 stI (arg_i (i := 1) rfl hp)) (st1 stI) (mk_cons (mk_1 stT arg_t1) (st1 stT) (mk_cons (mk_n (m := "x")) stN mk_nil))))
    unfold tSeq tAsg tOp tLst tRet
    refine m1 H _ fun as1 H1 s1 a1 => ?_
    have l1 : as1.length = 5 := a1.length
    refine ⟨by rw [List.length_map, l1]; decide, fun p1 n1 => ?_⟩
    refine ⟨_, rfl, ?_⟩
    have m2 : ∀ σ : L2.St, MkA _ σ [ErN d.NoLayout, ErN d.NoTree, ErN d.NoRecord, ErN d.NoName, ErN d.NoNumber, ErN d.NoEra, ErN d.NoMark] := fun σ => mk_cons (mk_n (m := "x")) stN (mk_cons (mk_n (m := "x")) stN (mk_cons (mk_n (m := "x")) stN (mk_cons (mk_n (m := "x")) stN (mk_cons (mk_n (m := "x")) stN (mk_cons (mk_n (m := "x")) stN (mk_cons (mk_n (m := "x")) stN mk_nil))))))
    refine m2 _ _ _ fun as2 H2 s2 a2 => ?_
    have l2 : as2.length = 7 := a2.length
    refine ⟨by rw [List.length_map, l2]; decide, fun p2 n2 => ?_⟩
    refine ⟨p1, p2, as1.map V.ref, as2.map V.ref, rfl, rfl, (same_upd n2) _ _ (s2 _ _ upd_same), upd_same, by rw [List.length_map, List.length_map, l1, l2]; decide, fun p3 n3 => ?_⟩
    refine ⟨_, rfl, ?_⟩
    have m3 : ∀ v : V, MkA _ [some (V.int l), some (V.int pl), some v] [ErN d.Mismatch, ErN d.InvalidCommand, Er1 d.NoRow.C "place" (RI pl), Er1 d.NoTable.C "fault" (RT [.str "none", .int l])] := fun v => mk_cons (mk_n (m := "x")) stN (mk_cons (mk_n (m := "x")) stN (mk_cons (mk_1 stI (arg_i (i := 1) rfl hp)) (st1 stI) (mk_cons (mk_1 stT (arg_t2 (i := 0) rfl)) (st1 stT) mk_nil)))
    refine m3 _ _ _ fun as3 H3 s3 a3 => ?_
    have l3 : as3.length = 4 := a3.length
    refine ⟨by rw [List.length_map, l3]; decide, fun p4 n4 => ?_⟩
    refine ⟨p3, p4, as1.map V.ref ++ as2.map V.ref, as3.map V.ref, rfl, rfl, (same_upd n4) _ _ (s3 _ _ upd_same), upd_same, by rw [List.length_append, List.length_map, List.length_map, List.length_map, l1, l2, l3]; decide, fun p5 n5 => ?_⟩
    rw [← List.map_append, ← List.map_append]
    have S1 : Same H1 (upd _ p5 (.lst ((as1 ++ as2 ++ as3).map V.ref))) := (((((same_upd n1).trans s2).trans (same_upd n2)).trans (same_upd n3)).trans s3).trans ((same_upd n4).trans (same_upd n5))
    have S2 : Same H2 (upd _ p5 (.lst ((as1 ++ as2 ++ as3).map V.ref))) := (((same_upd n2).trans (same_upd n3)).trans s3).trans ((same_upd n4).trans (same_upd n5))
    have S3 : Same H3 (upd _ p5 (.lst ((as1 ++ as2 ++ as3).map V.ref))) := (same_upd n4).trans (same_upd n5)
    refine q p5 (as1 ++ as2 ++ as3) _ (s1.trans S1) ?_ upd_same (((a1.same (fun Φ h => ?_) S1).append (a2.same (fun Φ h => ?_) S2)).append (a3.same (fun Φ h => ?_) S3))
    · exact same_free n5 (((((s1.trans ((same_upd n1).trans s2)).trans (same_upd n2)).trans (same_upd n3)).trans s3).trans (same_upd n4))
    · simp only [List.mem_cons, List.not_mem_nil, or_false] at h
      rcases h with rfl | rfl | rfl | rfl | rfl
      · exact st1 stI
      · exact st2 stI stI
      · exact st1 stI
      · exact st1 stT
      · exact stN
    · simp only [List.mem_cons, List.not_mem_nil, or_false] at h
      rcases h with rfl | rfl | rfl | rfl | rfl | rfl | rfl <;> exact stN
    · simp only [List.mem_cons, List.not_mem_nil, or_false] at h
      rcases h with rfl | rfl | rfl | rfl
      · exact stN
      · exact stN
      · exact st1 stI
      · exact st1 stT
end
end My

namespace My
open PySem PySem.Spec PyProof.Rows L2
/-! ### isinstance of one error by all sixteen -/
def isL (K : PySem.W.Frag) : List Addr → TA
  | [] => tNil
  | C :: r => tCons (tCB (rIsX K) (tCons (tVar 0) (tCons (tC (.ref C)) tNil))) (isL K r)
def blsAt (i n m : Nat) : List V := (List.range' n m).map fun j => V.bl (decide (j = i))
theorem is_many {P : Program} {K : PySem.W.Frag} {mg : Str → Option Value} {d : XD} (D : XF P K mg d) {σ : L2.St} {H : Hp} {a C : Addr} {i : Nat} (h0 : σ[0]? = some (some (.ref a))) (hC : d.cls[i]? = some C) (he : ErrAt H a C) :
    ∀ (Ds : List Addr) (n : Nat), (∀ j E, Ds[j]? = some E → d.cls[n + j]? = some E) → ∀ Q : List V → Hp → Prop, Q (blsAt i n Ds.length) H → isL K Ds σ H Q
  | [], _, _, _, q => q
  | E :: r, n, hD, Q, q => by
    refine ⟨_, h0, a, C, .ref E, .ref E, decide (n = i), rfl, he, D.exc C (List.mem_of_getElem? hC), .own E, D.kit i n C E hC (hD 0 E rfl), ?_⟩
    refine is_many D h0 hC he r (n + 1) (fun j F e => ?_) _ ?_
    · rw [Nat.add_assoc, Nat.add_comm 1 j]
      exact hD (j + 1) F e
    · have e : blsAt i n (E :: r).length = V.bl (decide (n = i)) :: blsAt i (n + 1) r.length := by
        unfold blsAt
        rw [List.length_cons, List.range'_succ, List.map_cons]
      rw [← e]
      exact q
def spClasses (d : XD) : Sp := fun vs H Q _ => ∃ (a C : Addr) (i : Nat), vs = [.ref a] ∧ d.cls[i]? = some C ∧ ErrAt H a C ∧ ∀ p H', Same H H' → H p = none → H' p = some (.lst (blsAt i 0 16)) → Q (.ref p) H'
theorem ErrAt.same {H H' : Hp} {a C : Addr} (h : ErrAt H a C) (s : Same H H') : ErrAt H' a C := h.elim (fun e => .inl (s _ _ e)) fun ⟨d, fs, e1, e2⟩ => .inr ⟨d, fs, s _ _ e1, s _ _ e2⟩
theorem bls_app (i a b c : Nat) : blsAt i a b ++ blsAt i (a + b) c = blsAt i a (b + c) := by
  unfold blsAt
  rw [← List.map_append, List.range'_append_1]
theorem bls_len (i a b : Nat) : (blsAt i a b).length = b := by
  unfold blsAt
  rw [List.length_map, List.length_range']
theorem sub_at {l pre Ds post : List Addr} (e : l = pre ++ (Ds ++ post)) (j : Nat) (E : Addr) (h : Ds[j]? = some E) : l[pre.length + j]? = some E := by
  have hj : j < Ds.length := (List.getElem?_eq_some_iff.mp h).1
  rw [e, List.getElem?_append_right (by omega), show pre.length + j - pre.length = j by omega, List.getElem?_append_left hj]
  exact h
structure TxtI (mg : Str → Option Value) : Prop where
  n_isinstance : mg "isinstance" = none
  n_len : mg "len" = none
  n_repr : mg "repr" = none
  n_enumerate : mg "enumerate" = none
  n_range : mg "range" = none
  n_ValueError : mg "ValueError" = none
  n_int : mg "int" = none
  n_bool : mg "bool" = none
abbrev s_law_classes : Stmt := topS 30
theorem sc_law_classes : FnScope ["error", "found"] ["error"] (defScope s_law_classes) := ⟨rfl, rfl, rfl, by decide +kernel, rfl, by decide +kernel, by decide +kernel⟩
section
variable {P : Program} {w : World} {K : PySem.W.Frag} {mg : Str → Option Value} {base : Heap}
theorem ok_classes {f : Addr} {fd : FuncData} {k : Nat} {d : XD} (F : Fun K "_law_classes" "_law_classes" s_law_classes f fd) (D : XF P K mg d) (T : TxtI mg) : FnOk P w K mg base CX0 (k + 1) f fd ["error"] (spClasses d) := by
  refine F.ok sc_law_classes (fun vs H Q E h => ?_) (fun cdv A outer s H vs Q E hr h => ?_)
  · obtain ⟨a, C, i, rfl, _⟩ := h
    rfl
  · obtain ⟨a, C, i, rfl, hC, he, q⟩ := h
    refine ⟨_, (pss_cons (ps_set (i := 1) sc_law_classes.nd rfl (.inl rfl) (pe_lst (pa_cons (pe_callB call_isX (by rfl) T.n_isinstance (by decide +kernel) (pa_cons (pv 0) (pa_cons (pe_glob (v := .ref d.TooMany.C) (by rfl) D.TooMany.gC rfl) pa_nil))) (pa_cons (pe_callB call_isX (by rfl) T.n_isinstance (by decide +kernel) (pa_cons (pv 0) (pa_cons (pe_glob (v := .ref d.SyntaxProblem.C) (by rfl) D.SyntaxProblem.gC rfl) pa_nil))) (pa_cons (pe_callB call_isX (by rfl) T.n_isinstance (by decide +kernel) (pa_cons (pv 0) (pa_cons (pe_glob (v := .ref d.NoStep.C) (by rfl) D.NoStep.gC rfl) pa_nil))) pa_nil)))))
  (pss_cons (ps_set (i := 1) sc_law_classes.nd rfl (.inl rfl) (pe_op op_cat (pv 1) (pe_lst (pa_cons (pe_callB call_isX (by rfl) T.n_isinstance (by decide +kernel) (pa_cons (pv 0) (pa_cons (pe_glob (v := .ref d.NotLike.C) (by rfl) D.NotLike.gC rfl) pa_nil))) (pa_cons (pe_callB call_isX (by rfl) T.n_isinstance (by decide +kernel) (pa_cons (pv 0) (pa_cons (pe_glob (v := .ref d.NoKind) (by rfl) D.NoKind.gC rfl) pa_nil))) (pa_cons (pe_callB call_isX (by rfl) T.n_isinstance (by decide +kernel) (pa_cons (pv 0) (pa_cons (pe_glob (v := .ref d.NoLayout) (by rfl) D.NoLayout.gC rfl) pa_nil))) pa_nil))))))
  (pss_cons (ps_set (i := 1) sc_law_classes.nd rfl (.inl rfl) (pe_op op_cat (pv 1) (pe_lst (pa_cons (pe_callB call_isX (by rfl) T.n_isinstance (by decide +kernel) (pa_cons (pv 0) (pa_cons (pe_glob (v := .ref d.NoTree) (by rfl) D.NoTree.gC rfl) pa_nil))) (pa_cons (pe_callB call_isX (by rfl) T.n_isinstance (by decide +kernel) (pa_cons (pv 0) (pa_cons (pe_glob (v := .ref d.NoRecord) (by rfl) D.NoRecord.gC rfl) pa_nil))) (pa_cons (pe_callB call_isX (by rfl) T.n_isinstance (by decide +kernel) (pa_cons (pv 0) (pa_cons (pe_glob (v := .ref d.NoName) (by rfl) D.NoName.gC rfl) pa_nil))) pa_nil))))))
  (pss_cons (ps_set (i := 1) sc_law_classes.nd rfl (.inl rfl) (pe_op op_cat (pv 1) (pe_lst (pa_cons (pe_callB call_isX (by rfl) T.n_isinstance (by decide +kernel) (pa_cons (pv 0) (pa_cons (pe_glob (v := .ref d.NoNumber) (by rfl) D.NoNumber.gC rfl) pa_nil))) (pa_cons (pe_callB call_isX (by rfl) T.n_isinstance (by decide +kernel) (pa_cons (pv 0) (pa_cons (pe_glob (v := .ref d.NoEra) (by rfl) D.NoEra.gC rfl) pa_nil))) (pa_cons (pe_callB call_isX (by rfl) T.n_isinstance (by decide +kernel) (pa_cons (pv 0) (pa_cons (pe_glob (v := .ref d.NoMark) (by rfl) D.NoMark.gC rfl) pa_nil))) pa_nil))))))
  (pss_cons (ps_set (i := 1) sc_law_classes.nd rfl (.inl rfl) (pe_op op_cat (pv 1) (pe_lst (pa_cons (pe_callB call_isX (by rfl) T.n_isinstance (by decide +kernel) (pa_cons (pv 0) (pa_cons (pe_glob (v := .ref d.Mismatch) (by rfl) D.Mismatch.gC rfl) pa_nil))) (pa_cons (pe_callB call_isX (by rfl) T.n_isinstance (by decide +kernel) (pa_cons (pv 0) (pa_cons (pe_glob (v := .ref d.InvalidCommand) (by rfl) D.InvalidCommand.gC rfl) pa_nil))) pa_nil)))))
  (pss_one (ps_ret (pe_op op_cat (pv 1) (pe_lst (pa_cons (pe_callB call_isX (by rfl) T.n_isinstance (by decide +kernel) (pa_cons (pv 0) (pa_cons (pe_glob (v := .ref d.NoRow.C) (by rfl) D.NoRow.gC rfl) pa_nil))) (pa_cons (pe_callB call_isX (by rfl) T.n_isinstance (by decide +kernel) (pa_cons (pv 0) (pa_cons (pe_glob (v := .ref d.NoTable.C) (by rfl) D.NoTable.gC rfl) pa_nil))) pa_nil))))))))))), ?_⟩
    unfold tSeq tAsg tOp tLst tRet
    have mI := fun (σ : L2.St) (H' : Hp) (s : Same H H') (h0 : σ[0]? = some (some (V.ref a))) => is_many D (H := H') h0 hC (he.same s)
    refine mI _ _ (same_refl H) ?_ [d.TooMany.C, d.SyntaxProblem.C, d.NoStep.C] 0 (fun j E h => sub_at (l := d.cls) (pre := d.cls.take 0) (Ds := [d.TooMany.C, d.SyntaxProblem.C, d.NoStep.C]) (post := d.cls.drop 3) rfl j E h) _ ?_
    · rfl
    refine ⟨by rw [bls_len]; show 3 ≤ sizeLine; decide, fun p0 n0 => ⟨_, rfl, ?_⟩⟩
    refine mI _ _ (same_upd n0) ?_ [d.NotLike.C, d.NoKind, d.NoLayout] 3 (fun j E h => sub_at (l := d.cls) (pre := d.cls.take 3) (Ds := [d.NotLike.C, d.NoKind, d.NoLayout]) (post := d.cls.drop 6) rfl j E h) _ ?_
    · rfl
    refine ⟨by rw [bls_len]; show 3 ≤ sizeLine; decide, fun q1 m1 => ?_⟩
    refine ⟨p0, q1, blsAt i 0 3, blsAt i (0 + 3) 3, rfl, rfl, (same_upd m1) _ _ upd_same, upd_same, by rw [bls_len, bls_len]; decide, fun p1 n1 => ?_⟩
    rw [bls_app]
    refine ⟨_, rfl, ?_⟩
    refine mI _ _ (((same_upd n0).trans (same_upd m1)).trans (same_upd n1)) ?_ [d.NoTree, d.NoRecord, d.NoName] 6 (fun j E h => sub_at (l := d.cls) (pre := d.cls.take 6) (Ds := [d.NoTree, d.NoRecord, d.NoName]) (post := d.cls.drop 9) rfl j E h) _ ?_
    · rfl
    refine ⟨by rw [bls_len]; show 3 ≤ sizeLine; decide, fun q2 m2 => ?_⟩
    refine ⟨p1, q2, blsAt i 0 6, blsAt i (0 + 6) 3, rfl, rfl, (same_upd m2) _ _ upd_same, upd_same, by rw [bls_len, bls_len]; decide, fun p2 n2 => ?_⟩
    rw [bls_app]
    refine ⟨_, rfl, ?_⟩
    refine mI _ _ (((((same_upd n0).trans (same_upd m1)).trans (same_upd n1)).trans (same_upd m2)).trans (same_upd n2)) ?_ [d.NoNumber, d.NoEra, d.NoMark] 9 (fun j E h => sub_at (l := d.cls) (pre := d.cls.take 9) (Ds := [d.NoNumber, d.NoEra, d.NoMark]) (post := d.cls.drop 12) rfl j E h) _ ?_
    · rfl
    refine ⟨by rw [bls_len]; show 3 ≤ sizeLine; decide, fun q3 m3 => ?_⟩
    refine ⟨p2, q3, blsAt i 0 9, blsAt i (0 + 9) 3, rfl, rfl, (same_upd m3) _ _ upd_same, upd_same, by rw [bls_len, bls_len]; decide, fun p3 n3 => ?_⟩
    rw [bls_app]
    refine ⟨_, rfl, ?_⟩
    refine mI _ _ (((((((same_upd n0).trans (same_upd m1)).trans (same_upd n1)).trans (same_upd m2)).trans (same_upd n2)).trans (same_upd m3)).trans (same_upd n3)) ?_ [d.Mismatch, d.InvalidCommand] 12 (fun j E h => sub_at (l := d.cls) (pre := d.cls.take 12) (Ds := [d.Mismatch, d.InvalidCommand]) (post := d.cls.drop 14) rfl j E h) _ ?_
    · rfl
    refine ⟨by rw [bls_len]; show 2 ≤ sizeLine; decide, fun q4 m4 => ?_⟩
    refine ⟨p3, q4, blsAt i 0 12, blsAt i (0 + 12) 2, rfl, rfl, (same_upd m4) _ _ upd_same, upd_same, by rw [bls_len, bls_len]; decide, fun p4 n4 => ?_⟩
    rw [bls_app]
    refine ⟨_, rfl, ?_⟩
    refine mI _ _ (((((((((same_upd n0).trans (same_upd m1)).trans (same_upd n1)).trans (same_upd m2)).trans (same_upd n2)).trans (same_upd m3)).trans (same_upd n3)).trans (same_upd m4)).trans (same_upd n4)) ?_ [d.NoRow.C, d.NoTable.C] 14 (fun j E h => sub_at (l := d.cls) (pre := d.cls.take 14) (Ds := [d.NoRow.C, d.NoTable.C]) (post := d.cls.drop 16) rfl j E h) _ ?_
    · rfl
    refine ⟨by rw [bls_len]; show 2 ≤ sizeLine; decide, fun q5 m5 => ?_⟩
    refine ⟨p4, q5, blsAt i 0 14, blsAt i (0 + 14) 2, rfl, rfl, (same_upd m5) _ _ upd_same, upd_same, by rw [bls_len, bls_len]; decide, fun p5 n5 => ?_⟩
    rw [bls_app]
    exact q p5 _ (((((((((((same_upd n0).trans (same_upd m1)).trans (same_upd n1)).trans (same_upd m2)).trans (same_upd n2)).trans (same_upd m3)).trans (same_upd n3)).trans (same_upd m4)).trans (same_upd n4)).trans (same_upd m5)).trans (same_upd n5)) (same_free n5 (((((((((((same_upd n0).trans (same_upd m1)).trans (same_upd n1)).trans (same_upd m2)).trans (same_upd n2)).trans (same_upd m3)).trans (same_upd n3)).trans (same_upd m4)).trans (same_upd n4)).trans (same_upd m5)))) upd_same
end
end My

namespace My
open PySem PySem.Spec PyProof.Rows L2
/-! ### how long a repr is -/
theorem textFrom_le {m : Nat} : ∀ (ts : List Str) (k : Nat) (acc : Str), (∀ t ∈ ts, t.length ≤ m) → (textFrom k acc ts).length ≤ acc.length + ts.length * (m + 2)
  | [], k, acc, _ => by
    show acc.length ≤ acc.length + _
    omega
  | t :: r, k, acc, h => by
    have ih := textFrom_le (m := m) r (k + 1) (acc ++ (if k > 0 then ", " else "" : String) ++ t) fun x hx => h x (List.mem_cons_of_mem _ hx)
    have ht := h t List.mem_cons_self
    have e : (acc ++ (if k > 0 then ", " else "" : String) ++ t : Str).length ≤ acc.length + 2 + m := by
      rw [strLen_append, strLen_append]
      have z : ((if k > 0 then ", " else "" : String) : Str).length ≤ 2 := by
        split
        · exact Nat.le_refl 2
        · exact Nat.zero_le 2
      omega
    show (textFrom (k + 1) _ r).length ≤ _
    rw [List.length_cons, Nat.succ_mul]
    omega
theorem listText_le {m : Nat} {ts : List Str} (h : ∀ t ∈ ts, t.length ≤ m) : (listText ts).length ≤ 2 + ts.length * (m + 2) := by
  have z := textFrom_le ts 0 "[" h
  unfold listText
  rw [strLen_append]
  have e1 : ("[" : Str).length = 1 := rfl
  have e2 : ("]" : Str).length = 1 := rfl
  omega
theorem piled_le {m : Nat} : ∀ (ts : List Str), (∀ t ∈ ts, t.length ≤ m) → piled ts ≤ ts.length * (m + 2)
  | [], _ => by simp [piled]
  | t :: r, h => by
    have ih := piled_le r fun x hx => h x (List.mem_cons_of_mem _ hx)
    have ht := h t List.mem_cons_self
    rw [List.length_cons, Nat.succ_mul]
    unfold piled at *
    simp at *
    omega
theorem tupleText_le {m : Nat} {ts : List Str} (n : ts ≠ []) (h : ∀ t ∈ ts, t.length ≤ m) : (tupleText ts).length ≤ 3 + ts.length * (m + 2) := by
  have z := piled_le ts h
  have y := join_length_add ts n
  unfold tupleText
  rw [strLen_append, strLen_append]
  have e1 : ("(" : Str).length = 1 := rfl
  have e2 : ((if ts.length == 1 then ",)" else ")" : String) : Str).length ≤ 2 := by
    split
    · exact Nat.le_refl 2
    · exact Nat.le_succ 1
  omega
theorem rp_bl {K : PySem.W.Frag} {H : Hp} {b : Bool} {Q : VK} (q : Q (.str (PyData.bool b).shown) H) : rRepr K [.bl b] H Q := by
  refine ⟨.bl b, .bool b, rfl, .bl b, by simp only [PyData.showable], by simp only [PyData.canLay0], by simp [PyData.depth], ?_, q⟩
  cases b <;> exact Nat.le_of_lt (small1000 (by decide +kernel))
theorem shown_int {i : Int} (h : i.natAbs < 10 ^ 30) : (PyData.int i).shown.length ≤ 1921 := by
  simp only [PyData.shown]
  exact IntV.txt h
/-- [limit, place, limit, place, ("constant",)] -/
def dFields (l pl : Int) : PyData := .list [.int l, .int pl, .int l, .int pl, .tuple [.str "constant"]]
/-- [place, ("none", limit)] -/
def dLast (l pl : Int) : PyData := .list [.int pl, .tuple [.str "none", .int l]]
theorem fits_small {s : Str} {n : Nat} (h : s.length ≤ n) (hn : n ≤ 16000000) : s.length ≤ sizeLine := by
  rw [sizeLine_eq]
  omega
theorem rp_fields {K : PySem.W.Frag} {H : Hp} {l pl : Int} {x : V} {Q : VK} (hl : l.natAbs < 10 ^ 30) (hp : pl.natAbs < 10 ^ 30) (h : Dp K H x (dFields l pl)) (q : Q (.str (dFields l pl).shown) H) : rRepr K [x] H Q := by
  refine ⟨x, dFields l pl, rfl, h, ?_, ?_, ?_, ?_, q⟩
  · simp only [dFields, PyData.showable, PyData.showableAll, Bool.and_true, Bool.and_eq_true, decide_eq_true_eq]
    exact ⟨IntV.log hl, IntV.log hp, IntV.log hl, IntV.log hp⟩
  · simp only [dFields, PyData.canLay0, PyData.canLayAll0]
    decide +kernel
  · simp [dFields, PyData.depth, PyData.depthAll]
  · unfold dFields
    rw [PyData.shown]
    simp only [PyData.shownAll]
    have h1 := shown_int hl
    have h2 := shown_int hp
    have h3 : (PyData.tuple [.str "constant"]).shown.length ≤ 1921 := by decide +kernel
    refine fits_small (n := 2 + 5 * (1921 + 2)) (listText_le (m := 1921) fun t ht => ?_) (by decide)
    simp only [List.mem_cons, List.not_mem_nil, or_false] at ht
    rcases ht with rfl | rfl | rfl | rfl | rfl
    · exact h1
    · exact h2
    · exact h1
    · exact h2
    · exact h3
theorem rp_last {K : PySem.W.Frag} {H : Hp} {l pl : Int} {x : V} {Q : VK} (hl : l.natAbs < 10 ^ 30) (hp : pl.natAbs < 10 ^ 30) (h : Dp K H x (dLast l pl)) (q : Q (.str (dLast l pl).shown) H) : rRepr K [x] H Q := by
  refine ⟨x, dLast l pl, rfl, h, ?_, ?_, ?_, ?_, q⟩
  · simp only [dLast, PyData.showable, PyData.showableAll, Bool.and_true, Bool.and_eq_true, decide_eq_true_eq]
    exact ⟨IntV.log hp, trivial, IntV.log hl⟩
  · simp only [dLast, PyData.canLay0, PyData.canLayAll0]
    decide +kernel
  · simp [dLast, PyData.depth, PyData.depthAll]
  · unfold dLast
    rw [PyData.shown]
    simp only [PyData.shownAll]
    have h1 := shown_int hl
    have h2 := shown_int hp
    have h3 : (PyData.tuple [.str "none", .int l]).shown.length ≤ 3 + 2 * (1921 + 2) := by
      rw [PyData.shown]
      simp only [PyData.shownAll]
      refine tupleText_le (m := 1921) (fun z => nomatch z) fun t ht => ?_
      simp only [List.mem_cons, List.not_mem_nil, or_false] at ht
      rcases ht with rfl | rfl
      · decide +kernel
      · exact h1
    refine fits_small (n := 2 + 2 * (5000 + 2)) (listText_le (m := 5000) fun t ht => ?_) (by decide)
    simp only [List.mem_cons, List.not_mem_nil, or_false] at ht
    rcases ht with rfl | rfl
    · exact Nat.le_trans h2 (by decide)
    · exact Nat.le_trans h3 (by decide)
end My

namespace My
open PySem PySem.Spec PyProof.Rows L2
/-! ### the law -/
theorem A2.hd {H : Hp} {as : List Addr} {Φ : EP1} {r : List EP1} (h : A2 H as (Φ :: r)) : ∃ a t, as = a :: t ∧ Φ H a ∧ A2 H t r := by
  cases h with
  | cons x t => exact ⟨_, _, rfl, x, t⟩
theorem A2.none {H : Hp} {as : List Addr} (h : A2 H as []) : as = [] := by
  cases h
  rfl
theorem er1_at {H : Hp} {a C : Addr} {f : Str} {R : Hp → V → Prop} (h : Er1 C f R H a) : ErrAt H a C := by
  obtain ⟨v, _, d, e1, e2⟩ := h
  exact .inr ⟨d, _, e1, e2⟩
theorem er2_at {H : Hp} {a C : Addr} {f g : Str} {R S : Hp → V → Prop} (h : Er2 C f g R S H a) : ErrAt H a C := by
  obtain ⟨v, u, _, _, d, e1, e2⟩ := h
  exact .inr ⟨d, _, e1, e2⟩
theorem errs_cls {H : Hp} {as : List Addr} {d : XD} {l pl : Int} (h : A2 H as (Errs d l pl)) : A2 H as (d.cls.map fun C H a => ErrAt H a C) := by
  obtain ⟨_, _, rfl, h0, h⟩ := h.hd
  obtain ⟨_, _, rfl, h1, h⟩ := h.hd
  obtain ⟨_, _, rfl, h2, h⟩ := h.hd
  obtain ⟨_, _, rfl, h3, h⟩ := h.hd
  obtain ⟨_, _, rfl, h4, h⟩ := h.hd
  obtain ⟨_, _, rfl, h5, h⟩ := h.hd
  obtain ⟨_, _, rfl, h6, h⟩ := h.hd
  obtain ⟨_, _, rfl, h7, h⟩ := h.hd
  obtain ⟨_, _, rfl, h8, h⟩ := h.hd
  obtain ⟨_, _, rfl, h9, h⟩ := h.hd
  obtain ⟨_, _, rfl, h10, h⟩ := h.hd
  obtain ⟨_, _, rfl, h11, h⟩ := h.hd
  obtain ⟨_, _, rfl, h12, h⟩ := h.hd
  obtain ⟨_, _, rfl, h13, h⟩ := h.hd
  obtain ⟨_, _, rfl, h14, h⟩ := h.hd
  obtain ⟨_, _, rfl, h15, h⟩ := h.hd
  obtain rfl := h.none
  exact .cons (er1_at h0) (.cons (er2_at h1) (.cons (er1_at h2) (.cons (er1_at h3) (.cons (.inl h4) (.cons (.inl h5) (.cons (.inl h6) (.cons (.inl h7) (.cons (.inl h8) (.cons (.inl h9) (.cons (.inl h10) (.cons (.inl h11) (.cons (.inl h12) (.cons (.inl h13) (.cons (er1_at h14) (.cons (er1_at h15) .nil)))))))))))))))
theorem errs_at {H : Hp} {as : List Addr} {d : XD} {l pl : Int} (h : A2 H as (Errs d l pl)) {i : Nat} {a : Addr} (e : as[i]? = some a) : ∃ C, d.cls[i]? = some C ∧ ErrAt H a C := by
  obtain ⟨Φ, h1, h2⟩ := (errs_cls h).get e
  rw [List.getElem?_map] at h1
  cases hc : d.cls[i]? with
  | none =>
    rw [hc] at h1
    cases h1
  | some C =>
    rw [hc] at h1
    cases h1
    exact ⟨C, rfl, h2⟩
theorem errs_st {d : XD} {l pl : Int} : ∀ Φ ∈ Errs d l pl, StE Φ := by
  intro Φ h
  unfold Errs at h
  simp only [List.mem_cons, List.not_mem_nil, or_false] at h
  rcases h with rfl | rfl | rfl | rfl | rfl | rfl | rfl | rfl | rfl | rfl | rfl | rfl | rfl | rfl | rfl | rfl
  · exact st1 stI
  · exact st2 stI stI
  · exact st1 stI
  · exact st1 stT
  all_goals first | exact stN | exact st1 stI | exact st1 stT
/-- one of the last things -/
def Thg (K : PySem.W.Frag) (H : Hp) (x : V) : Prop := ∃ T a b, TyX K H x (.type T) ∧ kitB T "int" = some a ∧ kitB T "bool" = some b ∧ (kitB T "str" = some false ∨ ∃ z : Str, x = .str z ∧ z.length ≤ 1000 ∧ isNm z = false)
theorem ty_same {K : PySem.W.Frag} {H H' : Hp} {x : V} {T : Value} (s : Same H H') (h : TyX K H x T) : TyX K H' x T := by
  cases h with
  | base b =>
    cases b with
    | non => exact .base .non
    | bl y => exact .base (.bl y)
    | int i => exact .base (.int i)
    | str y => exact .base (.str y)
    | flt y => exact .base (.flt y)
    | lst e => exact .base (.lst (s _ _ e))
    | frz e => exact .base (.frz (s _ _ e))
    | tup e => exact .base (.tup (s _ _ e))
    | dK e => exact .base (.dK (s _ _ e))
    | dT e => exact .base (.dT (s _ _ e))
    | ins e cl ha hn ht => exact .base (.ins (s _ _ e) cl ha hn ht (by assumption))
  | byt b => exact .byt b
  | set e => exact .set (s _ _ e)
  | kList e c => exact .kList e c
  | kTuple e c => exact .kTuple e c
  | kDict e c => exact .kDict e c
  | fTuple e => exact .fTuple (s _ _ e)
  | fDict e => exact .fDict (s _ _ e)
theorem Thg.same {K : PySem.W.Frag} {H H' : Hp} {x : V} (h : Thg K H x) (s : Same H H') : Thg K H' x := by
  obtain ⟨T, a, b, ty, r⟩ := h
  exact ⟨T, a, b, ty_same s ty, r⟩
theorem isname_no {K : PySem.W.Frag} {H : Hp} {x : V} {Q : VK} {E : XK} (h : Thg K H x) (q : ∀ H', Same H H' → Q (.bl false) H') : spIsName K [x] H Q E := by
  obtain ⟨T, a, b, ty, ha, hb, hs⟩ := h
  rcases hs with hs | ⟨z, rfl, hz, hn⟩
  · exact ⟨x, rfl, .inr ⟨T, ty, hs, q H (same_refl H)⟩⟩
  · exact ⟨_, rfl, .inl ⟨z, rfl, hz, fun H' s => by
      rw [hn]
      exact q H' s⟩⟩
theorem isname_str {K : PySem.W.Frag} {H : Hp} {z : Str} {Q : VK} {E : XK} (hz : z.length ≤ 1000) (q : ∀ H', Same H H' → Q (.bl (isNm z)) H') : spIsName K [.str z] H Q E := ⟨_, rfl, .inl ⟨z, rfl, hz, q⟩⟩
theorem thg_of {K : PySem.W.Frag} {H : Hp} {x : V} {T : String} {a b : Bool} (ty : TyX K H x (.type T)) (ha : kitB T "int" = some a) (hb : kitB T "bool" = some b) (hs : kitB T "str" = some false) : Thg K H x := ⟨T, a, b, ty, ha, hb, .inl hs⟩
theorem thg_str {K : PySem.W.Frag} {H : Hp} {z : Str} (hz : z.length ≤ 1000) (hn : isNm z = false) : Thg K H (.str z) := ⟨"str", false, false, .base (.str z), by decide +kernel, by decide +kernel, .inr ⟨z, rfl, hz, hn⟩⟩
theorem thg_int {K : PySem.W.Frag} {H : Hp} {i : Int} : Thg K H (.int i) := thg_of (a := true) (b := false) (.base (.int i)) (by decide +kernel) (by decide +kernel) (by decide +kernel)
theorem thg_bl {K : PySem.W.Frag} {H : Hp} {i : Bool} : Thg K H (.bl i) := thg_of (a := true) (b := true) (.base (.bl i)) (by decide +kernel) (by decide +kernel) (by decide +kernel)
theorem thg_non {K : PySem.W.Frag} {H : Hp} : Thg K H .non := thg_of (a := false) (b := false) (.base .non) (by decide +kernel) (by decide +kernel) (by decide +kernel)
theorem thg_lst {K : PySem.W.Frag} {H : Hp} {a : Addr} {xs : List V} (e : H a = some (.lst xs)) : Thg K H (.ref a) := thg_of (a := false) (b := false) (.base (.lst e)) (by decide +kernel) (by decide +kernel) (by decide +kernel)
theorem thg_tup {K : PySem.W.Frag} {H : Hp} {a : Addr} {xs : List V} (e : H a = some (.tup xs)) : Thg K H (.ref a) := thg_of (a := false) (b := false) (.base (.tup e)) (by decide +kernel) (by decide +kernel) (by decide +kernel)
theorem thg_dict {K : PySem.W.Frag} {H : Hp} {a : Addr} {kvs : List (Key × V)} (e : H a = some (.dK kvs)) : Thg K H (.ref a) := thg_of (a := false) (b := false) (.base (.dK e)) (by decide +kernel) (by decide +kernel) (by decide +kernel)
/-- the row of truth values as data -/
def dB (i n m : Nat) : List PyData := (List.range' n m).map fun j => PyData.bool (decide (j = i))
theorem dp_bls {K : PySem.W.Frag} {H : Hp} (i : Nat) : ∀ m n, DpAll K H (blsAt i n m) (dB i n m)
  | 0, _ => .nil
  | m + 1, n => by
    unfold blsAt dB
    rw [List.range'_succ, List.map_cons, List.map_cons]
    exact .cons (.bl _) (dp_bls i m (n + 1))
theorem lay_bls (i : Nat) : ∀ m n, PyData.canLayAll0 (dB i n m) = true
  | 0, _ => by simp [dB, PyData.canLayAll0]
  | m + 1, n => by
    have h := lay_bls i m (n + 1)
    unfold dB at h ⊢
    rw [List.range'_succ, List.map_cons]
    simp only [PyData.canLayAll0, PyData.canLay0, h, Bool.true_and, Bool.and_self]
theorem dep_bls (i : Nat) : ∀ m n, PyData.depthAll (dB i n m) ≤ 1
  | 0, _ => by simp [dB, PyData.depthAll]
  | m + 1, n => by
    have h := dep_bls i m (n + 1)
    unfold dB at h ⊢
    rw [List.range'_succ, List.map_cons]
    simp only [PyData.depthAll, PyData.depth]
    omega
theorem lay_bl (i n m : Nat) : (PyData.list (dB i n m)).canLay0 = true := by
  simp only [PyData.canLay0]
  exact lay_bls i m n
theorem sh_bls (i n m : Nat) : SeqAt.shaped (.list (dB i n m)) = true := by
  have h := dep_bls i m n
  exact sh_of (lay_bl i n m) (by simp only [PyData.depth]; omega)
theorem bls_next (i j : Nat) : blsAt i 0 j ++ [V.bl (decide (V.int ((0 : Int) + (j : Nat)) = V.int (i : Nat)))] = blsAt i 0 (j + 1) := by
  have e : decide (V.int ((0 : Int) + (j : Nat)) = V.int (i : Nat)) = decide (j = i) := by
    refine decide_eq_decide.mpr ⟨fun h => ?_, fun h => ?_⟩
    · have z : (0 : Int) + (j : Nat) = (i : Nat) := by cases h; rfl
      omega
    · rw [h, Int.zero_add]
  rw [e]
  unfold blsAt
  rw [List.range'_concat, List.map_append, Nat.zero_add, Nat.one_mul]
  rfl
theorem ne_self (x : V) : V.bl (!decide (x = x)) = V.bl false := by simp
theorem look1 (f : Str) (v : V) : [(f, v)].lookup f = some v := by simp [List.lookup]
theorem look2 {f g : Str} (v u : V) (h : (f == g) = false) : [(g, u), (f, v)].lookup f = some v := by simp [List.lookup, h]
theorem look2' (f g : Str) (v u : V) : [(g, u), (f, v)].lookup g = some u := by simp [List.lookup]
def spLaw (K : PySem.W.Frag) : Sp := fun vs H Q _ => ∃ (a : Addr) (ns : List Int), vs = [.ref a] ∧ SqL K H a (ns.map V.int) ∧ ns.length ≤ 63 ∧ ∀ H', Q (.bl true) H'
abbrev s_law : Stmt := topS 33
theorem sc_law : FnScope ["script", "pot", "limit", "place", "errors", "at", "error", "fields", "word", "things", "thing", "spot"] ["script"] (defScope s_law) := ⟨rfl, rfl, rfl, by decide +kernel, rfl, by decide +kernel, by decide +kernel⟩
section
variable {P : Program} {w : World} {K : PySem.W.Frag} {mg : Str → Option Value} {base : Heap}
theorem go_nox {k : Nat} {f : Addr} {fd : FuncData} {ps N : List Str} {sp : Sp} {x qual : Str} {st : Stmt} (F : Fun K x qual st f fd) (S : FnScope N ps (defScope st)) (many : ∀ vs H Q E, sp vs H Q E → vs.length = ps.length)
    (hb : ∀ (cdv : Value) (A : Around) (outer : List Env) (s : Shared) (H : Hp) (vs : List V) (Q : VK) (E : XK), Room k (A.deeper (envOfC qual (defScope st) s.heap.objs.size f cdv)) → (A.deeper (envOfC qual (defScope st) s.heap.objs.size f cdv)).guards = some [] →
      sp vs H Q E → ∃ t, PSs (cxOf CX0 P w K mg base N qual (defScope st) f cdv A outer s H E).nox (defBody st) t ∧ t { nx := fun _ H' => Q .non H', rt := Q } (L2.start N vs) H) : FnG P w K mg base CX0 (k + 1) f fd ps sp :=
  go_of F S many fun cdv A outer s H vs Q E hr quiet h => by
    obtain ⟨t, ht, q⟩ := hb cdv A outer s H vs Q E hr quiet h
    exact ⟨t, ht.nox, q⟩
structure Def (P : Program) (w : World) (K : PySem.W.Frag) (mg : Str → Option Value) (base : Heap) (x : Str) (st : Stmt) (ps : List Str) (k : Nat) (sp : Sp) (f : Addr) (fd : FuncData) : Prop where
  F : Fun K x x st f fd
  b : Binds K fd ps []
  g : mg x = some (.ref f)
  G : FnOk P w K mg base CX0 k f fd ps sp
theorem go_law {f f1 f2 f3 f4 f5 f6 f7 f8 : Addr} {fd fd1 fd2 fd3 fd4 fd5 fd6 fd7 fd8 : FuncData} {d : XD} (F : Fun K "law" "law" s_law f fd) (D : XF P K mg d) (T : TxtI mg)
    (D1 : Def P w K mg base "_law_pot_of" s_law_pot_of ["script"] 1 (spPotOf K) f1 fd1) (D2 : Def P w K mg base "_law_below" s_law_below ["pot", "bound"] 2 spBelow f2 fd2) (D3 : Def P w K mg base "_law_made" s_law_made ["limit", "place"] 3 (spMade d) f3 fd3)
    (D4 : Def P w K mg base "_law_classes" s_law_classes ["error"] 1 (spClasses d) f4 fd4) (D5 : Def P w K mg base "_law_words" s_law_words ["pot"] 4 spWords f5 fd5) (D6 : Def P w K mg base "is_name" s_is_name ["thing"] 1 (spIsName K) f6 fd6)
    (D7 : Def P w K mg base "_law_is_named" s_law_is_named ["word"] 1 spIsNamed f7 fd7) (D8 : Def P w K mg base "is_integer" s_is_integer ["thing"] 1 (spIsInt K) f8 fd8) : FnG P w K mg base CX0 5 f fd ["script"] (spLaw K) := by
  have ⟨F__law_pot_of, b__law_pot_of, g__law_pot_of, G__law_pot_of⟩ := D1
  have ⟨F__law_below, b__law_below, g__law_below, G__law_below⟩ := D2
  have ⟨F__law_made, b__law_made, g__law_made, G__law_made⟩ := D3
  have ⟨F__law_classes, b__law_classes, g__law_classes, G__law_classes⟩ := D4
  have ⟨F__law_words, b__law_words, g__law_words, G__law_words⟩ := D5
  have ⟨F_is_name, b_is_name, g_is_name, G_is_name⟩ := D6
  have ⟨F__law_is_named, b__law_is_named, g__law_is_named, G__law_is_named⟩ := D7
  have ⟨F_is_integer, b_is_integer, g_is_integer, G_is_integer⟩ := D8
  refine go_nox (k := 4) F sc_law (fun vs H Q E h => ?_) (fun cdv A outer s H vs Q E hr quiet h => ?_)
  · obtain ⟨a, ns, rfl, _⟩ := h
    rfl
  · obtain ⟨a, ns, rfl, hS, hl, q⟩ := h
    refine ⟨_, (pss_cons (ps_set (i := 1) sc_law.nd rfl (.inl rfl) (pe_call G__law_pot_of (hr.mono (by omega)) (by rfl) g__law_pot_of F__law_pot_of.kp b__law_pot_of .nil pass0 (pa_cons (pv 0) pa_nil)))
  (pss_cons (ps_par (i := 2) (j := 3) (by rfl) sc_law.nd rfl rfl (by decide) rfl rfl (pa_cons (pe_call G__law_below (hr.mono (by omega)) (by rfl) g__law_below F__law_below.kp b__law_below .nil pass0 (pa_cons (pv 1) (pa_cons (pe_op op_pow pe_int pe_int) pa_nil))) (pa_cons (pe_op op_sub (pe_call G__law_below (hr.mono (by omega)) (by rfl) g__law_below F__law_below.kp b__law_below .nil pass0 (pa_cons (pv 1) (pa_cons (pe_op op_pow pe_int pe_int) pa_nil))) pe_int) pa_nil)) (by rfl))
  (pss_cons (ps_set (i := 4) sc_law.nd rfl (.inl rfl) (pe_call G__law_made (hr.mono (by omega)) (by rfl) g__law_made F__law_made.kp b__law_made .nil pass0 (pa_cons (pv 2) (pa_cons (pv 3) pa_nil))))
  (pss_cons (ps_for PassesOwn.never rfl (pi_enum (by rfl) T.n_enumerate (pa_cons (pv 4) pa_nil)) (pg_tup rfl (pgs_cons (pg_name (i := 5) sc_law.nd rfl (.inr rfl)) (pgs_cons (pg_name (i := 6) sc_law.nd rfl (.inl rfl)) pgs_nil)))
   (pss_cons (ps_if (pt_cmpR (op_neD hr.units) (pe_call G__law_classes (hr.mono (by omega)) (by rfl) g__law_classes F__law_classes.kp b__law_classes .nil pass0 (pa_cons (pv 6) pa_nil)) (pe_lc (own := [("spot", 11)]) (g := gName 11) rfl sc_law.nd (pi_range1 (by rfl) T.n_range (pa_cons (pe_callB call_len_seq (by rfl) T.n_len (by decide +kernel) (pa_cons (pv 4) pa_nil)) pa_nil)) (blkOk_by (own := [("spot", 11)]) (N := ["script", "pot", "limit", "place", "errors", "at", "error", "fields", "word", "things", "thing", "spot"]) (sc := defScope s_law) (by decide +kernel)) (fun _ _ _ _ _ => (pg_name (i := 11) sc_law.nd rfl (.inl rfl))) (fun _ _ _ _ _ => pts_nil) (fun _ _ _ _ _ => (pe_cmpR op_eq (pv 11) (pv 5) (nomark _)))) (nomark _))
   (pss_one (ps_ret pe_bl))
   pss_nil)
  (pss_one (ps_if (PW.pt (pw_or (pt_not (pt_val (pe_callB call_isX (by rfl) T.n_isinstance (by decide +kernel) (pa_cons (pv 6) (pa_cons (pe_glob (v := .ref d.LE) (by rfl) D.gLE rfl) pa_nil))))) (pw_or1 (pt_not (pt_val (pe_callB call_isX (by rfl) T.n_isinstance (by decide +kernel) (pa_cons (pv 6) (pa_cons (pe_bltn (v := .ty "ValueError") (by rfl) T.n_ValueError (by decide +kernel) rfl) pa_nil))))))))
   (pss_one (ps_ret pe_bl))
   pss_nil))))
  (pss_cons (ps_set (i := 7) sc_law.nd rfl (.inl rfl) (pe_lst (pa_cons (pe_exf (pe_ix ix_list (pv 4) pe_int (fun _ _ => rfl))) (pa_cons (pe_exf (pe_ix ix_list (pv 4) pe_int (fun _ _ => rfl))) (pa_cons (pe_exf (pe_ix ix_list (pv 4) pe_int (fun _ _ => rfl))) (pa_cons (pe_exf (pe_ix ix_list (pv 4) pe_int (fun _ _ => rfl))) (pa_cons (pe_exf (pe_ix ix_list (pv 4) pe_int (fun _ _ => rfl))) pa_nil)))))))
  (pss_cons (ps_if (pt_cmpR op_ne (pe_callB (call_repr quiet hr.units) (by rfl) T.n_repr (by decide +kernel) (pa_cons (pv 7) pa_nil)) (pe_callB (call_repr quiet hr.units) (by rfl) T.n_repr (by decide +kernel) (pa_cons (pe_lst (pa_cons (pv 2) (pa_cons (pv 3) (pa_cons (pv 2) (pa_cons (pv 3) (pa_cons (pe_tup (pa_cons pe_str pa_nil)) pa_nil)))))) pa_nil)) (nomark _))
   (pss_one (ps_ret pe_bl))
   pss_nil)
  (pss_cons (ps_if (pt_cmpR op_ne (pe_callB (call_repr quiet hr.units) (by rfl) T.n_repr (by decide +kernel) (pa_cons (pe_lst (pa_cons (pe_exf (pe_ix ix_list (pv 4) pe_int (fun _ _ => rfl))) (pa_cons (pe_exf (pe_ix ix_list (pv 4) pe_int (fun _ _ => rfl))) pa_nil))) pa_nil)) (pe_callB (call_repr quiet hr.units) (by rfl) T.n_repr (by decide +kernel) (pa_cons (pe_lst (pa_cons (pv 3) (pa_cons (pe_tup (pa_cons pe_str (pa_cons (pv 2) pa_nil))) pa_nil))) pa_nil)) (nomark _))
   (pss_one (ps_ret pe_bl))
   pss_nil)
  (pss_cons (ps_for PassesOwn.never rfl (pi_list (pe_call G__law_words (hr.mono (by omega)) (by rfl) g__law_words F__law_words.kp b__law_words .nil pass0 (pa_cons (pv 1) pa_nil))) (pg_name (i := 8) sc_law.nd rfl (.inl rfl))
   (pss_one (ps_if (pt_cmpR op_ne (pe_callB (call_repr quiet hr.units) (by rfl) T.n_repr (by decide +kernel) (pa_cons (pe_call G_is_name (hr.mono (by omega)) (by rfl) g_is_name F_is_name.kp b_is_name .nil pass0 (pa_cons (pv 8) pa_nil)) pa_nil)) (pe_callB (call_repr quiet hr.units) (by rfl) T.n_repr (by decide +kernel) (pa_cons (pe_call G__law_is_named (hr.mono (by omega)) (by rfl) g__law_is_named F__law_is_named.kp b__law_is_named .nil pass0 (pa_cons (pv 8) pa_nil)) pa_nil)) (nomark _))
   (pss_one (ps_ret pe_bl))
   pss_nil)))
  (pss_cons (ps_set (i := 9) sc_law.nd rfl (.inl rfl) (pe_lst (pa_cons pe_int (pa_cons (pe_op op_sub pe_int pe_int) (pa_cons (pe_op op_pow pe_int pe_int) (pa_cons pe_bl (pa_cons pe_bl (pa_cons pe_non (pa_cons pe_str (pa_cons pe_str (pa_cons (pe_lst pa_nil) (pa_cons pe_dnewK (pa_cons (pe_tup pa_nil) (pa_cons (pe_tup (pa_cons pe_int pa_nil)) (pa_cons (pe_lst (pa_cons pe_str pa_nil)) (pa_cons (pe_tup (pa_cons pe_str pa_nil)) (pa_cons (pv 2) pa_nil)))))))))))))))))
  (pss_cons (ps_for PassesOwn.never rfl (pi_list (pv 9)) (pg_name (i := 10) sc_law.nd rfl (.inl rfl))
   (pss_cons (ps_if (pt_cmpR op_isnot_bl (pe_call G_is_name (hr.mono (by omega)) (by rfl) g_is_name F_is_name.kp b_is_name .nil pass0 (pa_cons (pv 10) pa_nil)) pe_bl (nomark _))
   (pss_one (ps_ret pe_bl))
   pss_nil)
  (pss_one (ps_if (pt_cmpR op_ne (pe_callB (call_repr quiet hr.units) (by rfl) T.n_repr (by decide +kernel) (pa_cons (pe_call G_is_integer (hr.mono (by omega)) (by rfl) g_is_integer F_is_integer.kp b_is_integer .nil pass0 (pa_cons (pv 10) pa_nil)) pa_nil)) (pe_callB (call_repr quiet hr.units) (by rfl) T.n_repr (by decide +kernel) (pa_cons (pe_and (pe_callB call_isi (by rfl) T.n_isinstance (by decide +kernel) (pa_cons (pv 10) (pa_cons (pe_bltn (v := .ty "int") (by rfl) T.n_int (by decide +kernel) rfl) pa_nil))) (pe_one (pe_not (pe_callB call_isi (by rfl) T.n_isinstance (by decide +kernel) (pa_cons (pv 10) (pa_cons (pe_bltn (v := .ty "bool") (by rfl) T.n_bool (by decide +kernel) rfl) pa_nil)))))) pa_nil)) (nomark _))
   (pss_one (ps_ret pe_bl))
   pss_nil))))
  (pss_one (ps_ret pe_bl)))))))))))), ?_⟩
    clear G__law_pot_of G__law_below G__law_made G__law_classes G__law_words G_is_name G__law_is_named G_is_integer D1 D2 D3 D4 D5 D6 D7 D8 F__law_pot_of F__law_below F__law_made F__law_classes F__law_words F_is_name F__law_is_named F_is_integer b__law_pot_of b__law_below b__law_made b__law_classes b__law_words b_is_name b__law_is_named b_is_integer
    -- pot = _law_pot_of(script)
    refine ⟨_, rfl, a, ns, rfl, hS, hl, fun p c H1 s1 np nc hP1 => ?_⟩
    -- limit, place = ..
    refine ⟨_, rfl, _, _, rfl, rfl, ?_, p, c, _, rfl, hP1, ?_, ?_, fun l H2 l0 l1 hP2 b2 => ?_⟩
    · unfold CPow
      decide
    · decide
    · decide
    refine ⟨_, rfl, _, _, rfl, rfl, ?_, p, c, _, rfl, hP2, ?_, ?_, fun m H3 m0 m1 hP3 b3 => ?_⟩
    · unfold CPow
      decide
    · decide
    · decide
    refine ⟨_, _, rfl, rfl, ?_⟩
    have hl6 : l.natAbs < 10 ^ 30 := by
      have z : l < 1000000 := l1
      have z2 : (10 : Nat) ^ 30 = 1000000000000000000000000000000 := by decide
      omega
    have hm6 : (m - 1).natAbs < 10 ^ 30 := by
      have z : m < 10000 := m1
      have z2 : (10 : Nat) ^ 30 = 1000000000000000000000000000000 := by decide
      omega
    -- errors = _law_made(limit, place)
    refine ⟨_, _, rfl, ?_⟩
    refine ⟨_, rfl, _, rfl, l, m - 1, rfl, hl6, hm6, fun e as H4 s4 ne he hA => ?_⟩
    have l16 : as.length = 16 := hA.length
    have hP4 := hP3.same s4
    refine ⟨_, rfl, e, _, rfl, .inl (.inl he), ?_⟩
    refine for_it (walk_enum (xs := as.map V.ref)) (fun i σ H5 => Same H4 H5 ∧ ∃ v5 v6 v11 : Option V, σ = [some (.ref a), some (.ref p), some (.int l), some (.int (m - 1)), some (.ref e), v5, v6, none, none, none, none, v11]) ⟨same_refl H4, none, none, none, rfl⟩ (fun i σ H5 _ h => .inl (.inl (h.1 _ _ he))) ?_ ?_
    · rintro i x σ H5 H6 hi ⟨s5, v5, v6, v11, rfl⟩ ⟨T6, x6, y6, rfl, nT, rfl, ex, ey⟩
      rw [List.length_map, l16] at hi
      have ex : some (V.int (i : Nat)) = some x6 := ex
      cases ex
      have ey : (as.map V.ref)[i]? = some y6 := ey
      have hia : i < as.length := by omega
      rw [List.getElem?_map, List.getElem?_eq_getElem hia] at ey
      obtain rfl : V.ref as[i] = y6 := Option.some.inj ey
      obtain ⟨C, hC, hE⟩ := errs_at hA (List.getElem?_eq_getElem hia)
      have sT : Same H5 (upd H5 T6 (.tup [.int (i : Nat), .ref as[i]])) := same_upd nT
      refine ⟨T6, _, rfl, .inl (.inl upd_same), rfl, _, _, rfl, _, _, rfl, rfl, ?_⟩
      -- _law_classes(error) != [..]
      refine ⟨_, rfl, as[i], C, i, rfl, hC, hE.same (s5.trans sT), fun q7 H7 s7 n7 h7 => ?_⟩
      have e7 := (s5.trans (sT.trans s7)) _ _ he
      have C16 : C ∈ d.cls := List.mem_of_getElem? hC
      refine ⟨_, rfl, e, _, rfl, .inl (.inl (.inl e7)), 16, by rw [List.length_map, l16]; rfl, by decide, by decide, fun Z nZ => ?_⟩
      refine lc_range (n := 16) (fun j H8 => Same H7 H8 ∧ H8 Z = some (.lst (blsAt i 0 j))) ⟨same_upd nZ, upd_same⟩ ?_ ?_
      · rintro j H8 hj ⟨s8, h8⟩
        refine ⟨rfl, ?_⟩
        unfold tYes
        dsimp only
        rw [if_pos rfl]
        refine ⟨_, rfl, _, rfl, rfl, _, h8, ?_, ?_, ?_⟩
        · rw [bls_len]
          exact small1000 (by omega)
        · exact fun b o e => by
            rw [upd_ne (ne_of_none e nZ)]
            exact s8 b o e
        · rw [upd_same, bls_next]
      · rintro H8 ⟨s8, h8⟩
        have sH : Same H5 H8 := (sT.trans s7).trans s8
        refine ⟨_, _, .lst (.inl (.inl (s8 _ _ h7))) (dp_bls i 16 0), .lst (.inl (.inl h8)) (dp_bls i 16 0), sh_bls i 0 16, sh_bls i 0 16, false, ?_, ?_⟩
        · rw [SeqAt.eqv_refl _ (lay_bl i 0 16)]
          rfl
        refine iteF ?_
        refine ⟨_, rfl, as[i], C, .ref d.LE, .ref d.LE, true, rfl, hE.same (s5.trans sH), D.exc C C16, .own _, D.kitL C C16, true, rfl, ?_⟩
        refine iteF ?_
        refine ⟨_, rfl, as[i], C, .ty "ValueError", .type "ValueError", true, rfl, hE.same (s5.trans sH), D.exc C C16, .ty "ValueError", D.kitV C C16, true, rfl, ?_⟩
        refine iteF ?_
        exact ⟨s5.trans sH, _, _, _, rfl⟩
    · rintro σ H5 ⟨s5, v5, v6, v11, rfl⟩
      have he5 := s5 _ _ he
      have hP5 := hP4.same s5
      have hA5 := hA.same errs_st s5
      clear hA he
      obtain ⟨a0, _, rfl, h0, hA5⟩ := hA5.hd
      obtain ⟨a1, _, rfl, h1, hA5⟩ := hA5.hd
      obtain ⟨a2, _, rfl, h2, hA5⟩ := hA5.hd
      obtain ⟨a3, _, rfl, h3, hA5⟩ := hA5.hd
      obtain ⟨a4, _, rfl, h4, hA5⟩ := hA5.hd
      obtain ⟨a5, _, rfl, h5, hA5⟩ := hA5.hd
      obtain ⟨a6, _, rfl, h6, hA5⟩ := hA5.hd
      obtain ⟨a7, _, rfl, h7, hA5⟩ := hA5.hd
      obtain ⟨a8, _, rfl, h8, hA5⟩ := hA5.hd
      obtain ⟨a9, _, rfl, h9, hA5⟩ := hA5.hd
      obtain ⟨a10, _, rfl, h10, hA5⟩ := hA5.hd
      obtain ⟨a11, _, rfl, h11, hA5⟩ := hA5.hd
      obtain ⟨a12, _, rfl, h12, hA5⟩ := hA5.hd
      obtain ⟨a13, _, rfl, h13, hA5⟩ := hA5.hd
      obtain ⟨a14, _, rfl, h14, hA5⟩ := hA5.hd
      obtain ⟨a15, _, rfl, h15, hA5⟩ := hA5.hd
      obtain rfl := hA5.none
      obtain ⟨_, rfl, dd0, ea0, ed0⟩ := h0
      obtain ⟨_, _, rfl, rfl, dd1, ea1, ed1⟩ := h1
      obtain ⟨_, rfl, dd2, ea2, ed2⟩ := h2
      obtain ⟨_, ⟨t3, rfl, ht3⟩, dd3, ea3, ed3⟩ := h3
      obtain ⟨_, rfl, dd14, ea14, ed14⟩ := h14
      obtain ⟨_, ⟨t15, rfl, ht15⟩, dd15, ea15, ed15⟩ := h15
      clear h4 h5 h6 h7 h8 h9 h10 h11 h12 h13 hA5
      -- fields = ..
      refine ⟨_, rfl, e, _, _, V.ref a0, rfl, rfl, .inl (.inl he5), rfl, a0, _, dd0, _, _, rfl, D.exc _ (List.mem_of_getElem? (i := 0) rfl), D.no_TooMany, ea0, ed0, look1 _ _, ?_⟩
      refine ⟨_, rfl, e, _, _, V.ref a1, rfl, rfl, .inl (.inl he5), rfl, a1, _, dd1, _, _, rfl, D.exc _ (List.mem_of_getElem? (i := 1) rfl), D.no_line, ea1, ed1, look2 _ _ (by decide +kernel), ?_⟩
      refine ⟨_, rfl, e, _, _, V.ref a1, rfl, rfl, .inl (.inl he5), rfl, a1, _, dd1, _, _, rfl, D.exc _ (List.mem_of_getElem? (i := 1) rfl), D.no_column, ea1, ed1, look2' _ _ _ _, ?_⟩
      refine ⟨_, rfl, e, _, _, V.ref a2, rfl, rfl, .inl (.inl he5), rfl, a2, _, dd2, _, _, rfl, D.exc _ (List.mem_of_getElem? (i := 2) rfl), D.no_NoStep, ea2, ed2, look1 _ _, ?_⟩
      refine ⟨_, rfl, e, _, _, V.ref a3, rfl, rfl, .inl (.inl he5), rfl, a3, _, dd3, _, _, rfl, D.exc _ (List.mem_of_getElem? (i := 3) rfl), D.no_NotLike, ea3, ed3, look1 _ _, ?_⟩
      refine ⟨by show 5 ≤ sizeLine; decide, fun f6 n6 => ?_⟩
      have s6 : Same H5 (upd H5 f6 (.lst [.int l, .int (m - 1), .int l, .int (m - 1), .ref t3])) := same_upd n6
      -- repr(fields) != repr([..])
      refine ⟨_, rfl, rp_fields hl6 hm6 (.lst (.inl (.inl upd_same)) (.cons (.int _) (.cons (.int _) (.cons (.int _) (.cons (.int _) (.cons (.tup (.inl (.inl (s6 _ _ ht3))) (.cons (.str _) .nil)) .nil)))))) ?_⟩
      refine ⟨_, rfl, _, rfl, _, rfl, _, rfl, by show 1 ≤ sizeLine; decide, fun t7 n7 => ⟨by show 5 ≤ sizeLine; decide, fun f8 n8 => ?_⟩⟩
      refine rp_fields hl6 hm6 (.lst (.inl (.inl upd_same)) (.cons (.int _) (.cons (.int _) (.cons (.int _) (.cons (.int _) (.cons (.tup (.inl (.inl ((same_upd n8) _ _ upd_same))) (.cons (.str _) .nil)) .nil)))))) ?_
      refine ⟨rfl, false, ne_self _, iteF ?_⟩
      have s8 : Same H5 (upd (upd (upd H5 f6 (.lst [.int l, .int (m - 1), .int l, .int (m - 1), .ref t3])) t7 (.tup [.str "constant"])) f8 (.lst [.int l, .int (m - 1), .int l, .int (m - 1), .ref t7])) := (s6.trans (same_upd n7)).trans (same_upd n8)
      generalize upd (upd (upd H5 f6 (.lst [.int l, .int (m - 1), .int l, .int (m - 1), .ref t3])) t7 (.tup [.str "constant"])) f8 (.lst [.int l, .int (m - 1), .int l, .int (m - 1), .ref t7]) = H8 at s8 ⊢
      -- repr([errors[14].place, errors[15].fault]) != repr([..])
      refine ⟨_, rfl, e, _, _, V.ref a14, rfl, rfl, .inl (.inl (s8 _ _ he5)), rfl, a14, _, dd14, _, _, rfl, D.exc _ (List.mem_of_getElem? (i := 14) rfl), D.no_NoRow, s8 _ _ ea14, s8 _ _ ed14, look1 _ _, ?_⟩
      refine ⟨_, rfl, e, _, _, V.ref a15, rfl, rfl, .inl (.inl (s8 _ _ he5)), rfl, a15, _, dd15, _, _, rfl, D.exc _ (List.mem_of_getElem? (i := 15) rfl), D.no_NoTable, s8 _ _ ea15, s8 _ _ ed15, look1 _ _, ?_⟩
      refine ⟨by show 2 ≤ sizeLine; decide, fun f9 n9 => ?_⟩
      refine rp_last hl6 hm6 (.lst (.inl (.inl upd_same)) (.cons (.int _) (.cons (.tup (.inl (.inl ((s8.trans (same_upd n9)) _ _ ht15))) (.cons (.str _) (.cons (.int _) .nil))) .nil))) ?_
      refine ⟨_, rfl, _, rfl, by show 2 ≤ sizeLine; decide, fun t10 n10 => ⟨by show 2 ≤ sizeLine; decide, fun f11 n11 => ?_⟩⟩
      refine rp_last hl6 hm6 (.lst (.inl (.inl upd_same)) (.cons (.int _) (.cons (.tup (.inl (.inl ((same_upd n11) _ _ upd_same))) (.cons (.str _) (.cons (.int _) .nil))) .nil))) ?_
      refine ⟨rfl, false, ne_self _, iteF ?_⟩
      have s11 := ((s8.trans (same_upd n9)).trans (same_upd n10)).trans (same_upd (o := .lst [.int (m - 1), .ref t10]) n11)
      generalize upd _ f11 (.lst [.int (m - 1), .ref t10]) = H11 at s11 ⊢
      -- for word in _law_words(pot)
      refine ⟨_, rfl, p, c, rfl, hP5.same s11, fun lw ws H12 b12 hP12 nlw hw hW hn => ?_⟩
      refine ⟨lw, rfl, ⟨_, .inl (.inl hw)⟩, ?_⟩
      refine for_it (walk_list (xs := ws.map V.str)) (fun i σ H13 => Same H12 H13 ∧ ∃ v8 : Option V, σ = [some (.ref a), some (.ref p), some (.int l), some (.int (m - 1)), some (.ref e), v5, v6, some (.ref f6), v8, none, none, v11]) ⟨same_refl H12, none, rfl⟩ (fun i σ H13 _ h => .inl (.inl (h.1 _ _ hw))) ?_ ?_
      · rintro i x σ H13 H14 hi ⟨s13, v8, rfl⟩ ⟨rfl, ex⟩
        rw [List.length_map] at hi
        rw [List.getElem?_map, List.getElem?_eq_getElem hi] at ex
        obtain rfl : V.str ws[i] = x := Option.some.inj ex
        obtain ⟨w1, w2⟩ := hW _ (List.getElem_mem hi)
        refine ⟨_, rfl, isname_str w1 fun H15 s15 => ?_⟩
        refine rp_bl ?_
        refine ⟨_, rfl, ws[i], rfl, w1, w2, fun H16 s16 => ?_⟩
        refine rp_bl ?_
        refine ⟨rfl, false, ne_self _, iteF ?_⟩
        exact ⟨(s13.trans s15).trans s16, _, rfl⟩
      · rintro σ H13 ⟨s13, v8, rfl⟩
        -- things = [..]
        refine ⟨_, _, rfl, rfl, _, _, rfl, rfl, ?_, by show 0 ≤ sizeLine; decide, fun x1 n1 => ?_⟩
        · unfold CPow
          decide
        intro x2 n2
        refine ⟨by show 0 ≤ sizeLine; decide, fun x3 n3 => ⟨by show 1 ≤ sizeLine; decide, fun x4 n4 => ⟨by show 1 ≤ sizeLine; decide, fun x5 n5 => ⟨by show 1 ≤ sizeLine; decide, fun x6 n6 => ?_⟩⟩⟩⟩
        refine ⟨_, rfl, by show 15 ≤ sizeLine; decide, fun th nth => ?_⟩
        have S6 := same_upd (o := .tup [.str "a"]) n6
        have S5 := (same_upd (o := .lst [.str "a"]) n5).trans S6
        have S4 := (same_upd (o := .tup [.int 1]) n4).trans S5
        have S3 := (same_upd (o := .tup []) n3).trans S4
        have S2 := (same_upd (o := .dK []) n2).trans S3
        have S1 := (same_upd (o := .lst []) n1).trans S2
        have ST := same_upd (o := .lst [.int 0, .int (0 - 1), .int (10 ^ (30 : Int).toNat), .bl true, .bl false, .non, .str "1", .str "", .ref x1, .ref x2, .ref x3, .ref x4, .ref x5, .ref x6, .int l]) nth
        have hx1 := (S2.trans ST) x1 (.lst []) upd_same
        have hx2 := (S3.trans ST) x2 (.dK []) upd_same
        have hx3 := (S4.trans ST) x3 (.tup []) upd_same
        have hx4 := (S5.trans ST) x4 (.tup [.int 1]) upd_same
        have hx5 := (S6.trans ST) x5 (.lst [.str "a"]) upd_same
        have hx6 := ST x6 (.tup [.str "a"]) upd_same
        have all : ∀ x ∈ [V.int 0, .int (0 - 1), .int (10 ^ (30 : Int).toNat), .bl true, .bl false, .non, .str "1", .str "", .ref x1, .ref x2, .ref x3, .ref x4, .ref x5, .ref x6, .int l], Thg K (upd (upd (upd (upd (upd (upd (upd H13 x1 (.lst [])) x2 (.dK [])) x3 (.tup [])) x4 (.tup [.int 1])) x5 (.lst [.str "a"])) x6 (.tup [.str "a"])) th (.lst [.int 0, .int (0 - 1), .int (10 ^ (30 : Int).toNat), .bl true, .bl false, .non, .str "1", .str "", .ref x1, .ref x2, .ref x3, .ref x4, .ref x5, .ref x6, .int l])) x := by
          intro x hx
          simp only [List.mem_cons, List.not_mem_nil, or_false] at hx
          rcases hx with rfl | rfl | rfl | rfl | rfl | rfl | rfl | rfl | rfl | rfl | rfl | rfl | rfl | rfl | rfl
          · exact thg_int
          · exact thg_int
          · exact thg_int
          · exact thg_bl
          · exact thg_bl
          · exact thg_non
          · exact thg_str (by decide) (by decide +kernel)
          · exact thg_str (by decide) (by decide +kernel)
          · exact thg_lst hx1
          · exact thg_dict hx2
          · exact thg_tup hx3
          · exact thg_tup hx4
          · exact thg_lst hx5
          · exact thg_tup hx6
          · exact thg_int
        refine ⟨_, rfl, th, rfl, ⟨_, .inl (.inl upd_same)⟩, ?_⟩
        have hth : ∀ G : Hp, upd G th (.lst [.int 0, .int (0 - 1), .int (10 ^ (30 : Int).toNat), .bl true, .bl false, .non, .str "1", .str "", .ref x1, .ref x2, .ref x3, .ref x4, .ref x5, .ref x6, .int l]) th = some (.lst [.int 0, .int (0 - 1), .int (10 ^ (30 : Int).toNat), .bl true, .bl false, .non, .str "1", .str "", .ref x1, .ref x2, .ref x3, .ref x4, .ref x5, .ref x6, .int l]) := fun G => upd_same
        refine for_it (walk_list (xs := [.int 0, .int (0 - 1), .int (10 ^ (30 : Int).toNat), .bl true, .bl false, .non, .str "1", .str "", .ref x1, .ref x2, .ref x3, .ref x4, .ref x5, .ref x6, .int l])) (fun i σ H20 => Same (upd (upd (upd (upd (upd (upd (upd H13 x1 (.lst [])) x2 (.dK [])) x3 (.tup [])) x4 (.tup [.int 1])) x5 (.lst [.str "a"])) x6 (.tup [.str "a"])) th (.lst [.int 0, .int (0 - 1), .int (10 ^ (30 : Int).toNat), .bl true, .bl false, .non, .str "1", .str "", .ref x1, .ref x2, .ref x3, .ref x4, .ref x5, .ref x6, .int l])) H20 ∧ ∃ v10 : Option V, σ = [some (.ref a), some (.ref p), some (.int l), some (.int (m - 1)), some (.ref e), v5, v6, some (.ref f6), v8, some (.ref th), v10, v11]) ⟨same_refl _, none, rfl⟩ (fun i σ H20 _ h => .inl (.inl (h.1 _ _ (hth _)))) ?_ ?_
        · rintro i x σ H20 H21 hi ⟨s20, v10, rfl⟩ ⟨rfl, ex⟩
          have hx := (all x (List.mem_of_getElem? ex)).same s20
          refine ⟨_, rfl, isname_no hx fun H22 s22 => ?_⟩
          refine ⟨false, false, rfl, rfl, false, rfl, iteF ?_⟩
          obtain ⟨T', a', b', ty, ha, hb, _⟩ := hx.same s22
          refine ⟨_, rfl, x, T', a', b', rfl, ty, ha, hb, ?_⟩
          refine rp_bl ?_
          refine ⟨_, rfl, _, _, _, _, a', rfl, .ty "int", ty, kit_ty ha, a', rfl, ?_⟩
          cases a' with
          | false =>
            refine iteF ?_
            refine rp_bl ?_
            exact ⟨rfl, false, ne_self _, iteF ⟨s20.trans s22, _, rfl⟩⟩
          | true =>
            refine iteT ?_
            refine ⟨_, rfl, _, _, _, _, b', rfl, .ty "bool", ty, kit_ty hb, b', rfl, ?_⟩
            refine rp_bl ?_
            exact ⟨rfl, false, ne_self _, iteF ⟨s20.trans s22, _, rfl⟩⟩
        · rintro σ H20 ⟨s20, v10, rfl⟩
          exact q H20
end
end My

namespace My
open PySem PySem.Spec PyProof.Rows L2
/-! ### the facts of the text -/
abbrev mroVE (C LE : Addr) : List Value := [.ref C, .ref LE, .type "ValueError", .type "Exception", .type "BaseException", .type "object"]
/-- what stands of each of the sixteen classes -/
structure CK (K : PySem.W.Frag) (C LE : Addr) : Prop where
  m : ∃ cd, PySem.W.clsIn K C = some cd ∧ cd.mro = mroVE C LE
  t : PySem.W.typeIn K (.ref C) = some (.type "type")
  k : PySem.W.keepIn K (.ref C) = true
  hg : PySem.W.findIn K (.ref C) "__getattribute__" = some (some (.builtin "BaseException.__getattribute__"))
  hk : PySem.W.findIn K (.ref C) "__getattr__" = some none
  hd : PySem.W.hasDictIn K C = true
  ha : PySem.W.findIn K (.ref C) "__class__" = some (some (.builtin "object.__class__"))
theorem ck_mk {K : PySem.W.Frag} {C LE : Addr} {cd : ClassData} (m : PySem.W.clsIn K C = some cd) (r : cd.mro = mroVE C LE) (t : PySem.W.typeIn K (.ref C) = some (.type "type")) (k : PySem.W.keepIn K (.ref C) = true)
    (hg : PySem.W.findIn K (.ref C) "__getattribute__" = some (some (.builtin "BaseException.__getattribute__"))) (hk : PySem.W.findIn K (.ref C) "__getattr__" = some none) (hd : PySem.W.hasDictIn K C = true) (ha : PySem.W.findIn K (.ref C) "__class__" = some (some (.builtin "object.__class__"))) : CK K C LE := ⟨⟨cd, m, r⟩, t, k, hg, hk, hd, ha⟩
theorem some_cls {K : PySem.W.Frag} {C : Addr} {cd : ClassData} (m : PySem.W.clsIn K C = some cd) : ∃ cd, PySem.W.clsIn K C = some cd := ⟨cd, m⟩
theorem CK.mro {K : PySem.W.Frag} {C LE : Addr} (h : CK K C LE) (v : Value) : PySem.W.mroIn K C v = some ((mroVE C LE).contains v) := by
  obtain ⟨cd, e, r⟩ := h.m
  unfold PySem.W.mroIn
  rw [e, Option.bind_some, r]
  rfl
theorem CK.exc {K : PySem.W.Frag} {C LE : Addr} (h : CK K C LE) (hn : PySem.W.specialIn K (.builtin "object.__class__") "__get__" = some (some (.builtin "getset_descriptor.__get__"))) (ht : PySem.W.takesIn K (.builtin "object.__class__") = some true) : ExcC K C :=
  ⟨h.hg, h.hk, (h.mro _).trans (by rw [show (mroVE C LE).contains (.type "BaseException") = true by simp]), h.hd, h.ha, hn, ht, (h.mro _).trans (by rw [show (mroVE C LE).contains (.type "object") = true by simp])⟩
theorem ref_eq (C D : Addr) : ((Value.ref C) == (Value.ref D)) = decide (C = D) := by
  by_cases h : C = D
  · subst h
    simp
  · rw [decide_eq_false h]
    refine beq_eq_false_iff_ne.mpr fun z => h ?_
    cases z
    rfl
theorem kit_to {K : PySem.W.Frag} {C D LE : Addr} {cd : ClassData} (h : CK K C LE) (e : PySem.W.clsIn K D = some cd) (t : PySem.W.typeIn K (.ref D) = some (.type "type")) : PySem.W.kitOne K (.ref C) (.ref D) = some (decide (C = D) || decide (LE = D)) := by
  unfold PySem.W.kitOne
  rw [ref_eq]
  by_cases z : C = D
  · subst z
    simp
  · rw [decide_eq_false z, if_neg (by decide)]
    unfold PySem.W.kitCls
    dsimp only
    rw [e, t]
    have y : ((some cd).isSome && (some (Value.type "type") == some (Value.type "type"))) = true := (show (true && (some (Value.type "type") == some (Value.type "type"))) = true by decide +kernel)
    rw [if_pos y]
    show PySem.W.mroIn K C (.ref D) = _
    rw [h.mro]
    have n1 : (Value.ref D == Value.ref C) = false := by
      rw [ref_eq]
      exact decide_eq_false fun q => z q.symm
    have n2 : (Value.ref D == Value.ref LE) = decide (LE = D) := by
      rw [ref_eq]
      exact decide_eq_decide.mpr ⟨Eq.symm, Eq.symm⟩
    have n3 : ∀ T : String, (Value.ref D == Value.type T) = false := fun T => beq_eq_false_iff_ne.mpr fun q => nomatch q
    simp only [mroVE, List.contains_cons, n1, n2, n3, List.contains_nil, Bool.false_or, Bool.or_false]
theorem kit_V {K : PySem.W.Frag} {C LE : Addr} (h : CK K C LE) : PySem.W.kitOne K (.ref C) (.type "ValueError") = some true := by
  unfold PySem.W.kitOne
  have n : (Value.ref C == Value.type "ValueError") = false := beq_eq_false_iff_ne.mpr fun q => nomatch q
  rw [n, if_neg (by decide)]
  unfold PySem.W.kitCls
  dsimp only
  rw [if_pos (by decide +kernel)]
  show PySem.W.mroIn K C _ = _
  rw [h.mro]
  simp
theorem kits_of {K : PySem.W.Frag} {LE : Addr} {Cs : List Addr} (h : ∀ C ∈ Cs, CK K C LE) (nd : (LE :: Cs).Nodup) (i j : Nat) (C D : Addr) (hi : Cs[i]? = some C) (hj : Cs[j]? = some D) : PySem.W.kitOne K (.ref C) (.ref D) = some (decide (j = i)) := by
  have hC := List.mem_of_getElem? hi
  have hD := List.mem_of_getElem? hj
  obtain ⟨cd, e, _⟩ := (h D hD).m
  rw [kit_to (h C hC) e (h D hD).t]
  have nL : LE ≠ D := fun z => by
    rw [z] at nd
    exact (List.nodup_cons.mp nd).1 hD
  have n2 := (List.nodup_cons.mp nd).2
  rw [decide_eq_false nL, Bool.or_false]
  have z : (C = D) ↔ (j = i) := by
    obtain ⟨li, ei⟩ := List.getElem?_eq_some_iff.mp hi
    obtain ⟨lj, ej⟩ := List.getElem?_eq_some_iff.mp hj
    constructor
    · intro q
      rw [← ei, ← ej] at q
      exact (List.getElem_inj n2).mp q.symm
    · intro q
      subst q
      rw [← ei, ← ej]
  rw [decide_eq_decide.mpr z]
section
variable {P : Program} {w : World} {K : PySem.W.Frag} {mg : Str → Option Value} {base : Heap}
theorem sup_mk {h : Heap} {x qual : Str} {st : Stmt} {C LE fI cc cda : Addr} {oc doc pm ct : Value} {od an : Option Addr} {osl : Array (Option Value)} {nm q : Str} {N : Addr} {bs bm : List Value} {sn : List Str} {sub : List Value} {ab : Bool} {col : Option Bool} {dd : Option Addr} {k0 k1 k2 k3 k5 : Option Value}
    {ccl : Value} {cdd : Option Addr} {vs : Array Value} {ccs : Array (Option Value)} {file : Str} {tf : Tok} {cl : Value} {cld : Option Addr} {csl : Array (Option Value)} (X : K.In h) (G : h.Ns mainGlobals mg) (c : CK K C LE)
    (gC : PySem.W.nsIn K mainGlobals x = some (some (.ref C))) (lC : K.lookup C = some (excClassObj nm q C N bs bm true sn sub ab col dd k0 k1 k2 k3 k5 "ValueError.__new__")) (rv : PySem.HandSPX.refsVE bm = true)
    (sa : PySem.W.findIn K (.ref C) "__setattr__" = some (some (.builtin "object.__setattr__"))) (iC : PySem.W.findIn K (.ref C) "__init__" = some (some (.ref fI))) (tI : PySem.W.typeIn K (.ref fI) = some (.type "function"))
    (lI : K.lookup fI = some ⟨oc, od, .func (PySem.W.ksFn "__init__" qual (defArgs st) (defBody st) (defScope st) .none .none doc pm an (.ref cda) ct cc), osl⟩) (cdq : PySem.W.codeIn K (.ref cda) qual = true) (lc : K.lookup cda = some ⟨ccl, cdd, .fields vs, ccs⟩) (hv : vs[2]? = some (.str file tf)) (hf : ((P.main.file : Str) == file) = true)
    (lcc : K.lookup cc = some ⟨cl, cld, .cell (some (.ref C)), csl⟩) (noS : PySem.W.nsIn K mainGlobals "super" = some none) (anyC : PySem.W.nsIn K cStatics "thirdparty.any" = some none) (supI : PySem.W.ks_superIn K C C "__init__" = some (some (.builtin "ValueError.__init__"))) (noTop : (P.main.scope.names.lookup ("super" : Str)).isSome = false) :
    SupCls P K mg x qual st C fI cc cda (PySem.W.ksFn "__init__" qual (defArgs st) (defBody st) (defScope st) .none .none doc pm an (.ref cda) ct cc) where
  gC := PySem.W.mg_of X G gC
  ox := ⟨⟨nm, q, N, bs, bm, sn, sub, ab, col, dd, k0, k1, k2, k3, k5, lC, rv⟩, sa, (c.mro _).trans (by rw [show (mroVE C LE).contains (.type "BaseException") = true by simp]), c.t, c.k⟩
  iC := iC
  tI := tI
  fn := ⟨oc, od, doc, pm, an, ct, osl, rfl, lI⟩
  cdq := cdq
  code := ⟨ccl, cdd, vs, ccs, file, tf, lc, hv, hf⟩
  cell := ⟨cl, cld, csl, lcc⟩
  sub := (c.mro _).trans (by rw [show (mroVE C LE).contains (.ref C) = true by simp])
  noS := PySem.W.mg_none_of X G noS
  anyC := anyC
  supI := supI
  subV := (c.mro _).trans (by rw [show (mroVE C LE).contains (.type "ValueError") = true by simp])
  noTop := noTop
theorem plain_mk {h : Heap} {x : Str} {C LE : Addr} (X : K.In h) (G : h.Ns mainGlobals mg) (c : CK K C LE) (gC : PySem.W.nsIn K mainGlobals x = some (some (.ref C))) (q : PySem.W.excIn K C [.type "ValueError", .type "Exception", .type "BaseException", .type "object"] "ValueError.__new__" = true) : PlainCls K mg x C := ⟨PySem.W.mg_of X G gC, q, c.k⟩

/-- a def as the top has written it -/
structure DefK (K : PySem.W.Frag) (mg : Str → Option Value) (x : Str) (st : Stmt) (f : Addr) (fd : FuncData) : Prop where
  g : mg x = some (.ref f)
  F : Fun K x x st f fd
theorem def_mk {h : Heap} {x : Str} {st : Stmt} {f : Addr} {oc : Value} {od an : Option Addr} {osl : Array (Option Value)} {kV doc pm cdv ct : Value} (X : K.In h) (G : h.Ns mainGlobals mg) (g : PySem.W.nsIn K mainGlobals x = some (some (.ref f)))
    (l : K.lookup f = some ⟨oc, od, .func (PySem.W.fnOf x x (defArgs st) (defBody st) (defScope st) .none kV doc pm an cdv ct), osl⟩) (c : PySem.W.codeIn K cdv x = true) (k : PySem.W.keepIn K (.ref f) = true) : DefK K mg x st f (PySem.W.fnOf x x (defArgs st) (defBody st) (defScope st) .none kV doc pm an cdv ct) := ⟨PySem.W.mg_of X G g, fun_mk l c k⟩

theorem all_mk {h : Heap} {C_TooMany fI_TooMany cc_TooMany cda_TooMany C_SyntaxProblem fI_SyntaxProblem cc_SyntaxProblem cda_SyntaxProblem C_NoStep fI_NoStep cc_NoStep cda_NoStep C_NotLike fI_NotLike cc_NotLike cda_NotLike C_NoRow fI_NoRow cc_NoRow cda_NoRow C_NoTable fI_NoTable cc_NoTable cda_NoTable C_NoKind C_NoLayout C_NoTree C_NoRecord C_NoName C_NoNumber C_NoEra C_NoMark C_Mismatch C_InvalidCommand LE : Addr} {f_law_kneaded f_law_pot_of f_law_below f_law_pick f_law_made f_law_classes f_law_words f_is_name f_law_is_named f_is_integer f_law : Addr} {fd_TooMany fd_SyntaxProblem fd_NoStep fd_NotLike fd_NoRow fd_NoTable fd_law_kneaded fd_law_pot_of fd_law_below fd_law_pick fd_law_made fd_law_classes fd_law_words fd_is_name fd_law_is_named fd_is_integer fd_law : FuncData} {tL tD tN : Tok} {fa : Addr} (X : K.In h) (G : h.Ns mainGlobals mg) (hfa : mg "law" = some (.ref fa))
    (g_TooMany : PySem.W.nsIn K mainGlobals "TooMany" = some (some (.ref C_TooMany)))
    (g_SyntaxProblem : PySem.W.nsIn K mainGlobals "SyntaxProblem" = some (some (.ref C_SyntaxProblem)))
    (g_NoStep : PySem.W.nsIn K mainGlobals "NoStep" = some (some (.ref C_NoStep)))
    (g_NotLike : PySem.W.nsIn K mainGlobals "NotLike" = some (some (.ref C_NotLike)))
    (g_NoKind : PySem.W.nsIn K mainGlobals "NoKind" = some (some (.ref C_NoKind)))
    (g_NoLayout : PySem.W.nsIn K mainGlobals "NoLayout" = some (some (.ref C_NoLayout)))
    (g_NoTree : PySem.W.nsIn K mainGlobals "NoTree" = some (some (.ref C_NoTree)))
    (g_NoRecord : PySem.W.nsIn K mainGlobals "NoRecord" = some (some (.ref C_NoRecord)))
    (g_NoName : PySem.W.nsIn K mainGlobals "NoName" = some (some (.ref C_NoName)))
    (g_NoNumber : PySem.W.nsIn K mainGlobals "NoNumber" = some (some (.ref C_NoNumber)))
    (g_NoEra : PySem.W.nsIn K mainGlobals "NoEra" = some (some (.ref C_NoEra)))
    (g_NoMark : PySem.W.nsIn K mainGlobals "NoMark" = some (some (.ref C_NoMark)))
    (g_Mismatch : PySem.W.nsIn K mainGlobals "Mismatch" = some (some (.ref C_Mismatch)))
    (g_InvalidCommand : PySem.W.nsIn K mainGlobals "InvalidCommand" = some (some (.ref C_InvalidCommand)))
    (g_NoRow : PySem.W.nsIn K mainGlobals "NoRow" = some (some (.ref C_NoRow)))
    (g_NoTable : PySem.W.nsIn K mainGlobals "NoTable" = some (some (.ref C_NoTable)))
    (k_TooMany : CK K C_TooMany LE)
    (k_SyntaxProblem : CK K C_SyntaxProblem LE)
    (k_NoStep : CK K C_NoStep LE)
    (k_NotLike : CK K C_NotLike LE)
    (k_NoKind : CK K C_NoKind LE)
    (k_NoLayout : CK K C_NoLayout LE)
    (k_NoTree : CK K C_NoTree LE)
    (k_NoRecord : CK K C_NoRecord LE)
    (k_NoName : CK K C_NoName LE)
    (k_NoNumber : CK K C_NoNumber LE)
    (k_NoEra : CK K C_NoEra LE)
    (k_NoMark : CK K C_NoMark LE)
    (k_Mismatch : CK K C_Mismatch LE)
    (k_InvalidCommand : CK K C_InvalidCommand LE)
    (k_NoRow : CK K C_NoRow LE)
    (k_NoTable : CK K C_NoTable LE)
    (s_TooMany : CK K C_TooMany LE → SupCls P K mg "TooMany" "TooMany.__init__" i_TooMany C_TooMany fI_TooMany cc_TooMany cda_TooMany fd_TooMany)
    (s_SyntaxProblem : CK K C_SyntaxProblem LE → SupCls P K mg "SyntaxProblem" "SyntaxProblem.__init__" i_SyntaxProblem C_SyntaxProblem fI_SyntaxProblem cc_SyntaxProblem cda_SyntaxProblem fd_SyntaxProblem)
    (s_NoStep : CK K C_NoStep LE → SupCls P K mg "NoStep" "NoStep.__init__" i_NoStep C_NoStep fI_NoStep cc_NoStep cda_NoStep fd_NoStep)
    (s_NotLike : CK K C_NotLike LE → SupCls P K mg "NotLike" "NotLike.__init__" i_NotLike C_NotLike fI_NotLike cc_NotLike cda_NotLike fd_NotLike)
    (s_NoRow : CK K C_NoRow LE → SupCls P K mg "NoRow" "NoRow.__init__" i_NoRow C_NoRow fI_NoRow cc_NoRow cda_NoRow fd_NoRow)
    (s_NoTable : CK K C_NoTable LE → SupCls P K mg "NoTable" "NoTable.__init__" i_NoTable C_NoTable fI_NoTable cc_NoTable cda_NoTable fd_NoTable)
    (no_TooMany_limit : PySem.W.findIn K (.ref C_TooMany) "limit" = some none)
    (no_SyntaxProblem_line : PySem.W.findIn K (.ref C_SyntaxProblem) "line" = some none)
    (no_SyntaxProblem_column : PySem.W.findIn K (.ref C_SyntaxProblem) "column" = some none)
    (no_NoStep_place : PySem.W.findIn K (.ref C_NoStep) "place" = some none)
    (no_NotLike_answer : PySem.W.findIn K (.ref C_NotLike) "answer" = some none)
    (no_NoRow_place : PySem.W.findIn K (.ref C_NoRow) "place" = some none)
    (no_NoTable_fault : PySem.W.findIn K (.ref C_NoTable) "fault" = some none)
    (p_NoKind : CK K C_NoKind LE → PlainCls K mg "NoKind" C_NoKind)
    (p_NoLayout : CK K C_NoLayout LE → PlainCls K mg "NoLayout" C_NoLayout)
    (p_NoTree : CK K C_NoTree LE → PlainCls K mg "NoTree" C_NoTree)
    (p_NoRecord : CK K C_NoRecord LE → PlainCls K mg "NoRecord" C_NoRecord)
    (p_NoName : CK K C_NoName LE → PlainCls K mg "NoName" C_NoName)
    (p_NoNumber : CK K C_NoNumber LE → PlainCls K mg "NoNumber" C_NoNumber)
    (p_NoEra : CK K C_NoEra LE → PlainCls K mg "NoEra" C_NoEra)
    (p_NoMark : CK K C_NoMark LE → PlainCls K mg "NoMark" C_NoMark)
    (p_Mismatch : CK K C_Mismatch LE → PlainCls K mg "Mismatch" C_Mismatch)
    (p_InvalidCommand : CK K C_InvalidCommand LE → PlainCls K mg "InvalidCommand" C_InvalidCommand)
    (gLE : PySem.W.nsIn K mainGlobals "LayoutError" = some (some (.ref LE))) (cLE : ∃ cd, PySem.W.clsIn K LE = some cd) (tLE : PySem.W.typeIn K (.ref LE) = some (.type "type")) (hn : PySem.W.specialIn K (.builtin "object.__class__") "__get__" = some (some (.builtin "getset_descriptor.__get__"))) (ht : PySem.W.takesIn K (.builtin "object.__class__") = some true)
    (nd : (LE :: [C_TooMany, C_SyntaxProblem, C_NoStep, C_NotLike, C_NoKind, C_NoLayout, C_NoTree, C_NoRecord, C_NoName, C_NoNumber, C_NoEra, C_NoMark, C_Mismatch, C_InvalidCommand, C_NoRow, C_NoTable]).Nodup)
    (d_law_kneaded : DefK K mg "_law_kneaded" s_law_kneaded f_law_kneaded fd_law_kneaded)
    (d_law_pot_of : DefK K mg "_law_pot_of" s_law_pot_of f_law_pot_of fd_law_pot_of)
    (d_law_below : DefK K mg "_law_below" s_law_below f_law_below fd_law_below)
    (d_law_pick : DefK K mg "_law_pick" s_law_pick f_law_pick fd_law_pick)
    (d_law_made : DefK K mg "_law_made" s_law_made f_law_made fd_law_made)
    (d_law_classes : DefK K mg "_law_classes" s_law_classes f_law_classes fd_law_classes)
    (d_law_words : DefK K mg "_law_words" s_law_words f_law_words fd_law_words)
    (d_is_name : DefK K mg "is_name" s_is_name f_is_name fd_is_name)
    (d_law_is_named : DefK K mg "_law_is_named" s_law_is_named f_law_is_named fd_law_is_named)
    (d_is_integer : DefK K mg "is_integer" s_is_integer f_is_integer fd_is_integer)
    (d_law : DefK K mg "law" s_law f_law fd_law)
    (b_law_kneaded : Binds K fd_law_kneaded ["seed", "lap"] [])
    (b_law_pot_of : Binds K fd_law_pot_of ["script"] [])
    (b_law_below : Binds K fd_law_below ["pot", "bound"] [])
    (b_law_pick : Binds K fd_law_pick ["pot", "items"] [])
    (b_law_made : Binds K fd_law_made ["limit", "place"] [])
    (b_law_classes : Binds K fd_law_classes ["error"] [])
    (b_law_words : Binds K fd_law_words ["pot"] [])
    (b_is_name : Binds K fd_is_name ["thing"] [])
    (b_law_is_named : Binds K fd_law_is_named ["word"] [])
    (b_is_integer : Binds K fd_is_integer ["thing"] [])
    (b_law : Binds K fd_law ["script"] [])
    (n_int : PySem.W.nsIn K mainGlobals "int" = some none)
    (n_range : PySem.W.nsIn K mainGlobals "range" = some none)
    (n_abs : PySem.W.nsIn K mainGlobals "abs" = some none)
    (n_enumerate : PySem.W.nsIn K mainGlobals "enumerate" = some none)
    (n_len : PySem.W.nsIn K mainGlobals "len" = some none)
    (n_isinstance : PySem.W.nsIn K mainGlobals "isinstance" = some none)
    (n_str : PySem.W.nsIn K mainGlobals "str" = some none)
    (n_bool : PySem.W.nsIn K mainGlobals "bool" = some none)
    (n_all : PySem.W.nsIn K mainGlobals "all" = some none)
    (n_list : PySem.W.nsIn K mainGlobals "list" = some none)
    (n_repr : PySem.W.nsIn K mainGlobals "repr" = some none)
    (n_ValueError : PySem.W.nsIn K mainGlobals "ValueError" = some none)
    (gL : PySem.W.nsIn K mainGlobals "LETTERS" = some (some (.str c_LETTERS tL))) (gD : PySem.W.nsIn K mainGlobals "DIGITS" = some (some (.str c_DIGITS tD))) (gN : PySem.W.nsIn K mainGlobals "LONGEST_NAME" = some (some (.int 8 tN)))
    (bindL : ∀ (s : Shared) (v : Value), BindsTo s fd_law ⟨[v], []⟩ [("script", v)]) :
    ∃ fd : FuncData, (∀ (s : Shared) (v : Value), BindsTo s fd ⟨[v], []⟩ [("script", v)]) ∧ ∀ base : Heap, K.In base → base.Ns mainGlobals mg → FnG P w K mg base CX0 5 fa fd ["script"] (spLaw K) := by
  have e := hfa.symm.trans d_law.g
  cases e
  have all : ∀ C ∈ [C_TooMany, C_SyntaxProblem, C_NoStep, C_NotLike, C_NoKind, C_NoLayout, C_NoTree, C_NoRecord, C_NoName, C_NoNumber, C_NoEra, C_NoMark, C_Mismatch, C_InvalidCommand, C_NoRow, C_NoTable], CK K C LE := by
    intro C hC
    simp only [List.mem_cons, List.not_mem_nil, or_false] at hC
    rcases hC with rfl | rfl | rfl | rfl | rfl | rfl | rfl | rfl | rfl | rfl | rfl | rfl | rfl | rfl | rfl | rfl
    · exact k_TooMany
    · exact k_SyntaxProblem
    · exact k_NoStep
    · exact k_NotLike
    · exact k_NoKind
    · exact k_NoLayout
    · exact k_NoTree
    · exact k_NoRecord
    · exact k_NoName
    · exact k_NoNumber
    · exact k_NoEra
    · exact k_NoMark
    · exact k_Mismatch
    · exact k_InvalidCommand
    · exact k_NoRow
    · exact k_NoTable
  obtain ⟨cdL, cLE⟩ := cLE
  let d : XD := { TooMany := ⟨C_TooMany, fI_TooMany, cc_TooMany, cda_TooMany, fd_TooMany⟩, SyntaxProblem := ⟨C_SyntaxProblem, fI_SyntaxProblem, cc_SyntaxProblem, cda_SyntaxProblem, fd_SyntaxProblem⟩, NoStep := ⟨C_NoStep, fI_NoStep, cc_NoStep, cda_NoStep, fd_NoStep⟩, NotLike := ⟨C_NotLike, fI_NotLike, cc_NotLike, cda_NotLike, fd_NotLike⟩, NoRow := ⟨C_NoRow, fI_NoRow, cc_NoRow, cda_NoRow, fd_NoRow⟩, NoTable := ⟨C_NoTable, fI_NoTable, cc_NoTable, cda_NoTable, fd_NoTable⟩, NoKind := C_NoKind, NoLayout := C_NoLayout, NoTree := C_NoTree, NoRecord := C_NoRecord, NoName := C_NoName, NoNumber := C_NoNumber, NoEra := C_NoEra, NoMark := C_NoMark, Mismatch := C_Mismatch, InvalidCommand := C_InvalidCommand, LE := LE }
  have D : XF P K mg d := {
    TooMany := s_TooMany k_TooMany
    SyntaxProblem := s_SyntaxProblem k_SyntaxProblem
    NoStep := s_NoStep k_NoStep
    NotLike := s_NotLike k_NotLike
    NoRow := s_NoRow k_NoRow
    NoTable := s_NoTable k_NoTable
    no_TooMany := no_TooMany_limit
    no_line := no_SyntaxProblem_line
    no_column := no_SyntaxProblem_column
    no_NoStep := no_NoStep_place
    no_NotLike := no_NotLike_answer
    no_NoRow := no_NoRow_place
    no_NoTable := no_NoTable_fault
    NoKind := p_NoKind k_NoKind
    NoLayout := p_NoLayout k_NoLayout
    NoTree := p_NoTree k_NoTree
    NoRecord := p_NoRecord k_NoRecord
    NoName := p_NoName k_NoName
    NoNumber := p_NoNumber k_NoNumber
    NoEra := p_NoEra k_NoEra
    NoMark := p_NoMark k_NoMark
    Mismatch := p_Mismatch k_Mismatch
    InvalidCommand := p_InvalidCommand k_InvalidCommand
    gLE := PySem.W.mg_of X G gLE
    exc := fun C hC => (all C hC).exc hn ht
    kit := kits_of all nd
    kitL := fun C hC => (kit_to (all C hC) cLE tLE).trans (by rw [decide_eq_true (rfl : LE = LE), Bool.or_true])
    kitV := fun C hC => kit_V (all C hC) }
  refine ⟨fd_law, bindL, fun base _ _ => ?_⟩
  have TD : TxtD mg := { n_int := (PySem.W.mg_none_of X G n_int), n_range := (PySem.W.mg_none_of X G n_range), n_abs := (PySem.W.mg_none_of X G n_abs), n_enumerate := (PySem.W.mg_none_of X G n_enumerate), n_len := (PySem.W.mg_none_of X G n_len) }
  have TN : TxtN mg tL tD tN := { n_isinstance := (PySem.W.mg_none_of X G n_isinstance), n_str := (PySem.W.mg_none_of X G n_str), n_int := (PySem.W.mg_none_of X G n_int), n_bool := (PySem.W.mg_none_of X G n_bool), n_len := (PySem.W.mg_none_of X G n_len), n_all := (PySem.W.mg_none_of X G n_all), g_LETTERS := PySem.W.mg_of X G gL, g_DIGITS := PySem.W.mg_of X G gD, g_LONGEST_NAME := PySem.W.mg_of X G gN }
  have TI : TxtI mg := { n_isinstance := (PySem.W.mg_none_of X G n_isinstance), n_len := (PySem.W.mg_none_of X G n_len), n_repr := (PySem.W.mg_none_of X G n_repr), n_enumerate := (PySem.W.mg_none_of X G n_enumerate), n_range := (PySem.W.mg_none_of X G n_range), n_ValueError := (PySem.W.mg_none_of X G n_ValueError), n_int := (PySem.W.mg_none_of X G n_int), n_bool := (PySem.W.mg_none_of X G n_bool) }
  have TW : TxtW mg := { n_list := (PySem.W.mg_none_of X G n_list), n_range := (PySem.W.mg_none_of X G n_range), n_len := (PySem.W.mg_none_of X G n_len) }
  have G1 := ok_pot_of (P := P) (w := w) (base := base) (k := 0) d_law_pot_of.F TD
  have G0 := ok_kneaded (P := P) (w := w) (base := base) (k := 0) d_law_kneaded.F TD
  have G2 := ok_below (P := P) (w := w) (base := base) (k := 0) d_law_below.F TD d_law_kneaded.F b_law_kneaded d_law_kneaded.g
  have GP := ok_pick (P := P) (w := w) (base := base) (k := 0) d_law_pick.F TD d_law_below.F b_law_below d_law_below.g G2
  have G3 := ok_made (w := w) (base := base) (k := 0) d_law_made.F D
  have G4 := ok_classes (w := w) (base := base) (k := 0) d_law_classes.F D TI
  have G5 := ok_words (P := P) (w := w) (base := base) (k := 0) d_law_words.F TW d_law_below.F b_law_below d_law_below.g G2 d_law_pick.F b_law_pick d_law_pick.g GP
  have G6 := ok_is_name (P := P) (w := w) (base := base) (k := 0) d_is_name.F TN
  have G7 := ok_is_named (P := P) (w := w) (base := base) (k := 0) d_law_is_named.F TN
  have G8 := ok_is_integer (P := P) (w := w) (base := base) (k := 0) d_is_integer.F TN
  exact go_law d_law.F D TI ⟨d_law_pot_of.F, b_law_pot_of, d_law_pot_of.g, G1⟩ ⟨d_law_below.F, b_law_below, d_law_below.g, G2⟩ ⟨d_law_made.F, b_law_made, d_law_made.g, G3⟩ ⟨d_law_classes.F, b_law_classes, d_law_classes.g, G4⟩ ⟨d_law_words.F, b_law_words, d_law_words.g, G5⟩ ⟨d_is_name.F, b_is_name, d_is_name.g, G6⟩ ⟨d_law_is_named.F, b_law_is_named, d_law_is_named.g, G7⟩ ⟨d_is_integer.F, b_is_integer, d_is_integer.g, G8⟩
end
end My

open PySem PySem.W PyProof.Rows
theorem PySem.Challenge.cw_layoutswap_k01_errors_and_names_holds : PySem.Challenge.rw_layoutswap_k01_errors_and_names.Holds := by
  w_on; o_law; k_head; (case hw => w_witness2)
  k_fill
  refine My.walk_ofG (l := PySem.Challenge.rw_layoutswap_k01_errors_and_names) (n := 63) (k := 5) (x := "script") (sp := My.spLaw) rfl (by decide) rfl ⟨rfl, by decide, by decide⟩ (fun w h Y => PySem.W.kIn_of Y) ?F (fun K H a ns hl hS => ⟨a, ns, rfl, hS, Nat.le_trans hl (by decide), fun _ => rfl⟩)
  case F =>
    intro w mg fa h KX G hmg
    refine' My.all_mk KX G hmg ?g_TooMany ?g_SyntaxProblem ?g_NoStep ?g_NotLike ?g_NoKind ?g_NoLayout ?g_NoTree ?g_NoRecord ?g_NoName ?g_NoNumber ?g_NoEra ?g_NoMark ?g_Mismatch ?g_InvalidCommand ?g_NoRow ?g_NoTable ?k_TooMany ?k_SyntaxProblem ?k_NoStep ?k_NotLike ?k_NoKind ?k_NoLayout ?k_NoTree ?k_NoRecord ?k_NoName ?k_NoNumber ?k_NoEra ?k_NoMark ?k_Mismatch ?k_InvalidCommand ?k_NoRow ?k_NoTable ?s_TooMany ?s_SyntaxProblem ?s_NoStep ?s_NotLike ?s_NoRow ?s_NoTable ?no_TooMany_limit ?no_SyntaxProblem_line ?no_SyntaxProblem_column ?no_NoStep_place ?no_NotLike_answer ?no_NoRow_place ?no_NoTable_fault ?p_NoKind ?p_NoLayout ?p_NoTree ?p_NoRecord ?p_NoName ?p_NoNumber ?p_NoEra ?p_NoMark ?p_Mismatch ?p_InvalidCommand ?gLE ?cLE ?tLE ?hn ?ht ?nd ?d_law_kneaded ?d_law_pot_of ?d_law_below ?d_law_pick ?d_law_made ?d_law_classes ?d_law_words ?d_is_name ?d_law_is_named ?d_is_integer ?d_law ?b_law_kneaded ?b_law_pot_of ?b_law_below ?b_law_pick ?b_law_made ?b_law_classes ?b_law_words ?b_is_name ?b_law_is_named ?b_is_integer ?b_law ?n_int ?n_range ?n_abs ?n_enumerate ?n_len ?n_isinstance ?n_str ?n_bool ?n_all ?n_list ?n_repr ?n_ValueError ?gL ?gD ?gN ?bindL
    (case g_TooMany => k_is)
    (case g_SyntaxProblem => k_is)
    (case g_NoStep => k_is)
    (case g_NotLike => k_is)
    (case g_NoKind => k_is)
    (case g_NoLayout => k_is)
    (case g_NoTree => k_is)
    (case g_NoRecord => k_is)
    (case g_NoName => k_is)
    (case g_NoNumber => k_is)
    (case g_NoEra => k_is)
    (case g_NoMark => k_is)
    (case g_Mismatch => k_is)
    (case g_InvalidCommand => k_is)
    (case g_NoRow => k_is)
    (case g_NoTable => k_is)
    (case gLE => k_is); (case cLE => (refine' My.some_cls ?zzm; (case zzm => k_is))); (case tLE => k_is); (case hn => k_is); (case ht => k_is); (case nd => decide)
    (case k_TooMany => (refine' My.ck_mk ?zzm ?zzr ?zzt ?zzk ?zzhg ?zzhk ?zzhd ?zzha; (case zzm => k_is); (case zzr => exact rfl); (case zzt => k_is); (case zzk => k_is); (case zzhg => k_is); (case zzhk => k_is); (case zzhd => k_is); (case zzha => k_is)))
    (case k_SyntaxProblem => (refine' My.ck_mk ?zzm ?zzr ?zzt ?zzk ?zzhg ?zzhk ?zzhd ?zzha; (case zzm => k_is); (case zzr => exact rfl); (case zzt => k_is); (case zzk => k_is); (case zzhg => k_is); (case zzhk => k_is); (case zzhd => k_is); (case zzha => k_is)))
    (case k_NoStep => (refine' My.ck_mk ?zzm ?zzr ?zzt ?zzk ?zzhg ?zzhk ?zzhd ?zzha; (case zzm => k_is); (case zzr => exact rfl); (case zzt => k_is); (case zzk => k_is); (case zzhg => k_is); (case zzhk => k_is); (case zzhd => k_is); (case zzha => k_is)))
    (case k_NotLike => (refine' My.ck_mk ?zzm ?zzr ?zzt ?zzk ?zzhg ?zzhk ?zzhd ?zzha; (case zzm => k_is); (case zzr => exact rfl); (case zzt => k_is); (case zzk => k_is); (case zzhg => k_is); (case zzhk => k_is); (case zzhd => k_is); (case zzha => k_is)))
    (case k_NoKind => (refine' My.ck_mk ?zzm ?zzr ?zzt ?zzk ?zzhg ?zzhk ?zzhd ?zzha; (case zzm => k_is); (case zzr => exact rfl); (case zzt => k_is); (case zzk => k_is); (case zzhg => k_is); (case zzhk => k_is); (case zzhd => k_is); (case zzha => k_is)))
    (case k_NoLayout => (refine' My.ck_mk ?zzm ?zzr ?zzt ?zzk ?zzhg ?zzhk ?zzhd ?zzha; (case zzm => k_is); (case zzr => exact rfl); (case zzt => k_is); (case zzk => k_is); (case zzhg => k_is); (case zzhk => k_is); (case zzhd => k_is); (case zzha => k_is)))
    (case k_NoTree => (refine' My.ck_mk ?zzm ?zzr ?zzt ?zzk ?zzhg ?zzhk ?zzhd ?zzha; (case zzm => k_is); (case zzr => exact rfl); (case zzt => k_is); (case zzk => k_is); (case zzhg => k_is); (case zzhk => k_is); (case zzhd => k_is); (case zzha => k_is)))
    (case k_NoRecord => (refine' My.ck_mk ?zzm ?zzr ?zzt ?zzk ?zzhg ?zzhk ?zzhd ?zzha; (case zzm => k_is); (case zzr => exact rfl); (case zzt => k_is); (case zzk => k_is); (case zzhg => k_is); (case zzhk => k_is); (case zzhd => k_is); (case zzha => k_is)))
    (case k_NoName => (refine' My.ck_mk ?zzm ?zzr ?zzt ?zzk ?zzhg ?zzhk ?zzhd ?zzha; (case zzm => k_is); (case zzr => exact rfl); (case zzt => k_is); (case zzk => k_is); (case zzhg => k_is); (case zzhk => k_is); (case zzhd => k_is); (case zzha => k_is)))
    (case k_NoNumber => (refine' My.ck_mk ?zzm ?zzr ?zzt ?zzk ?zzhg ?zzhk ?zzhd ?zzha; (case zzm => k_is); (case zzr => exact rfl); (case zzt => k_is); (case zzk => k_is); (case zzhg => k_is); (case zzhk => k_is); (case zzhd => k_is); (case zzha => k_is)))
    (case k_NoEra => (refine' My.ck_mk ?zzm ?zzr ?zzt ?zzk ?zzhg ?zzhk ?zzhd ?zzha; (case zzm => k_is); (case zzr => exact rfl); (case zzt => k_is); (case zzk => k_is); (case zzhg => k_is); (case zzhk => k_is); (case zzhd => k_is); (case zzha => k_is)))
    (case k_NoMark => (refine' My.ck_mk ?zzm ?zzr ?zzt ?zzk ?zzhg ?zzhk ?zzhd ?zzha; (case zzm => k_is); (case zzr => exact rfl); (case zzt => k_is); (case zzk => k_is); (case zzhg => k_is); (case zzhk => k_is); (case zzhd => k_is); (case zzha => k_is)))
    (case k_Mismatch => (refine' My.ck_mk ?zzm ?zzr ?zzt ?zzk ?zzhg ?zzhk ?zzhd ?zzha; (case zzm => k_is); (case zzr => exact rfl); (case zzt => k_is); (case zzk => k_is); (case zzhg => k_is); (case zzhk => k_is); (case zzhd => k_is); (case zzha => k_is)))
    (case k_InvalidCommand => (refine' My.ck_mk ?zzm ?zzr ?zzt ?zzk ?zzhg ?zzhk ?zzhd ?zzha; (case zzm => k_is); (case zzr => exact rfl); (case zzt => k_is); (case zzk => k_is); (case zzhg => k_is); (case zzhk => k_is); (case zzhd => k_is); (case zzha => k_is)))
    (case k_NoRow => (refine' My.ck_mk ?zzm ?zzr ?zzt ?zzk ?zzhg ?zzhk ?zzhd ?zzha; (case zzm => k_is); (case zzr => exact rfl); (case zzt => k_is); (case zzk => k_is); (case zzhg => k_is); (case zzhk => k_is); (case zzhd => k_is); (case zzha => k_is)))
    (case k_NoTable => (refine' My.ck_mk ?zzm ?zzr ?zzt ?zzk ?zzhg ?zzhk ?zzhd ?zzha; (case zzm => k_is); (case zzr => exact rfl); (case zzt => k_is); (case zzk => k_is); (case zzhg => k_is); (case zzhk => k_is); (case zzhd => k_is); (case zzha => k_is)))
    (case s_TooMany => (intro c; refine' My.sup_mk KX G c ?zzgC ?zzlC ?zzrv ?zzsa ?zziC ?zztI ?zzlI ?zzcdq ?zzlc ?zzhv ?zzhf ?zzlcc ?zznoS ?zzanyC ?zzsupI ?zznoTop; (case zzgC => k_is); (case zzlC => k_is); (case zzrv => decide +kernel); (case zzsa => k_is); (case zziC => k_is); (case zztI => k_is); (case zzlI => k_is); (case zzcdq => k_is); (case zzlc => k_is); (case zzhv => exact rfl); (case zzhf => decide +kernel); (case zzlcc => k_is); (case zznoS => k_is); (case zzanyC => k_is); (case zzsupI => ks_is); (case zznoTop => decide +kernel)))
    (case no_TooMany_limit => k_is)
    (case s_SyntaxProblem => (intro c; refine' My.sup_mk KX G c ?zzgC ?zzlC ?zzrv ?zzsa ?zziC ?zztI ?zzlI ?zzcdq ?zzlc ?zzhv ?zzhf ?zzlcc ?zznoS ?zzanyC ?zzsupI ?zznoTop; (case zzgC => k_is); (case zzlC => k_is); (case zzrv => decide +kernel); (case zzsa => k_is); (case zziC => k_is); (case zztI => k_is); (case zzlI => k_is); (case zzcdq => k_is); (case zzlc => k_is); (case zzhv => exact rfl); (case zzhf => decide +kernel); (case zzlcc => k_is); (case zznoS => k_is); (case zzanyC => k_is); (case zzsupI => ks_is); (case zznoTop => decide +kernel)))
    (case no_SyntaxProblem_line => k_is)
    (case no_SyntaxProblem_column => k_is)
    (case s_NoStep => (intro c; refine' My.sup_mk KX G c ?zzgC ?zzlC ?zzrv ?zzsa ?zziC ?zztI ?zzlI ?zzcdq ?zzlc ?zzhv ?zzhf ?zzlcc ?zznoS ?zzanyC ?zzsupI ?zznoTop; (case zzgC => k_is); (case zzlC => k_is); (case zzrv => decide +kernel); (case zzsa => k_is); (case zziC => k_is); (case zztI => k_is); (case zzlI => k_is); (case zzcdq => k_is); (case zzlc => k_is); (case zzhv => exact rfl); (case zzhf => decide +kernel); (case zzlcc => k_is); (case zznoS => k_is); (case zzanyC => k_is); (case zzsupI => ks_is); (case zznoTop => decide +kernel)))
    (case no_NoStep_place => k_is)
    (case s_NotLike => (intro c; refine' My.sup_mk KX G c ?zzgC ?zzlC ?zzrv ?zzsa ?zziC ?zztI ?zzlI ?zzcdq ?zzlc ?zzhv ?zzhf ?zzlcc ?zznoS ?zzanyC ?zzsupI ?zznoTop; (case zzgC => k_is); (case zzlC => k_is); (case zzrv => decide +kernel); (case zzsa => k_is); (case zziC => k_is); (case zztI => k_is); (case zzlI => k_is); (case zzcdq => k_is); (case zzlc => k_is); (case zzhv => exact rfl); (case zzhf => decide +kernel); (case zzlcc => k_is); (case zznoS => k_is); (case zzanyC => k_is); (case zzsupI => ks_is); (case zznoTop => decide +kernel)))
    (case no_NotLike_answer => k_is)
    (case s_NoRow => (intro c; refine' My.sup_mk KX G c ?zzgC ?zzlC ?zzrv ?zzsa ?zziC ?zztI ?zzlI ?zzcdq ?zzlc ?zzhv ?zzhf ?zzlcc ?zznoS ?zzanyC ?zzsupI ?zznoTop; (case zzgC => k_is); (case zzlC => k_is); (case zzrv => decide +kernel); (case zzsa => k_is); (case zziC => k_is); (case zztI => k_is); (case zzlI => k_is); (case zzcdq => k_is); (case zzlc => k_is); (case zzhv => exact rfl); (case zzhf => decide +kernel); (case zzlcc => k_is); (case zznoS => k_is); (case zzanyC => k_is); (case zzsupI => ks_is); (case zznoTop => decide +kernel)))
    (case no_NoRow_place => k_is)
    (case s_NoTable => (intro c; refine' My.sup_mk KX G c ?zzgC ?zzlC ?zzrv ?zzsa ?zziC ?zztI ?zzlI ?zzcdq ?zzlc ?zzhv ?zzhf ?zzlcc ?zznoS ?zzanyC ?zzsupI ?zznoTop; (case zzgC => k_is); (case zzlC => k_is); (case zzrv => decide +kernel); (case zzsa => k_is); (case zziC => k_is); (case zztI => k_is); (case zzlI => k_is); (case zzcdq => k_is); (case zzlc => k_is); (case zzhv => exact rfl); (case zzhf => decide +kernel); (case zzlcc => k_is); (case zznoS => k_is); (case zzanyC => k_is); (case zzsupI => ks_is); (case zznoTop => decide +kernel)))
    (case no_NoTable_fault => k_is)
    (case p_NoKind => (intro c; refine' My.plain_mk KX G c ?zzgC ?zzq; (case zzgC => k_is); (case zzq => k_exc)))
    (case p_NoLayout => (intro c; refine' My.plain_mk KX G c ?zzgC ?zzq; (case zzgC => k_is); (case zzq => k_exc)))
    (case p_NoTree => (intro c; refine' My.plain_mk KX G c ?zzgC ?zzq; (case zzgC => k_is); (case zzq => k_exc)))
    (case p_NoRecord => (intro c; refine' My.plain_mk KX G c ?zzgC ?zzq; (case zzgC => k_is); (case zzq => k_exc)))
    (case p_NoName => (intro c; refine' My.plain_mk KX G c ?zzgC ?zzq; (case zzgC => k_is); (case zzq => k_exc)))
    (case p_NoNumber => (intro c; refine' My.plain_mk KX G c ?zzgC ?zzq; (case zzgC => k_is); (case zzq => k_exc)))
    (case p_NoEra => (intro c; refine' My.plain_mk KX G c ?zzgC ?zzq; (case zzgC => k_is); (case zzq => k_exc)))
    (case p_NoMark => (intro c; refine' My.plain_mk KX G c ?zzgC ?zzq; (case zzgC => k_is); (case zzq => k_exc)))
    (case p_Mismatch => (intro c; refine' My.plain_mk KX G c ?zzgC ?zzq; (case zzgC => k_is); (case zzq => k_exc)))
    (case p_InvalidCommand => (intro c; refine' My.plain_mk KX G c ?zzgC ?zzq; (case zzgC => k_is); (case zzq => k_exc)))
    (case d_law_kneaded => (refine' My.def_mk KX G ?zzg ?zzl ?zzc ?zzk; (case zzg => k_is); (case zzl => k_is); (case zzc => k_is); (case zzk => k_is)))
    (case d_law_pot_of => (refine' My.def_mk KX G ?zzg ?zzl ?zzc ?zzk; (case zzg => k_is); (case zzl => k_is); (case zzc => k_is); (case zzk => k_is)))
    (case d_law_below => (refine' My.def_mk KX G ?zzg ?zzl ?zzc ?zzk; (case zzg => k_is); (case zzl => k_is); (case zzc => k_is); (case zzk => k_is)))
    (case d_law_pick => (refine' My.def_mk KX G ?zzg ?zzl ?zzc ?zzk; (case zzg => k_is); (case zzl => k_is); (case zzc => k_is); (case zzk => k_is)))
    (case d_law_made => (refine' My.def_mk KX G ?zzg ?zzl ?zzc ?zzk; (case zzg => k_is); (case zzl => k_is); (case zzc => k_is); (case zzk => k_is)))
    (case d_law_classes => (refine' My.def_mk KX G ?zzg ?zzl ?zzc ?zzk; (case zzg => k_is); (case zzl => k_is); (case zzc => k_is); (case zzk => k_is)))
    (case d_law_words => (refine' My.def_mk KX G ?zzg ?zzl ?zzc ?zzk; (case zzg => k_is); (case zzl => k_is); (case zzc => k_is); (case zzk => k_is)))
    (case d_is_name => (refine' My.def_mk KX G ?zzg ?zzl ?zzc ?zzk; (case zzg => k_is); (case zzl => k_is); (case zzc => k_is); (case zzk => k_is)))
    (case d_law_is_named => (refine' My.def_mk KX G ?zzg ?zzl ?zzc ?zzk; (case zzg => k_is); (case zzl => k_is); (case zzc => k_is); (case zzk => k_is)))
    (case d_is_integer => (refine' My.def_mk KX G ?zzg ?zzl ?zzc ?zzk; (case zzg => k_is); (case zzl => k_is); (case zzc => k_is); (case zzk => k_is)))
    (case d_law => (refine' My.def_mk KX G ?zzg ?zzl ?zzc ?zzk; (case zzg => k_is); (case zzl => k_is); (case zzc => k_is); (case zzk => k_is)))
    (case b_law_kneaded => exact .all fun us hl => match us, hl with | [_, _], _ => rfl)
    (case b_law_pot_of => exact .all fun us hl => match us, hl with | [_], _ => rfl)
    (case b_law_below => exact .all fun us hl => match us, hl with | [_, _], _ => rfl)
    (case b_law_pick => exact .all fun us hl => match us, hl with | [_, _], _ => rfl)
    (case b_law_made => exact .all fun us hl => match us, hl with | [_, _], _ => rfl)
    (case b_law_classes => exact .all fun us hl => match us, hl with | [_], _ => rfl)
    (case b_law_words => exact .all fun us hl => match us, hl with | [_], _ => rfl)
    (case b_is_name => exact .all fun us hl => match us, hl with | [_], _ => rfl)
    (case b_law_is_named => exact .all fun us hl => match us, hl with | [_], _ => rfl)
    (case b_is_integer => exact .all fun us hl => match us, hl with | [_], _ => rfl)
    (case b_law => exact .all fun us hl => match us, hl with | [_], _ => rfl)
    (case n_int => k_is); (case n_range => k_is); (case n_abs => k_is); (case n_enumerate => k_is); (case n_len => k_is); (case n_isinstance => k_is); (case n_str => k_is); (case n_bool => k_is); (case n_all => k_is); (case n_list => k_is); (case n_repr => k_is); (case n_ValueError => k_is)
    (case gL => k_is); (case gD => k_is); (case gN => k_is); (case bindL => exact fun s v => .of_eq rfl)
