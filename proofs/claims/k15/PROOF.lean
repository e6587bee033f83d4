import PyProof.Rows.All
import Wide.All
import OpenK.AllK
import Wide.FinOn
import HandS.ForMost
import HandS.Walk
import HandS.IsInst
import HandS.Codes
import HandS.Wide
import HandS.Exc
import HandS.ExcInit
import HandS.ExcIs
import HandS.ExcOwn
import HandS.ExcValue
import HandS.FStr
import KE.KExcSuper
import HandS.TryMany
import HandS.Strs
import HandS.Dict
import KE.KDictPairs
import HandS.Style
import HandS.TupAny
import KE.KRevSl
import HandS.TupMul
import HandS.Deep
import HandS.ForExc
import HandS.WordsExc
import HandS.ExcField
import PyProof.StrLawsRepr
import HandS.Star
import HandS.SlotsOwn
import HandS.Property
import HandS.ClsMeth
import HandS.Flt
import KE.KTupSum
import KE.KTupTruth
import KE.KOpsOwn
import KE.DataCmp
import KE.KFmtOwn
import PyProof.FactsAll.object_2
import HandS.TupLe
import HandS.Iter
import PyProof.EnumMake
import KE.GoesMore
import KE.GoesEnum
import HandS.SetFor
import HandS.RevRange
import HandS.Conv
import HandS.Gcd
import PyProof.TwoTypes
import PyProof.FactsAll.int
import PyProof.AutoListH
import PyProof.ListMulRoad
import PySem.Challenge.RW_layoutswap_k15_multiples
set_option Elab.async false
set_option linter.all false
set_option maxRecDepth 100000
set_option maxHeartbeats 0
namespace My
open PySem PySem.Spec PyProof.Rows L2
/-! ### the text by places -/
def topS (i : Nat) : Stmt := PySem.Challenge.pw_layoutswap_k15_multiples.main.body.getD i (.Pass ⟨0, 0, 0, 0⟩)
abbrev s_law_kneaded : Stmt := topS 52
theorem sc_law_kneaded : FnScope ["seed", "lap", "prime", "amount", "again"] ["seed", "lap"] (defScope s_law_kneaded) := ⟨rfl, rfl, rfl, by decide +kernel, rfl, by decide +kernel, by decide +kernel⟩
abbrev s_law_pot_of : Stmt := topS 53
theorem sc_law_pot_of : FnScope ["script", "cell", "cells", "place"] ["script"] (defScope s_law_pot_of) := ⟨rfl, rfl, rfl, by decide +kernel, rfl, by decide +kernel, by decide +kernel⟩
abbrev s_law_below : Stmt := topS 54
theorem sc_law_below : FnScope ["pot", "bound", "cells", "place", "amount", "found"] ["pot", "bound"] (defScope s_law_below) := ⟨rfl, rfl, rfl, by decide +kernel, rfl, by decide +kernel, by decide +kernel⟩
abbrev s_law_pick : Stmt := topS 55
theorem sc_law_pick : FnScope ["pot", "items"] ["pot", "items"] (defScope s_law_pick) := ⟨rfl, rfl, rfl, by decide +kernel, rfl, by decide +kernel, by decide +kernel⟩
/-! ### heaps -/
/-- all that was tracked is as it was, but what stands at p -/
def But (p : Addr) (H H' : Hp) : Prop := (∀ b o, H b = some o → b ≠ p → H' b = some o) ∧ H' p ≠ none
theorem But.trans {p : Addr} {H H1 H2 : Hp} (a : But p H H1) (b : But p H1 H2) : But p H H2 := ⟨fun c o e n => b.1 c o (a.1 c o e n) n, b.2⟩
theorem But.free {p : Addr} {H H' : Hp} (a : But p H H') {q : Addr} (h : H' q = none) : H q = none := by
  cases e : H q with
  | none => rfl
  | some o =>
    by_cases n : q = p
    · subst n
      exact absurd h a.2
    · rw [a.1 q o e n] at h
      cases h
theorem But.same {p : Addr} {H H1 H2 : Hp} (a : But p H H1) (b : Same H1 H2) : But p H H2 := ⟨fun c o e n => b c o (a.1 c o e n), fun z => by
  cases e : H1 p with
  | none => exact a.2 e
  | some o =>
    rw [b p o e] at z
    cases z⟩
theorem But.of {p : Addr} {H H1 : Hp} {o : HO} (h : H1 p = some o) (b : Same H H1) : But p H H1 := ⟨fun c o e n => b c o e, fun z => by
  rw [h] at z
  cases z⟩
theorem same_upd {H : Hp} {p : Addr} {o : HO} (h : H p = none) : Same H (upd H p o) := fun b x e => by
  rw [upd_ne (ne_of_none e h)]
  exact e
theorem but_upd {H : Hp} {p : Addr} {o : HO} : But p H (upd H p o) := ⟨fun b x e n => by
  rw [upd_ne n]
  exact e, fun z => by
  rw [upd_same] at z
  cases z⟩
/-- a pot at p, its cells at c -/
def Pot (H : Hp) (p c : Addr) : Prop := ∃ (ns : List Int) (pl am sz : Int), H p = some (.lst [.ref c, .int pl, .int am, .int sz]) ∧ H c = some (.lst (ns.map V.int)) ∧ ns.length ≤ 17
theorem pot_ne {H : Hp} {p c : Addr} {ns : List Int} {r : List V} (hp : H p = some (.lst (.ref c :: r))) (hc : H c = some (.lst (ns.map V.int))) : c ≠ p := fun z => by
  rw [z, hp] at hc
  cases ns with
  | nil => cases hc
  | cons x s => cases hc
theorem Pot.same {H H' : Hp} {p c : Addr} (h : Pot H p c) (s : Same H H') : Pot H' p c := by
  obtain ⟨ns, pl, am, sz, h1, h2, h3⟩ := h
  exact ⟨ns, pl, am, sz, s _ _ h1, s _ _ h2, h3⟩
theorem Pot.but {H H' : Hp} {p c q : Addr} (h : Pot H p c) (s : But q H H') (n1 : p ≠ q) (n2 : c ≠ q) : Pot H' p c := by
  obtain ⟨ns, pl, am, sz, h1, h2, h3⟩ := h
  exact ⟨ns, pl, am, sz, s.1 _ _ h1 n1, s.1 _ _ h2 n2, h3⟩
theorem at4 {x0 x1 x2 x3 : V} : atI [x0, x1, x2, x3] 0 = some x0 ∧ atI [x0, x1, x2, x3] 1 = some x1 ∧ atI [x0, x1, x2, x3] 2 = some x2 ∧ atI [x0, x1, x2, x3] 3 = some x3 := ⟨rfl, rfl, rfl, rfl⟩
theorem fmod_range {i j : Int} (h : 0 < j) : 0 ≤ i % j ∧ i % j < j := ⟨Int.emod_nonneg _ (by omega), Int.emod_lt_of_pos _ h⟩
theorem at_mod {ns : List Int} {pl : Int} (h : ns ≠ []) : ∃ z, atI (ns.map V.int) (pl % (ns.length : Int)) = some (.int z) := by
  have hl : 0 < ns.length := by
    cases ns with
    | nil => exact absurd rfl h
    | cons => exact Nat.succ_pos _
  have a := fmod_range (i := pl) (j := (ns.length : Int)) (by omega)
  obtain ⟨j, hj⟩ : ∃ j : Nat, pl % (ns.length : Int) = (j : Int) := ⟨(pl % (ns.length : Int)).toNat, by omega⟩
  have hjl : j < ns.length := by omega
  refine ⟨ns[j], ?_⟩
  rw [hj]
  refine atI_nat ?_
  rw [List.getElem?_map, List.getElem?_eq_getElem hjl]
  rfl
/-! ### data: lists of ints, of texts -/
theorem dp_ints {K : PySem.W.Frag} {H : Hp} : ∀ ns : List Int, DpAll K H (ns.map V.int) (ns.map PyData.int)
  | [] => .nil
  | n :: r => .cons (.int n) (dp_ints r)
theorem lay_ints : ∀ ns : List Int, PyData.canLayAll0 (ns.map PyData.int) = true
  | [] => by simp [PyData.canLayAll0]
  | n :: r => by simp [PyData.canLayAll0, PyData.canLay0, lay_ints r]
theorem dep_ints : ∀ ns : List Int, PyData.depthAll (ns.map PyData.int) ≤ 1
  | [] => by simp [PyData.depthAll]
  | n :: r => by
    have h := dep_ints r
    simp only [List.map_cons, PyData.depthAll, PyData.depth]
    omega
theorem sh_of {d : PyData} (h1 : d.canLay0 = true) (h2 : d.depth ≤ 64) : SeqAt.shaped d = true := by
  show (d.canLay0 && decide (d.depth ≤ 64)) = true
  rw [h1, decide_eq_true h2]
  rfl
theorem sh_ints (ns : List Int) : SeqAt.shaped (.list (ns.map PyData.int)) = true := by
  have h := dep_ints ns
  exact sh_of (by simp only [PyData.canLay0]; exact lay_ints ns) (by simp only [PyData.depth]; omega)
theorem sh_nil : SeqAt.shaped (.list []) = true := sh_of (by simp [PyData.canLay0, PyData.canLayAll0]) (by simp [PyData.depth, PyData.depthAll])
theorem eqv_nil : ∀ ds : List PyData, PyData.eqv (.list ds) (.list []) = decide (ds = [])
  | [] => by simp [PyData.eqv, PyData.eqvAll]
  | _ :: _ => by simp [PyData.eqv, PyData.eqvAll]
theorem pos17 : (0 : Int) < 17 := by decide
theorem posQ : (0 : Int) < 982451629 := by decide
theorem div64 {i j : Int} (h : 0 < j) (h1 : j < 18446744073709551616) : CDivW i j := wide_div (b := 65) h (by omega) (by decide) (by decide)
theorem posP : (0 : Int) < 2305843009213693907 := by decide
/-! ### what the module holds -/
structure TxtD (mg : Str → Option Value) : Prop where
  n_int : mg "int" = none
  n_range : mg "range" = none
  n_abs : mg "abs" = none
  n_enumerate : mg "enumerate" = none
  n_len : mg "len" = none
/-! ### promises -/
def spKneaded : Sp := fun vs H Q _ => ∃ (a b : Int), vs = [.int a, .int b] ∧ ∀ v, Q (.int v) H
def spPotOf (K : PySem.W.Frag) : Sp := fun vs H Q _ => ∃ (a : Addr) (ns : List Int), vs = [.ref a] ∧ SqL K H a (ns.map V.int) ∧ ns.length ≤ 63 ∧ ∀ p c H', Same H H' → H p = none → H c = none → Pot H' p c → Q (.ref p) H'
def spBelow : Sp := fun vs H Q _ => ∃ (p c : Addr) (b : Int), vs = [.ref p, .int b] ∧ Pot H p c ∧ 0 < b ∧ b < 18446744073709551616 ∧ ∀ v H', 0 ≤ v → v < b → Pot H' p c → But p H H' → Q (.int v) H'
def spPick (K : PySem.W.Frag) : Sp := fun vs H Q _ => ∃ (p c l : Addr) (xs : List V), vs = [.ref p, .ref l] ∧ Pot H p c ∧ SqL K H l xs ∧ xs ≠ [] ∧ xs.length < 1073741824 ∧ (∀ H', But p H H' → SqL K H' l xs) ∧ ∀ v H', v ∈ xs → Pot H' p c → But p H H' → Q v H'
section
variable {P : Program} {w : World} {K : PySem.W.Frag} {mg : Str → Option Value} {base : Heap}
theorem ok_kneaded {f : Addr} {fd : FuncData} {k : Nat} (F : Fun K "_law_kneaded" "_law_kneaded" s_law_kneaded f fd) (T : TxtD mg) : FnOk P w K mg base CX0 (k + 1) f fd ["seed", "lap"] spKneaded := by
  refine F.ok sc_law_kneaded (fun vs H Q E h => ?_) (fun cdv A outer s H vs Q E hr h => ?_)
  · obtain ⟨a, b, rfl, _⟩ := h
    rfl
  · obtain ⟨a, b, rfl, q⟩ := h
    refine ⟨_, (pss_cons (ps_set (i := 2) sc_law_kneaded.nd rfl (.inl rfl) pe_int)
  (pss_cons (ps_set (i := 3) sc_law_kneaded.nd rfl (.inl rfl) (pe_op op_mod (pe_callTy call_int1 (by rfl) T.n_int (by decide +kernel) (pa_cons (pe_op op_add (pe_op op_add (pe_op op_mul (pv 0) pe_int) (pe_op op_mul (pv 1) pe_int)) pe_int) pa_nil)) (pv 2)))
  (pss_cons (ps_for PassesOwn.never rfl (pi_range1 (by rfl) T.n_range (pa_cons pe_int pa_nil)) (pg_name (i := 4) sc_law_kneaded.nd rfl (.inl rfl))
   (pss_one (ps_set (i := 3) sc_law_kneaded.nd rfl (.inl rfl) (pe_op op_mod (pe_callTy call_int1 (by rfl) T.n_int (by decide +kernel) (pa_cons (pe_op op_add (pe_op op_add (pe_op op_add (pe_op op_mul (pv 3) (pv 3)) (pe_op op_mul pe_int (pv 3))) (pe_op op_mul pe_int (pv 4))) (pv 1)) pa_nil)) (pv 2)))))
  (pss_one (ps_ret (pe_op op_add (pe_op op_mul (pv 3) (pv 2)) (pe_op op_mod (pe_callTy call_int1 (by rfl) T.n_int (by decide +kernel) (pa_cons (pe_op op_add (pe_op op_mul (pv 3) pe_int) (pv 1)) pa_nil)) (pv 2)))))))), ?_⟩
    -- prime = ..; amount = ..
    refine ⟨_, rfl, _, _, rfl, rfl, .inr ⟨by decide, by decide⟩, _, rfl, _, _, rfl, rfl, .inr ⟨by decide, by decide⟩, _, _, rfl, rfl, _, _, rfl, rfl, .inl ⟨_, rfl, _, rfl, _, _, rfl, rfl, posP, ?_⟩⟩
    refine ⟨4, rfl, by decide, by decide, for_range (n := 4) (fun i σ H2 => H2 = H ∧ ∃ (am : Int) (v : Option V), σ = [some (.int a), some (.int b), some (.int 2305843009213693907), some (.int am), v] ∧ 0 ≤ am ∧ am < 2305843009213693907)
      ⟨rfl, _, none, rfl, (fmod_range (by decide)).1, (fmod_range (by decide)).2⟩ ?_ ?_⟩
    · rintro i σ H2 hi ⟨rfl, am, v, rfl, h1, h2⟩
      refine ⟨_, rfl, _, rfl, _, _, rfl, rfl, .inl ⟨by omega, by omega⟩, _, rfl, _, _, rfl, rfl, .inl ⟨by decide, by decide⟩, _, _, rfl, rfl, _, rfl, _, _, rfl, rfl, .inl ⟨by decide, by decide⟩, _, _, rfl, rfl, _, rfl, _, _, rfl, rfl, .inl ⟨_, rfl, _, rfl, _, _, rfl, rfl, posP, ?_⟩⟩
      exact ⟨rfl, _, _, rfl, (fmod_range (by decide)).1, (fmod_range (by decide)).2⟩
    · rintro σ H2 ⟨rfl, am, v, rfl, h1, h2⟩
      refine ⟨_, rfl, _, rfl, _, _, rfl, rfl, .inl ⟨by omega, by omega⟩, _, rfl, _, _, rfl, rfl, .inl ⟨by omega, by omega⟩, _, rfl, _, _, rfl, rfl, .inl ⟨_, rfl, _, rfl, _, _, rfl, rfl, posP, ?_⟩⟩
      exact ⟨_, _, rfl, rfl, q _⟩
theorem cut_map (ns : List Int) (lo hi : Option Int) : cutV (ns.map V.int) lo hi = ((ns.drop (HT.sIx ns.length 0 lo)).take (HT.sIx ns.length ns.length hi - HT.sIx ns.length 0 lo)).map V.int := by
  unfold cutV
  rw [List.length_map, List.map_take, List.map_drop]
theorem ok_pot_of {f : Addr} {fd : FuncData} {k : Nat} (F : Fun K "_law_pot_of" "_law_pot_of" s_law_pot_of f fd) (T : TxtD mg) : FnOk P w K mg base CX0 (k + 1) f fd ["script"] (spPotOf K) := by
  refine F.ok sc_law_pot_of (fun vs H Q E h => ?_) (fun cdv A outer s H vs Q E hr h => ?_)
  · obtain ⟨a, ns, rfl, _⟩ := h
    rfl
  · obtain ⟨a, ns, rfl, hS, hl, q⟩ := h
    refine ⟨_, (pss_cons (ps_setLc (i := 2) (own := [("cell", 1)]) (g := gName 1) rfl sc_law_pot_of.nd rfl rfl (sw_true rfl rfl rfl (by decide +kernel)) (pi_list (pe_slice sl_list (pv 0) po_none (po_some pe_int))) (blkOk_by (own := [("cell", 1)]) (N := ["script", "cell", "cells", "place"]) (sc := defScope s_law_pot_of) (by decide +kernel)) (fun _ _ _ _ _ => (pg_name (i := 1) sc_law_pot_of.nd rfl (.inl rfl))) (fun _ _ _ _ _ => pts_nil) (fun _ _ _ _ _ => (pe_callB call_abs (by rfl) T.n_abs (by decide +kernel) (pa_cons (pv 1) pa_nil))))
  (pss_cons (ps_for PassesOwn.never rfl (pi_enum (by rfl) T.n_enumerate (pa_cons (pe_slice sl_list (pv 0) (po_some pe_int) (po_some pe_int)) pa_nil)) (pg_tup rfl (pgs_cons (pg_name (i := 3) sc_law_pot_of.nd rfl (.inl rfl)) (pgs_cons (pg_name (i := 1) sc_law_pot_of.nd rfl (.inl rfl)) pgs_nil)))
   (pss_one (ps_asg (pe_op op_add (pe_ix ix_list (pv 2) (pe_op op_mod (pv 3) pe_int) (fun _ _ => rfl)) (pe_callB call_abs (by rfl) T.n_abs (by decide +kernel) (pa_cons (pv 1) pa_nil))) (pg_sub (pv 2) (pe_op op_mod (pv 3) pe_int) set_list))))
  (pss_one (ps_ret (pe_lst (pa_cons (pv 2) (pa_cons pe_int (pa_cons pe_int (pa_cons pe_int pa_nil))))))))), ?_⟩
    -- cells
    refine ⟨_, rfl, _, rfl, a, _, rfl, hS, fun p1 n1 => ?_⟩
    rw [cut_map]
    generalize hm : (ns.drop (HT.sIx ns.length 0 none)).take (HT.sIx ns.length ns.length (some 17) - HT.sIx ns.length 0 none) = ms
    have lm : ms.length = min 17 ns.length := by
      rw [← hm, HT.sIx_none, show HT.sIx ns.length ns.length (some 17) = min 17 ns.length from HT.sIx_nat ns.length ns.length 17]
      rw [List.drop_zero, List.length_take]
      omega
    have s1 : Same H (upd H p1 (.lst (ms.map V.int))) := same_upd n1
    refine ⟨p1, rfl, ⟨_, .inl (.inl upd_same)⟩, fun D nD => ?_⟩
    have nDH : H D = none := s1.free nD
    have nDp : p1 ≠ D := fun z => by
      rw [z, upd_same] at nD
      cases nD
    refine lc_list (K := K) (a := p1) (xs := ms.map V.int) (fun i H2 => Same (upd H p1 (.lst (ms.map V.int))) H2 ∧ ∃ zs : List Int, H2 D = some (.lst (zs.map V.int)) ∧ zs.length = i) ⟨same_upd nD, [], upd_same, rfl⟩ (fun i H2 _ h => .inl (.inl (h.1 _ _ upd_same))) ?_ ?_
    · rintro i x H2 hi ⟨s2, zs, hz, hlz⟩
      have hil : i < ms.length := by
        have h := (List.getElem?_eq_some_iff.mp hi).1
        rw [List.length_map] at h
        exact h
      rw [List.getElem?_map, List.getElem?_eq_getElem hil] at hi
      obtain rfl : V.int ms[i] = x := Option.some.inj hi
      refine ⟨rfl, ?_⟩
      unfold tYes
      dsimp only
      rw [if_pos rfl]
      refine ⟨_, rfl, _, rfl, _, hz, ?_, ?_, ?_⟩
      · rw [List.length_map]
        exact small1000 (by omega)
      · exact fun b o e => by
          have hb : b ≠ D := ne_of_none e nD
          rw [upd_ne hb]
          exact s2 b o e
      · refine ⟨zs ++ [if ms[i] < 0 then -ms[i] else ms[i]], ?_, ?_⟩
        · rw [upd_same, List.map_append]
          rfl
        · rw [List.length_append, hlz]
          rfl
    · rintro H2 ⟨s2, zs, hz, hlz⟩
      have sH : Same H H2 := s1.trans s2
      rw [List.length_map] at hlz
      -- enumerate(script[17:60])
      refine ⟨_, rfl, _, rfl, _, rfl, a, _, rfl, sH.seq hS, fun p2 n2 => ?_⟩
      rw [cut_map]
      generalize hm2 : (ns.drop (HT.sIx ns.length 0 (some 17))).take (HT.sIx ns.length ns.length (some 60) - HT.sIx ns.length 0 (some 17)) = ms2
      have lm2 : ms2.length = min 60 ns.length - 17 := by
        rw [← hm2, show HT.sIx ns.length ns.length (some 60) = min 60 ns.length from HT.sIx_nat ns.length ns.length 60, show HT.sIx ns.length 0 (some 17) = min 17 ns.length from HT.sIx_nat ns.length 0 17]
        rw [List.length_take, List.length_drop]
        omega
      have s3 : Same H2 (upd H2 p2 (.lst (ms2.map V.int))) := same_upd n2
      have nDp2 : D ≠ p2 := ne_of_none hz n2
      refine ⟨p2, _, rfl, .inl (.inl upd_same), ?_⟩
      refine for_it (walk_enum (xs := ms2.map V.int)) (fun i σ H3 => Same H H3 ∧ H3 p2 = some (.lst (ms2.map V.int)) ∧ ∃ (zs : List Int) (y z : Option V), σ = [some (.ref a), y, some (.ref D), z] ∧ H3 D = some (.lst (zs.map V.int)) ∧ zs.length = ms.length)
        ⟨sH.trans s3, upd_same, zs, _, _, rfl, s3 _ _ hz, hlz⟩ (fun i σ H3 _ h => .inl (.inl h.2.1)) ?_ ?_
      · rintro i x σ H3 H4 hi ⟨s4, h4, zs4, y, z, rfl, hz4, lz4⟩ ⟨T4, x4, y4, rfl, nT, rfl, ex, ey⟩
        rw [List.length_map] at hi
        have ey : (ms2.map V.int)[i]? = some y4 := ey
        rw [List.getElem?_map, List.getElem?_eq_getElem hi] at ey
        obtain rfl : V.int ms2[i] = y4 := Option.some.inj ey
        obtain rfl : V.int (i : Nat) = x4 := Option.some.inj ex
        have l17 : zs4.length = 17 := by omega
        have r := fmod_range (i := ((i : Nat) : Int)) (j := 17) (by omega)
        obtain ⟨j, hj⟩ : ∃ j : Nat, ((i : Nat) : Int) % 17 = (j : Int) := ⟨(((i : Nat) : Int) % 17).toNat, by omega⟩
        have hjl : j < zs4.length := by omega
        have s5 : Same H3 (upd H3 T4 (.tup [.int (i : Nat), .int ms2[i]])) := same_upd nT
        have hz5 := s5 _ _ hz4
        refine ⟨T4, _, rfl, .inl (.inl upd_same), rfl, _, _, rfl, _, _, rfl, rfl, ?_⟩
        refine ⟨_, rfl, _, rfl, _, _, rfl, rfl, pos17, D, _, _, V.int zs4[j], rfl, rfl, .inl (.inl hz5), ?_, _, rfl, _, rfl, _, _, rfl, rfl, _, rfl, _, rfl, _, _, rfl, rfl, pos17, D, _, _, j, rfl, rfl, hz5, ?_, ?_⟩
        · rw [hj]
          refine atI_nat ?_
          rw [List.getElem?_map, List.getElem?_eq_getElem hjl]
          rfl
        · rw [List.length_map, hj]
          unfold ixN
          rw [if_pos (by omega), if_pos (by omega)]
          rfl
        · refine ⟨?_, ?_, zs4.set j (zs4[j] + (if ms2[i] < 0 then -ms2[i] else ms2[i])), _, _, rfl, ?_, ?_⟩
          · exact fun b o e => by
              have hb : b ≠ D := ne_of_none e nDH
              rw [upd_ne hb]
              exact s5 _ _ (s4 b o e)
          · rw [upd_ne (fun z => nDp2 z.symm)]
            exact s5 _ _ h4
          · rw [upd_same, List.map_set]
          · rw [List.length_set]
            exact lz4
      · rintro σ H3 ⟨s4, h4, zs4, y, z, rfl, hz4, lz4⟩
        refine ⟨_, rfl, ?_, fun p np => ?_⟩
        · show 4 ≤ sizeLine
          decide
        · have s6 : Same H3 (upd H3 p (.lst [.ref D, .int 0, .int 0, .int 0])) := same_upd np
          exact q p D _ (s4.trans s6) (s4.free np) nDH ⟨zs4, 0, 0, 0, upd_same, s6 _ _ hz4, by omega⟩
theorem ok_below {f fk : Addr} {fd fdk : FuncData} {k : Nat} (F : Fun K "_law_below" "_law_below" s_law_below f fd) (T : TxtD mg) (F__law_kneaded : Fun K "_law_kneaded" "_law_kneaded" s_law_kneaded fk fdk) (b__law_kneaded : Binds K fdk ["seed", "lap"] []) (g_k : mg "_law_kneaded" = some (.ref fk)) :
    FnOk P w K mg base CX0 (k + 2) f fd ["pot", "bound"] spBelow := by
  have G__law_kneaded : FnOk P w K mg base CX0 1 fk fdk ["seed", "lap"] spKneaded := ok_kneaded F__law_kneaded T
  refine F.ok sc_law_below (fun vs H Q E h => ?_) (fun cdv A outer s H vs Q E hr h => ?_)
  · obtain ⟨p, c, b, rfl, _⟩ := h
    rfl
  · obtain ⟨p, c, b, rfl, ⟨ns, pl, am, sz, hp, hc, hl⟩, b0, b1, q⟩ := h
    refine ⟨_, (C8.pss_cut (ps_if (pt_cmpR op_lt (pe_ix ix_list (pv 0) pe_int (fun _ _ => rfl)) (pv 1) (nomark _))
   (pss_cons (ps_par (i := 2) (j := 3) (by rfl) sc_law_below.nd rfl rfl (by decide) rfl rfl (pa_cons (pe_ix ix_list (pv 0) pe_int (fun _ _ => rfl)) (pa_cons (pe_ix ix_list (pv 0) pe_int (fun _ _ => rfl)) pa_nil)) (by rfl))
  (C8.pss_cut (ps_set (i := 4) sc_law_below.nd rfl (.inl rfl) (pe_ifExp (pt_cmpR (op_neD hr.units) (pv 2) (pe_lst pa_nil) (nomark _)) (pe_ix ix_list (pv 2) (pe_op op_mod (pv 3) (pe_callB call_len_seq (by rfl) T.n_len (by decide +kernel) (pa_cons (pv 2) pa_nil))) (fun _ _ => rfl)) pe_int))
  (C8.pss_cut (ps_if (PW.pt (pw_or (pt_cmpR op_ge (pv 3) (pe_callB call_len_seq (by rfl) T.n_len (by decide +kernel) (pa_cons (pv 2) pa_nil)) (nomark _)) (pw_or1 (pt_cmpR op_lt (pv 4) (pe_op op_pow pe_int pe_int) (nomark _)))))
   (pss_one (ps_set (i := 4) sc_law_below.nd rfl (.inl rfl) (pe_call G__law_kneaded (hr.mono (by omega)) (by rfl) g_k F__law_kneaded.kp b__law_kneaded .nil pass0 (pa_cons (pe_op op_mod (pe_callTy call_int1 (by rfl) T.n_int (by decide +kernel) (pa_cons (pv 4) pa_nil)) pe_int) (pa_cons (pv 3) pa_nil)))))
   pss_nil)
  (pss_cons (ps_asg (pe_op op_add (pv 3) pe_int) (pg_sub (pv 0) pe_int set_list))
  (pss_cons (ps_asg (pv 4) (pg_sub (pv 0) pe_int set_list))
  (pss_one (ps_asg (pv 4) (pg_sub (pv 0) pe_int set_list))))))))
   pss_nil)
  (pss_cons (ps_set (i := 5) sc_law_below.nd rfl (.inl rfl) (pe_op op_mod (pe_callTy call_int1 (by rfl) T.n_int (by decide +kernel) (pa_cons (pe_ix ix_list (pv 0) pe_int (fun _ _ => rfl)) pa_nil)) (pv 1)))
  (pss_cons (ps_asg (pe_op op_fdivW (pe_ix ix_list (pv 0) pe_int (fun _ _ => rfl)) (pv 1)) (pg_sub (pv 0) pe_int set_list))
  (pss_cons (ps_asg (pe_op op_fdivW (pe_ix ix_list (pv 0) pe_int (fun _ _ => rfl)) (pv 1)) (pg_sub (pv 0) pe_int set_list))
  (pss_one (ps_ret (pv 5))))))), ?_⟩
    have ncp : c ≠ p := pot_ne hp hc
    refine ⟨fun σ H2 => ∃ (pl2 am2 sz2 : Int) (x2 x3 x4 : Option V), σ = [some (.ref p), some (.int b), x2, x3, x4, none] ∧ But p H H2 ∧ H2 p = some (.lst [.ref c, .int pl2, .int am2, .int sz2]) ∧ H2 c = some (.lst (ns.map V.int)), ?_, ?_⟩
    · refine ⟨_, rfl, p, _, _, _, rfl, rfl, .inl (.inl hp), at4.2.2.2, _, rfl, _, _, rfl, rfl, _, rfl, ite2 (fun e => ?_) (fun e => ?_)⟩
      · refine ⟨_, rfl, p, _, _, _, rfl, rfl, .inl (.inl hp), at4.1, _, rfl, p, _, _, _, rfl, rfl, .inl (.inl hp), at4.2.1, _, _, rfl, ?_⟩
        -- amount = cells[..] if cells != [] else 0
        refine ⟨fun σ H2 => ∃ am3 : Int, σ = [some (.ref p), some (.int b), some (.ref c), some (.int pl), some (.int am3), none] ∧ Same H H2, ?_, ?_⟩
        · refine ⟨_, rfl, Nat.zero_le _, fun o no => ?_⟩
          have so : Same H (upd H o (.lst [])) := same_upd no
          have ho : SqL K (upd H o (.lst [])) o [] := .inl (.inl upd_same)
          have hp1 := so _ _ hp
          have hc1 := so _ _ hc
          refine ⟨_, _, .lst (.inl (.inl hc1)) (dp_ints ns), .lst ho .nil, sh_ints ns, sh_nil, _, rfl, ?_⟩
          rw [eqv_nil]
          by_cases hn : ns = []
          · subst hn
            refine iteF ?_
            exact ⟨_, rfl, so⟩
          · have h1 : decide (ns.map PyData.int = []) = false := by
              cases ns with
              | nil => exact absurd rfl hn
              | cons => rfl
            rw [h1]
            refine iteT ?_
            obtain ⟨z, hz⟩ := at_mod (pl := pl) hn
            have hl0 : 0 < ns.length := by
              cases ns with
              | nil => exact absurd rfl hn
              | cons => exact Nat.succ_pos _
            refine ⟨_, rfl, _, rfl, _, rfl, c, _, rfl, .inl (.inl (.inl hc1)), _, _, rfl, rfl, ?_, c, _, _, V.int z, rfl, rfl, .inl (.inl hc1), ?_, ?_⟩
            · rw [List.length_map]
              omega
            · rw [List.length_map]
              exact hz
            · exact ⟨z, rfl, so⟩
        -- if place >= len(cells) or amount < 10 ** 16
        · rintro σ H2 ⟨am3, rfl, s2⟩
          have hp2 := s2 _ _ hp
          have hc2 := s2 _ _ hc
          refine ⟨fun σ H2 => ∃ am3 : Int, σ = [some (.ref p), some (.int b), some (.ref c), some (.int pl), some (.int am3), none] ∧ Same H H2, ?_, ?_⟩
          · have yes : ∃ am4 : Int, ∀ v : Int, True := ⟨0, fun _ => True.intro⟩
            refine ⟨_, rfl, _, rfl, c, _, rfl, .inl (.inl (.inl hc2)), _, _, rfl, rfl, _, rfl, ?_⟩
            refine ite2 (fun e => ?_) (fun e => ?_)
            · refine iteT ?_
              refine ⟨_, rfl, .inl ⟨_, rfl, _, _, rfl, rfl, posQ, _, rfl, _, _, rfl, fun v => ⟨v, rfl, s2⟩⟩⟩
            · refine ⟨_, rfl, _, _, rfl, rfl, ⟨by decide, by decide, by decide⟩, _, _, rfl, rfl, _, rfl, ?_⟩
              refine ite2 (fun e => ?_) (fun e => ?_)
              · refine ⟨_, rfl, .inl ⟨_, rfl, _, _, rfl, rfl, posQ, _, rfl, _, _, rfl, fun v => ⟨v, rfl, s2⟩⟩⟩
              · exact ⟨am3, rfl, s2⟩
          · -- pot[1] = place + 1; pot[2] = amount; pot[3] = amount
            rintro σ H2 ⟨am3, rfl, s2⟩
            have hp2 := s2 _ _ hp
            have hc2 := s2 _ _ hc
            refine ⟨_, rfl, _, _, rfl, rfl, _, rfl, p, _, _, _, rfl, rfl, hp2, rfl, ?_⟩
            refine ⟨_, rfl, _, rfl, p, _, _, _, rfl, rfl, upd_same, rfl, ?_⟩
            refine ⟨_, rfl, _, rfl, p, _, _, _, rfl, rfl, upd_same, rfl, ?_⟩
            refine ⟨pl + 1, am3, am3, _, _, _, rfl, (((But.of hp2 s2).trans but_upd).trans but_upd).trans but_upd, ?_, ?_⟩
            · rw [upd_same]
              rfl
            · rw [upd_ne ncp, upd_ne ncp, upd_ne ncp]
              exact hc2
      · exact ⟨pl, am, sz, none, none, none, rfl, ⟨fun _ _ z _ => z, by rw [hp]; exact fun z => nomatch z⟩, hp, hc⟩
    · rintro σ H2 ⟨pl2, am2, sz2, x2, x3, x4, rfl, hb, hp2, hc2⟩
      -- found = int(pot[2]) % bound
      refine ⟨_, rfl, p, _, _, _, rfl, rfl, .inl (.inl hp2), at4.2.2.1, .inl ⟨_, rfl, _, rfl, _, _, rfl, rfl, b0, ?_⟩⟩
      -- pot[2] = pot[2] // bound; pot[3] = pot[3] // bound
      refine ⟨_, rfl, p, _, _, _, rfl, rfl, .inl (.inl hp2), at4.2.2.1, _, rfl, _, _, rfl, rfl, (div64 b0 b1), _, rfl, p, _, _, _, rfl, rfl, hp2, rfl, ?_⟩
      refine ⟨_, rfl, p, _, _, _, rfl, rfl, .inl (.inl upd_same), at4.2.2.2, _, rfl, _, _, rfl, rfl, (div64 b0 b1), _, rfl, p, _, _, _, rfl, rfl, upd_same, rfl, ?_⟩
      refine ⟨_, rfl, q _ _ (fmod_range b0).1 (fmod_range b0).2 ⟨ns, pl2, am2 / b, sz2 / b, ?_, ?_, hl⟩ ((hb.trans but_upd).trans but_upd)⟩
      · rw [upd_same]
        rfl
      · rw [upd_ne ncp, upd_ne ncp]
        exact hc2
theorem ok_pick {f fb : Addr} {fd fdb : FuncData} {k : Nat} (F : Fun K "_law_pick" "_law_pick" s_law_pick f fd) (T : TxtD mg) (F__law_below : Fun K "_law_below" "_law_below" s_law_below fb fdb) (b__law_below : Binds K fdb ["pot", "bound"] []) (g_b : mg "_law_below" = some (.ref fb))
    (G__law_below : FnOk P w K mg base CX0 2 fb fdb ["pot", "bound"] spBelow) : FnOk P w K mg base CX0 (k + 3) f fd ["pot", "items"] (spPick K) := by
  refine F.ok sc_law_pick (fun vs H Q E h => ?_) (fun cdv A outer s H vs Q E hr h => ?_)
  · obtain ⟨p, c, l, xs, rfl, _⟩ := h
    rfl
  · obtain ⟨p, c, l, xs, rfl, hP, hS, hne, hlen, hk, q⟩ := h
    have hl : 0 < xs.length := by
      cases xs with
      | nil => exact absurd rfl hne
      | cons => exact Nat.succ_pos _
    refine ⟨_, (pss_one (ps_ret (pe_ix ix_list (pv 1) (pe_call G__law_below (hr.mono (by omega)) (by rfl) g_b F__law_below.kp b__law_below .nil pass0 (pa_cons (pv 0) (pa_cons (pe_callB call_len_seq (by rfl) T.n_len (by decide +kernel) (pa_cons (pv 1) pa_nil)) pa_nil))) (fun _ _ => rfl)))), ?_⟩
    refine ⟨_, rfl, _, rfl, _, rfl, l, xs, rfl, .inl hS, p, c, _, rfl, hP, by omega, by omega, fun v H' v0 v1 hP' hb => ?_⟩
    obtain ⟨j, rfl⟩ : ∃ j : Nat, v = (j : Int) := ⟨v.toNat, by omega⟩
    have hj : j < xs.length := by omega
    exact ⟨l, xs, _, xs[j], rfl, rfl, hk H' hb, atI_nat (List.getElem?_eq_getElem hj), q _ H' (List.getElem_mem hj) hP' hb⟩
end
end My

namespace My
open PySem PySem.Spec PyProof.Rows L2
/-! ### defs whose run shows containers: nothing is being shown around them -/
structure FnG (P : Program) (w : World) (K : PySem.W.Frag) (mg : Str → Option Value) (base : Heap) (CX : CXT) (k : Nat) (f : Addr) (fd : FuncData) (ps : List Str) (sp : Sp) : Prop where
  many : ∀ vs H Q E, sp vs H Q E → vs.length = ps.length
  go : ∀ {A : Around} {outer : List Env} {s : Shared} {H : Hp} {args : Args} {us : List Value} {vs : List V} {Q : VK} {E : XK}, Room k A → A.guards = some [] → Env0 P w K mg base A outer s H → BindsTo s fd args (ps.zip us) → Vals vs us →
    sp vs H Q E → codeAny (model P w) A (.call (.ref f) args) (CR CX outer P w H s Q E) s
theorem guards_deeper {A : Around} {env : Env} (h : A.guards = some []) : (A.deeper env).guards = some [] := by
  first | exact h | (simp [Around.deeper, h]; done)
section
variable {P : Program} {w : World} {K : PySem.W.Frag} {mg : Str → Option Value} {base : Heap} {CX : CXT} {k : Nat} {f : Addr} {fd : FuncData} {ps : List Str} {sp : Sp}
theorem FnG.of (F : FnOk P w K mg base CX k f fd ps sp) : FnG P w K mg base CX k f fd ps sp :=
  ⟨F.len, fun r _ e b v h => F.run _ _ _ _ _ _ _ _ _ r e b v h⟩
/-- a def by its body, where nothing is being shown -/
theorem go_of {x qual : Str} {st : Stmt} {N : List Str} (F : Fun K x qual st f fd) (S : FnScope N ps (defScope st)) (many : ∀ vs H Q E, sp vs H Q E → vs.length = ps.length)
    (hb : ∀ (cdv : Value) (A : Around) (outer : List Env) (s : Shared) (H : Hp) (vs : List V) (Q : VK) (E : XK), Room k (A.deeper (envOfC qual (defScope st) s.heap.objs.size f cdv)) → (A.deeper (envOfC qual (defScope st) s.heap.objs.size f cdv)).guards = some [] →
      sp vs H Q E → ∃ t, PSs (cxOf CX P w K mg base N qual (defScope st) f cdv A outer s H E) (defBody st) t ∧ t { nx := fun _ H' => Q .non H', rt := Q } (start N vs) H) : FnG P w K mg base CX (k + 1) f fd ps sp := by
  obtain ⟨oc, od, kV, doc, pm, an, cdv, ct, osl, e1, lk, hcd⟩ := F.ex
  subst e1
  refine ⟨many, ?_⟩
  intro A outer s H args us vs Q E room quiet e0 bind rel want
  have inK := e0.mod.kin.keeps (h' := s.heap) (fun b o z => (e0.bs b o z).1)
  have nolim := e0.mod.nolimit.keeps (h' := s.heap) (fun b o z => (e0.bs b o z).1)
  have kinds : ∀ y ∈ ps.zip us, (defScope st).names.lookup y.1 = some .local ∨ ((defScope st).names.lookup y.1 = some .cell ∧ ((cellsFrom (s.heap.objs.size + 1) (defScope st).names []).lookup y.1).isSome = true) := by
    rintro ⟨n, v⟩ hy
    have hn := (List.of_mem_zip hy).1
    cases S.par n hn with
    | inl z => exact Or.inl z
    | inr z => exact Or.inr ⟨z, PySem.W.cellsFrom_some _ _ _ (Or.inl z)⟩
  refine codeAny_call_function room.depth (inK _ _ lk) rfl S.co S.gen rfl (PySem.W.codeRec_of inK hcd) (bind _ _ _ _ (wpAny_newFunctionEnv_cells S.kind kinds ?_))
  rintro env rfl s1 ic
  obtain ⟨t, ht, ready⟩ := hb cdv A outer s H vs Q E (room.deeper _) (guards_deeper quiet) want
  have J : Inv (cxOf CX P w K mg base N qual (defScope st) f cdv A outer s H E) [] (start N vs) H s1 := inv_start S room.hd e0 (many _ _ _ _ want) rel ic
  refine ⟨nolim.keeps ic.toInCall.keep, codeAny_func (wpAny_mono (ht.run [] s1 _ H _ J ready) ?_ (fun _ _ z => z))⟩
  intro fl s' hs
  cases fl with
  | next =>
    obtain ⟨σ', H', J', q⟩ := hs
    exact ⟨V.non, H', J'.os, J'.bare, J'.base, J'.hok, rfl, q⟩
  | ret u =>
    obtain ⟨v, σ', H', J', rv, q⟩ := hs
    exact ⟨v, H', J'.os, J'.bare, J'.base, J'.hok, rv, q⟩
  | brk =>
    obtain ⟨_, _, _, z⟩ := hs
    exact (z : False).elim
  | cont =>
    obtain ⟨_, _, _, z⟩ := hs
    exact (z : False).elim
end
section
variable {X : Cx} {CX : CXT} {k : Nat} {f : Addr} {fd : FuncData} {ps : List Str} {sp : Sp} {dvs : List V} {ds : List Value} {E : XK} {x : Str} {p pos : Pos} {e : Expr} {es : List Expr} {t : TA}
/-- a call of such a def from where nothing is being shown -/
theorem pe_callG (F : FnG X.prog X.w X.K X.mg X.base CX k f fd ps sp) (hr : Room k X.A) (quiet : X.A.guards = some []) (hg : Gl X x) (hm : X.mg x = some (.ref f)) (hk : PySem.W.keepIn X.K (.ref f) = true) (hb : Binds X.K fd ps ds) (hd : Vals dvs ds) (hx : Passes CX X E)
    (ha : PA X (e :: es) t) (hdb : (x == ("__debug__" : Str)) = false := by decide) (he : starEach (e :: es) X.env = (false, eval e X.env) :: starEach es X.env := by rfl) (hpl : (backTo pos (starEach es X.env)).any (·.1) = false := by rfl) :
    PE X (.Call (.Name x p) (e :: es) [] pos) (tCall sp dvs E t) := by
  constructor
  intro pins s σ H Q I h
  have args := ha.run pos pins s σ H _ I h
  refine wpAny_Call_Name_kw (ld_glob I hg hm (PySem.W.callWith_K (h₀ := X.base) I.ok.mod.kin hk (thn args ?_) he hpl) hdb)
  rintro us s1 ⟨vs, H1, J, r, want⟩
  have rel := r.append hd
  refine ⟨J.kIn, wpAny_call (codeAny_mono (F.go (A := X.A) hr quiet J.env0 (hb s1 us J.kIn ?_) rel want) ?_)⟩
  · have z := rel.length
    rw [← z]
    exact F.many _ _ _ _ want
  · intro res s' hq
    match res, hq with
    | .error _, hq => exact hx pins σ H1 s1 _ s' J hq
    | .ok (.ret _), hq => exact J.after hq
    | .ok .next, hq => exact False.elim hq
    | .ok .brk, hq => exact False.elim hq
    | .ok .cont, hq => exact False.elim hq
end
/-! ### repr of data -/
structure rRepr (K : PySem.W.Frag) (xs : List V) (H : Hp) (Q : VK) : Prop where
  ex : ∃ x d, xs = [x] ∧ Dp K H x d ∧ d.showable = true ∧ d.canLay0 = true ∧ d.depth ≤ 60 ∧ d.shown.length ≤ sizeLine ∧ Q (.str d.shown) H
theorem call_repr {X : Cx} (quiet : X.A.guards = some []) (hu : X.A.units + 64 < cLine) : CallR X (.builtin "repr") (rRepr X.K) := by
  intro pins s σ H xs us Q I r h
  obtain ⟨x, d, rfl, hd, h1, h2, h3, h4, q⟩ := h
  obtain ⟨u, rfl, ru⟩ := vals1 r
  cases hd with
  | non =>
    cases (show u = Value.none from ru)
    exact PySem.P.repr_of_none ⟨.str "None", H, I.tok _, ⟨_, rfl⟩, by simpa only [PyData.shown] using q⟩
  | bl b =>
    cases (show u = Value.bool b from ru)
    exact PySem.P.repr_of_bool ⟨.str (if b then "True" else "False"), H, I.tok _, ⟨_, rfl⟩, by simpa only [PyData.shown] using q⟩
  | int i =>
    obtain ⟨tk, rfl⟩ := (show ∃ t, u = Value.int i t from ru)
    exact PySem.P.repr_of_int (by simpa only [PyData.showable, decide_eq_true_eq] using h1) ⟨V.str (Str.ofString (toString i)), H, I.tok _, ⟨_, rfl⟩, by simpa only [PyData.shown] using q⟩
  | str z =>
    obtain ⟨tk, rfl⟩ := (show ∃ t, u = Value.str z t from ru)
    exact PySem.P.repr_of_str ⟨.str (reprText z), H, I.tok _, ⟨_, rfl⟩, by simpa only [PyData.shown] using q⟩ (by simpa only [PyData.shown] using h4)
  | @lst a ys ds hs ha =>
    cases (show u = Value.ref a from ru)
    obtain ⟨as, rd⟩ := Dp.reads I (.list ds) (.ref a) (.ref a) (.lst hs ha) rfl
    exact PySem.repr_of_reads' rd h1 (PyData.noDict_hsm (PyData.hasDict_of_canLay _ h2)) quiet (by omega) (fun _ _ z => z) (fun h' v tk k => ⟨.str (PyData.list ds).shown, H, I.kept k, ⟨_, rfl⟩, q⟩) h4
  | @tup a ys ds hs ha =>
    cases (show u = Value.ref a from ru)
    obtain ⟨as, rd⟩ := Dp.reads I (.tuple ds) (.ref a) (.ref a) (.tup hs ha) rfl
    exact PySem.repr_of_reads' rd h1 (PyData.noDict_hsm (PyData.hasDict_of_canLay _ h2)) quiet (by omega) (fun _ _ z => z) (fun h' v tk k => ⟨.str (PyData.tuple ds).shown, H, I.kept k, ⟨_, rfl⟩, q⟩) h4
/-! ### the law's own call -/
/-- only the script may be tracked -/
def One (H : Hp) (a : Addr) : Prop := ∀ b, H b = none ∨ (b = a ∧ ∃ o xs, H b = some (.frz o (.lst xs)))
section
variable {P : Program} {w : World} {K : PySem.W.Frag} {mg mb : Str → Option Value} {k : Nat} {fa a : Addr} {fd : FuncData} {x : Str} {sp : Sp} {s₁ : Shared} {vs : List Value} {ns : List Int}
/-- a law's def run at its call, from an abstract heap that tracks the script or nothing -/
theorem top_run {H : Hp} (KX : K.In s₁.heap) (hns : s₁.heap.Ns mainGlobals mg) (hb : s₁.heap.Ns builtinsNs mb) (hbb : ∀ y : Str, y ≠ "__name__" → mb y = bootBuiltins y) (hlim : s₁.heap.NoLimit) (hg : s₁.gens = #[])
    (ha : s₁.heap.get? a = some { cls := .type "list", data := .seq vs.toArray }) (hr : Room k callerA) (hbind : ∀ (s : Shared) (u : Value), BindsTo s fd ⟨[u], []⟩ [(x, u)])
    (F : ∀ base : Heap, K.In base → base.Ns mainGlobals mg → FnG P w K mg base CX0 k fa fd [x] sp)
    (one : One H a) (free : H a ≠ none → K.lookup a = none) (ok : HOk P w H s₁.heap) (want : sp [.ref a] H (fun v _ => v = .bl true) fun _ _ _ => False) :
    codeAny (model P w) callerA (.call (.ref fa) ⟨[.ref a], []⟩) (fun r s' => r = .ok (.ret (.bool true)) ∧ OldK s₁.heap s'.heap ∧ s'.os = s₁.os ∧ AllBare s'.gens) s₁ := by
  have not_a : ∀ {b : Addr}, b ≠ a → H b = none := fun {b} n => (one b).elim id fun z => (n z.1).elim
  have seen : ∀ {b : Addr} {o : Obj}, s₁.heap.get? b = some o → H b = none → (hidT s₁.heap H).get? b = some o := hidT_get
  have dict_free : ∀ {b : Addr} {o : Obj} {es : Array DictEntry} {ep : Nat}, s₁.heap.get? b = some o → o.data = .dict es ep → H b = none := by
    intro b o es ep e1 e2
    refine not_a fun z => ?_
    subst z
    cases ha.symm.trans e1
    cases e2
  have keepNs : ∀ {b : Addr} {m : Str → Option Value}, s₁.heap.Ns b m → (hidT s₁.heap H).Ns b m := by
    rintro b m ⟨o, es, ep, e1, e2, e3⟩
    exact ⟨o, es, ep, seen e1 (dict_free e1 e2), e2, e3⟩
  have KB : K.In (hidT s₁.heap H) := by
    intro b o e
    refine seen (KX b o e) ?_
    by_cases z : b = a
    · subst z
      cases q : H b with
      | none => rfl
      | some u =>
        have z2 := free (by rw [q]; exact fun z => nomatch z)
        cases z2.symm.trans e
    · exact not_a z
  obtain ⟨ml, l1, l2⟩ := hlim
  have e0 : Env0 P w K mg (hidT s₁.heap H) callerA [] s₁ H := {
    frames := rfl
    mod := ⟨KB, keepNs hns, ⟨mb, keepNs hb, hbb⟩, ⟨ml, keepNs l1, l2⟩⟩
    bs := fun b o e => of_hidT e
    bsz := Nat.le_of_eq (hidT_size _ _)
    funs := trivial
    frf := fun b z => nomatch z
    hok := ok
    bare := .of_eq hg }
  refine codeAny_mono ((F _ KB (keepNs hns)).go (us := [.ref a]) (vs := [.ref a]) hr rfl e0 (hbind s₁ (.ref a)) (.cons rfl .nil) want) ?_
  intro r s' hq
  match r, hq with
  | .ok (.ret u), hq =>
    obtain ⟨v, H', os, bare, un, ok', rv, q⟩ := hq
    subst q
    cases (show u = Value.bool true from rv)
    refine ⟨rfl, OldK.of_keep ?_, os, bare⟩
    intro b o e
    rcases one b with z | ⟨_, ob, xs, z⟩
    · exact un.keep b o e z (fun z => nomatch z) (fun z => nomatch z)
    · have h1 : s₁.heap.get? b = some ob := (ok b _ z).1
      have h2 : s'.heap.get? b = some ob := (ok' b _ (un.frzs b ob _ z)).1
      rw [← h1.symm.trans e]
      exact h2
  | .ok .next, hq => exact False.elim hq
  | .ok .brk, hq => exact False.elim hq
  | .ok .cont, hq => exact False.elim hq
  | .error _, hq => exact False.elim hq
/-- .. from whatever the script is -/
theorem top_call (KX : K.In s₁.heap) (hns : s₁.heap.Ns mainGlobals mg) (hb : s₁.heap.Ns builtinsNs mb) (hbb : ∀ y : Str, y ≠ "__name__" → mb y = bootBuiltins y) (hlim : s₁.heap.NoLimit) (hg : s₁.gens = #[])
    (ha : s₁.heap.get? a = some { cls := .type "list", data := .seq vs.toArray }) (hi : IntsAre vs ns) (hl : ns.length ≤ sizeLine) (hr : Room k callerA) (hbind : ∀ (s : Shared) (u : Value), BindsTo s fd ⟨[u], []⟩ [(x, u)])
    (F : ∀ base : Heap, K.In base → base.Ns mainGlobals mg → FnG P w K mg base CX0 k fa fd [x] sp)
    (want : ∀ H : Hp, One H a → SqL K H a (ns.map V.int) → sp [.ref a] H (fun v _ => v = .bl true) fun _ _ _ => False) :
    codeAny (model P w) callerA (.call (.ref fa) ⟨[.ref a], []⟩) (fun r s' => r = .ok (.ret (.bool true)) ∧ OldK s₁.heap s'.heap ∧ s'.os = s₁.os ∧ AllBare s'.gens) s₁ := by
  have rv := vals_ints hi
  have len := hi.length
  cases hk : K.lookup a with
  | none =>
    let O : Obj := { cls := .type "list", data := .seq vs.toArray }
    let H : Hp := fun b => if b = a then some (.frz O (.lst (ns.map V.int))) else none
    have Ha : H a = some (.frz O (.lst (ns.map V.int))) := if_pos rfl
    have one : One H a := fun b => by
      by_cases z : b = a
      · exact .inr ⟨z, O, ns.map V.int, if_pos z⟩
      · exact .inl (if_neg z)
    refine top_run KX hns hb hbb hlim hg ha hr hbind F one (fun _ => hk) ?_ (want H one (.inl (.inr ⟨O, Ha⟩)))
    intro b u e
    rcases one b with z | ⟨z, _⟩
    · cases z.symm.trans e
    · subst z
      cases Ha.symm.trans e
      exact ⟨ha, by rw [List.length_map]; exact hl, vs, _, rv, ha⟩
  | some o =>
    cases (KX a o hk).symm.trans ha
    have one : One (fun _ => none) a := fun _ => .inl rfl
    refine top_run KX hns hb hbb hlim hg ha hr hbind F one (fun z => absurd rfl z) (fun _ _ z => nomatch z) (want _ one (.inr ⟨_, vs.toArray, _, hk, rfl, rfl, rfl, ?_, ?_⟩))
    · rw [List.size_toArray, len]
      exact hl
    · simpa using rv
end
/-- the end of a law whose def is FnG -/
theorem walk_ofG {l : PySem.W.OpenLaw} {n k : Nat} {q : Program} {loose : List Str} {XP : (Str → Option Value) → Heap → Prop} {YP : World → Heap → Prop} {d : DefRec} {K : Params → PySem.W.Frag} {sp : PySem.W.Frag → Sp} {x : Str}
    (hn : l.most = some n) (hn2 : n ≤ sizeLine) (hdf : d.params.defaults = []) (hr : Room k callerA) (hY : ∀ (w : World) (h : Heap), YP w h → (K w.params).In h)
    (F : ∀ (w : World) (mg : Str → Option Value) (fa : Addr) (h : Heap), (K w.params).In h → h.Ns mainGlobals mg → mg d.name = some (.ref fa) →
      ∃ fd : FuncData, (∀ (s : Shared) (u : Value), BindsTo s fd ⟨[u], []⟩ [(x, u)]) ∧ ∀ base : Heap, (K w.params).In base → base.Ns mainGlobals mg → FnG l.prog w (K w.params) mg base CX0 k fa fd [x] (sp (K w.params)))
    (want : ∀ (K : PySem.W.Frag) (H : Hp) (a : Addr) (ns : List Int), ns.length ≤ n → SqL K H a (ns.map V.int) → sp K [.ref a] H (fun v _ => v = .bl true) fun _ _ _ => False) :
    PySem.W.WalkO q loose XP YP l.row.toRowW d [] (fun f vs => PySem.call f vs) := by
  refine Att.attach_call hn hdf ?_
  intro w s₀ s₁ mg mb fa o pm cd doc a vs ns G Y ho hd hcd hmg hobj hints hlen hg
  obtain ⟨fd, hbind, hF⟩ := F w mg fa _ (hY w _ Y) G.T.g hmg
  exact top_call (hY w _ Y) G.T.g G.T.b G.T.builtins G.T.nolimit hg hobj hints (Nat.le_trans hlen hn2) hr hbind hF fun H _ hS => want _ H a ns hlen hS
/-! ### list(text), text * int -/
abbrev oneS (c : Nat) : Str := ⟨#[c]⟩
def rListS : List V → Hp → VK → Prop := fun xs H Q => ∃ z : Str, xs = [.str z] ∧ z.length ≤ sizeLine ∧ ∀ p, H p = none → Q (.ref p) (upd H p (.lst (z.cps.toList.map fun c => V.str (oneS c))))
theorem call_listS {X : Cx} (calm : X.calm = true) : CallR X (.type "list") rListS := by
  intro pins s σ H xs us Q I r h
  obtain ⟨z, rfl, hz, q⟩ := h
  obtain ⟨u, rfl, tk, rfl⟩ := vals1 r
  refine PySem.call_list_str (I.ok.hd calm) z tk (fun h' t acc c keep new items => ?_) hz
  refine ⟨.ref s.heap.objs.size, upd H s.heap.objs.size (.lst (z.cps.toList.map fun c => V.str (oneS c))), I.laid (t' := t) keep (Nat.le_refl _) ?_, rfl, q _ (I.hok.fresh (Nat.le_refl _))⟩
  refine ⟨?_, acc.toList, c, ?_, by rw [Array.toArray_toList]; exact new⟩
  · rw [List.length_map, Array.length_toList]
    exact hz
  · have len : acc.toList.length = z.cps.toList.length := by rw [Array.length_toList, Array.length_toList]; exact items.1
    have all : ∀ (cs : List Nat) (vs : List Value), vs.length = cs.length → (∀ (j : Nat) (v : Value), vs[j]? = some v → ∃ c u, cs[j]? = some c ∧ v = .str (oneS c) u) → Vals (cs.map fun c => V.str (oneS c)) vs := by
      intro cs
      induction cs with
      | nil =>
        intro vs hl _
        cases vs with
        | nil => exact .nil
        | cons => cases hl
      | cons a r ih =>
        intro vs hl hv
        cases vs with
        | nil => cases hl
        | cons v t =>
          obtain ⟨c, u, e1, e2⟩ := hv 0 v rfl
          cases e1
          exact .cons ⟨u, e2⟩ (ih t (Nat.succ.inj hl) fun j x e => hv (j + 1) x e)
    refine all _ _ len fun j v e => ?_
    rw [Array.getElem?_toList] at e
    obtain ⟨c, u, e1, e2⟩ := items.2 j v e
    exact ⟨c, u, by rw [Array.getElem?_toList]; exact e1, e2⟩
def rRepS : R2 := fun x y H Q => ∃ z n, x = .str z ∧ y = .int n ∧ MulOk z n ∧ Q (.str (Txt.mul z n)) H
theorem op_repS {X : Cx} : OpR X (binaryOp .Mult) rRepS := by
  intro pins s σ H x y v u Q I rx ry h
  obtain ⟨z, n, rfl, rfl, ok, q⟩ := h
  obtain ⟨tx, rfl⟩ := rx
  obtain ⟨ty, rfl⟩ := ry
  exact PySem.SB.mul ok fun t' k => ⟨.str (Txt.mul z n), H, I.tok _, ⟨_, rfl⟩, q⟩
/-- texts joined by nothing -/
theorem joinL_nil : ∀ l : List (List Nat), TL.joinL [] l = l.flatten
  | [] => rfl
  | [p] => by simp [TL.joinL]
  | p :: q :: r => by
    have h := joinL_nil (q :: r)
    show p ++ ([] ++ TL.joinL [] (q :: r)) = _
    rw [h]
    simp
theorem tl_join0 (ys : List Str) : (Txt.join "" ys).cps.toList = (ys.map fun y => y.cps.toList).flatten := by
  rw [TL.join_eq]
  have h := TL.tl_join "" ys
  have h2 : TL.tl ("" : Str) = [] := by decide +kernel
  rw [h2, joinL_nil] at h
  exact h
end My

namespace My
open PySem PySem.Spec PyProof.Rows L2
/-! ### own errors whose __init__ says super().__init__(text) -/
structure SupScope (N ps : List Str) (sc : Scope) : Prop where
  kind : sc.kind = .function
  co : sc.isCoroutine = false
  gen : sc.isGenerator = false
  nd : N.Nodup
  pre : N.take ps.length = ps
  par : ∀ x ∈ ps, sc.names.lookup x = some .local
  nocell : ∀ y ∈ sc.names, y.2 ≠ .cell
  sup : sc.names.lookup ("super" : Str) = some .globalImplicit
  cls : sc.names.lookup ("__class__" : Str) = some .free
  free : ∀ y ∈ sc.names, y.2 = .free → y.1 = ("__class__" : Str)
abbrev supEnv (qual : Str) (sc : Scope) (L f cda cc : Addr) : Env := PySem.W.ksEnv qual sc L f (.ref cda) cc
/-- such an __init__'s body running -/
def cxS (P : Program) (w : World) (K : PySem.W.Frag) (mg : Str → Option Value) (base : Heap) (N : List Str) (qual : Str) (sc : Scope) (f cda cc : Addr) (A : Around) (outer : List Env) (s : Shared) (H : Hp) : Cx where
  prog := P
  w := w
  K := K
  mg := mg
  base := base
  A := A.deeper (supEnv qual sc s.heap.objs.size f cda cc)
  N := N
  s_0 := s
  H_0 := H
  env := supEnv qual sc s.heap.objs.size f cda cc
  outer := outer
  stack := supEnv qual sc s.heap.objs.size f cda cc :: outer
  ex := []
  calm := true
  fn := fun x => !(x == ("__class__" : Str))
  pn := []
  xe := fun _ _ => False
theorem cells_one {cc c : Addr} {x : Str} (h : List.lookup x [(("__class__" : Str), cc)] = some c) : x = "__class__" ∧ c = cc := by
  rw [List.lookup_cons] at h
  split at h
  · rename_i e
    exact ⟨beq_iff_eq.mp e, (Option.some.inj h).symm⟩
  · cases h
theorem lookup_mem {y : Str} {u : Value} : ∀ {l : List (Str × Value)}, (l.map (·.1)).Nodup → (y, u) ∈ l → l.lookup y = some u
  | [], _, h => nomatch h
  | (z, v) :: r, hn, h => by
    rw [List.map_cons, List.nodup_cons] at hn
    rw [List.lookup_cons]
    rcases List.mem_cons.mp h with e | h
    · cases e
      simp
    · have ne : (y == z) = false := by
        refine beq_eq_false_iff_ne.mpr fun e => hn.1 ?_
        rw [← e]
        exact List.mem_map.mpr ⟨(y, u), h, rfl⟩
      rw [ne]
      exact lookup_mem hn.2 h
theorem zip_sub : ∀ (ps : List Str) (us : List Value), ((ps.zip us).map fun q : Str × Value => q.1).Sublist ps
  | [], _ => List.Sublist.refl _
  | _ :: _, [] => List.nil_sublist _
  | p :: ps, u :: us => List.Sublist.cons_cons _ (zip_sub ps us)
theorem zip_lookup {ps : List Str} {us : List Value} {i : Nat} {y : Str} {u : Value} (hn : ps.Nodup) (h1 : ps[i]? = some y) (h2 : us[i]? = some u) : (ps.zip us).reverse.lookup y = some u := by
  refine lookup_mem ?_ ?_
  · rw [List.map_reverse]
    refine List.pairwise_reverse.mpr (List.Pairwise.imp (R := fun a b => a ≠ b) (fun z => Ne.symm z) ?_)
    refine List.Pairwise.sublist ?_ hn
    exact zip_sub ps us
  · rw [List.mem_reverse]
    refine List.mem_of_getElem? (i := i) ?_
    rw [List.getElem?_zip_eq_some]
    exact ⟨h1, h2⟩
section
variable {P : Program} {w : World} {K : PySem.W.Frag} {mg : Str → Option Value} {base : Heap} {N ps : List Str} {qual : Str} {sc : Scope} {f cda cc : Addr} {A : Around} {outer : List Env} {s : Shared} {H : Hp} {us : List Value} {vs : List V}
theorem sup_start {oc : Obj} {v0 : Value} (S : SupScope N ps sc) (hd : A.handled = none) (e0 : Env0 P w K mg base A outer s H) (hl : vs.length = ps.length) (r : Vals vs us) (hc : K.lookup cc = some oc) (hcd : oc.data = .cell (some v0))
    {h : Heap} {t : Nat} (ns : h.Ns s.heap.objs.size (fun x => (ps.zip us).reverse.lookup x)) (keep : ∀ b o, s.heap.get? b = some o → h.get? b = some o) :
    Inv (cxS P w K mg base N qual sc f cda cc A outer s H) [] (L2.start N vs) H { s with heap := h, toks := t } := by
  have noA : ∀ b : Addr, b ∉ (cxS P w K mg base N qual sc f cda cc A outer s H).ex := fun b z => nomatch z
  have cB : base.get? cc = some oc := e0.mod.kin _ _ hc
  have cS := e0.bs _ _ cB
  have pl : ps.length ≤ N.length := by
    have z := congrArg List.length S.pre
    rw [List.length_take] at z
    omega
  constructor
  · constructor
    · exact e0.mod
    · exact S.kind
    · rfl
    · rfl
    · exact Nat.le_refl _
    · intro x y c h1 h2
      exact (cells_one h1).1.trans (cells_one h2).1.symm
    · intro x hx
      have hx : sc.names.lookup x = some .cell ∨ sc.names.lookup x = some .free := hx
      rcases hx with z | z
      · exact absurd rfl (S.nocell _ (PySem.mem_of_lookup z))
      · have e := S.free _ (PySem.mem_of_lookup z) rfl
        exact ⟨cc, by show List.lookup x [(("__class__" : Str), cc)] = some cc; rw [show x = "__class__" from e]; rfl⟩
    · intro x c h1 h2
      have e := (cells_one h2).1
      subst e
      exact absurd (show (!((("__class__" : Str)) == ("__class__" : Str))) = true from h1) (by decide)
    · exact fun _ => hd
    · exact Around.frames_deeper e0.frames
    · exact .inr ⟨rfl, rfl⟩
    · exact fun b z => absurd z (noA b)
    · exact e0.bs
    · exact e0.bsz
    · exact fun b _ _ => noA b
    · exact fun b z => absurd z (noA b)
    · exact e0.funs
    · exact e0.frf
  · rfl
  · exact e0.bare
  · exact Un.kept keep
  · refine ⟨_, ns, fun i y v h1 h2 h3 => ?_⟩
    have hi : i < vs.length := by
      by_cases z : i < vs.length
      · exact z
      · unfold L2.start at h2
        rw [List.getElem?_append_right (by simpa using z), List.getElem?_replicate] at h2
        split at h2 <;> cases h2
    have ha : vs[i]? = some v := by
      unfold L2.start at h2
      rw [List.getElem?_append_left (by simpa using hi), List.getElem?_map, List.getElem?_eq_getElem hi] at h2
      rw [List.getElem?_eq_getElem hi]
      exact Option.some.inj h2
    obtain ⟨u, hu, rv⟩ := r.get ha
    have hp : ps[i]? = some y := by
      rw [← S.pre, List.getElem?_take_of_lt (by omega)]
      exact h1
    have ndp : ps.Nodup := by
      rw [← S.pre]
      exact S.nd.sublist (List.take_sublist _ _)
    refine ⟨u, rv, .inl ⟨S.par y (List.mem_of_getElem? hp), ?_⟩⟩
    exact zip_lookup ndp hp hu
  · intro x c h1
    obtain ⟨_, rfl⟩ := cells_one h1
    exact ⟨_, oc, keep _ _ cS.1, hcd⟩
  · exact e0.hok.fresh (Nat.le_refl _)
  · intro x c h1
    obtain ⟨_, rfl⟩ := cells_one h1
    exact cS.2
  · exact fun p z => nomatch z
  · exact e0.hok.kept keep
  · show (L2.start N vs).length = N.length
    unfold L2.start
    rw [List.length_append, List.length_map, List.length_replicate]
    omega
end
/-- the built-in __init__ bound to an exception, called: its args are laid anew -/
theorem mw_call {prog : Program} {w : World} {A : Around} {E : Value → Shared → Prop} {h : Heap} {g : Array GenState} {d : Drawn} {t : Nat} {os : OsState} {nm q : Str} {C N u x t0 : Addr} {bs bm : List Value} {hdct : Bool} {sn : List Str} {sub : List Value} {ab : Bool} {col : Option Bool}
    {dd : Option Addr} {k0 k1 k2 k3 k5 : Option Value} {rest : List Value} {Q : Value → Shared → Prop} (hC : h.get? C = some (excClassObj nm q C N bs bm hdct sn sub ab col dd k0 k1 k2 k3 k5 "ValueError.__new__")) (hu : h.get? u = some (PySem.W.kxs_mw "ValueError.__init__" x))
    (he : h.get? x = some (PySem.HandSPX.excO C t0)) (hz : rest.length ≤ sizeLine)
    (hq : ∀ h' t1, (∀ b o, b ≠ x → h.get? b = some o → h'.get? b = some o) → h'.get? x = some (PySem.HandSPX.excO C t1) → Q .none ⟨h', g, d, t, os⟩) :
    wpAny (model prog w) A (call (.ref u) rest) Q E ⟨h, g, d, t, os⟩ := by
  refine wpAny_call (codeAny_of_tree ?_)
  show wpAny _ A.in1 (callAny (.ref u) ⟨rest, []⟩) _ _ _
  unfold callAny
  refine wpAny_bind (wpAny_load hu ?_)
  have k : (Value.type "method-wrapper" == Value.type "method" || Value.type "method-wrapper" == Value.type "builtin_function_or_method" || Value.type "method-wrapper" == Value.type "method-wrapper") = true := by decide
  simp only [PySem.W.kxs_mw, k, if_true]
  refine PySem.W.KFB.if_so (by decide) ?_
  refine wpAny_bind (PySem.W.check_bound_init F.excBase_ValueError.toExcCallFacts hC he rfl ?_)
  refine wpAny_bind (wpAny_pure (wpAny_pure ⟨plainId_quiet F.excBase_ValueError.init.plain _, codeAny_builtin F.excBase_ValueError.initEntry ?_⟩))
  exact PySem.W.exc_init_tree (cls := .ref C) (t0 := t0) (dv := none) (c2 := .none) (c3 := .none) (b4 := .bool false) he hz fun h' k1 k2 _ => hq h' h.objs.size k1 k2
/-- what the text and the top say of such a class -/
structure SupCls (P : Program) (K : PySem.W.Frag) (mg : Str → Option Value) (x qual : Str) (st : Stmt) (C fI cc cda : Addr) (fd : FuncData) : Prop where
  gC : mg x = some (.ref C)
  ox : OexC K C
  iC : PySem.W.findIn K (.ref C) "__init__" = some (some (.ref fI))
  tI : PySem.W.typeIn K (.ref fI) = some (.type "function")
  fn : ∃ (oc : Value) (od : Option Addr) (doc pm : Value) (an : Option Addr) (ct : Value) (osl : Array (Option Value)), fd = PySem.W.ksFn "__init__" qual (defArgs st) (defBody st) (defScope st) .none .none doc pm an (.ref cda) ct cc ∧ K.lookup fI = some ⟨oc, od, .func fd, osl⟩
  cdq : PySem.W.codeIn K (.ref cda) qual = true
  code : ∃ (ccl : Value) (cdd : Option Addr) (vs : Array Value) (ccs : Array (Option Value)) (file : Str) (tf : Tok), K.lookup cda = some ⟨ccl, cdd, .fields vs, ccs⟩ ∧ vs[2]? = some (.str file tf) ∧ ((P.main.file : Str) == file) = true
  cell : ∃ (cl : Value) (cld : Option Addr) (csl : Array (Option Value)), K.lookup cc = some ⟨cl, cld, .cell (some (.ref C)), csl⟩
  sub : PySem.W.mroIn K C (.ref C) = some true
  noS : mg "super" = none
  anyC : PySem.W.nsIn K cStatics "thirdparty.any" = some none
  supI : PySem.W.ks_superIn K C C "__init__" = some (some (.builtin "ValueError.__init__"))
  subV : PySem.W.subIn K (.ref C) (.type "ValueError") = some true
  noTop : (P.main.scope.names.lookup ("super" : Str)).isSome = false
theorem boot_super : bootBuiltins "super" = some (.type "super") := by decide +kernel
section
variable {P : Program} {w : World} {K : PySem.W.Frag} {mg : Str → Option Value} {base : Heap}
theorem ok_sup {x qual : Str} {st : Stmt} {C fI cc cda : Addr} {fd : FuncData} {N ps : List Str} {ar : Arg} {k : Nat} {sp : Sp} {p0 p1 p2 p3 p4 : Pos} {msg : Expr} {rest : List Stmt} (T : SupCls P K mg x qual st C fI cc cda fd) (S : SupScope N ps (defScope st))
    (hp : ((defArgs st).posonlyargs ++ (defArgs st).args).head? = some ar) (hps : ps[0]? = some ar.arg) (hbody : defBody st = .Expr (.Call (.Attribute (.Call (.Name "super" p0) [] [] p1) "__init__" p2) [msg] [] p3) p4 :: rest)
    {pl : Sem Bool} (hev : ∀ L : Addr, eval (.Call (.Attribute (.Call (.Name "super" p0) [] [] p1) "__init__" p2) [msg] [] p3) (supEnv qual (defScope st) L fI cda cc) = (do
      let ov ← attributeBase (.Call (.Name "super" p0) [] [] p1) "__init__" (supEnv qual (defScope st) L fI cda cc) (eval (.Call (.Name "super" p0) [] [] p1) (supEnv qual (defScope st) L fI cda cc))
      standAt p2.atName
      let (f, first) ← holding [ov] (getMethod ov "__init__" pl)
      callWith p3 f first (backTo p3 (starEach [msg] (supEnv qual (defScope st) L fI cda cc))) []))
    (hst : ∀ L : Addr, starEach [msg] (supEnv qual (defScope st) L fI cda cc) = [(false, eval msg (supEnv qual (defScope st) L fI cda cc))])
    (len : ∀ vs H Q E, sp vs H Q E → vs.length = ps.length)
    (hb : ∀ (A : Around) (outer : List Env) (s : Shared) (H : Hp) (vs : List V) (Q : VK) (E : XK), Room k (A.deeper (supEnv qual (defScope st) s.heap.objs.size fI cda cc)) → sp vs H Q E →
      ∃ (a : Addr) (tm : TE) (t : TS), vs[0]? = some (.ref a) ∧ H a = some (exo a C none) ∧ PE (cxS P w K mg base N qual (defScope st) fI cda cc A outer s H) msg tm ∧ PSs (cxS P w K mg base N qual (defScope st) fI cda cc A outer s H) rest t ∧
        tm (L2.start N vs) H fun _ H1 => H1 a = some (exo a C none) ∧ t { nx := fun _ H' => Q .non H', rt := Q } (L2.start N vs) H1) :
    FnOk P w K mg base CX0 (k + 1) fI fd ps sp := by
  refine ⟨len, fun A outer s H args us vs Q E hr e0 bind r want => ?_⟩
  obtain ⟨oc, od, doc, pm, an, ct, osl, rfl, lk⟩ := T.fn
  obtain ⟨ccl, cdd, cvs, ccs, file, tf, lkc, hv2, hfile⟩ := T.code
  obtain ⟨cl, cld, csl, lcc⟩ := T.cell
  obtain ⟨nm, qn, NS, bs, bm, sn, sub, ab, col, dd, k0, k1, k2, k3, k5, hC, hbm⟩ := T.ox.cls
  have hl := len _ _ _ _ want
  have KX : K.In s.heap := e0.mod.kin.keeps fun b o z => (e0.bs b o z).1
  have lim : s.heap.NoLimit := e0.mod.nolimit.keeps fun b o z => (e0.bs b o z).1
  obtain ⟨a, tm, t, h0, hexo, pm1, prest, ready⟩ := hb A outer s H vs Q E (hr.deeper _) want
  refine PySem.ks_codeAny_call_defAt (body := defBody st) hr.depth (KX _ _ lk) rfl lim (PySem.W.codeRec_of KX T.cdq) rfl bind S.nocell (fun y hy => ?_) (fun hh hns hk => ?_) S.co S.gen S.kind
  · exact S.par _ (List.of_mem_zip (a := y.1) (b := y.2) hy).1
  have I0 : Inv (cxS P w K mg base N qual (defScope st) fI cda cc A outer s H) [] (L2.start N vs) H { s with heap := hh, toks := s.toks + (ps.zip us).length } := sup_start S hr.hd e0 hl r lcc rfl hns hk
  have KH : K.In hh := KX.keeps hk
  have v0 : us[0]? = some (.ref a) := by
    obtain ⟨u, hu, ru⟩ := r.get h0
    cases (show u = Value.ref a from ru)
    exact hu
  obtain ⟨t0, hea⟩ := exo_at I0.hok hexo
  have hea : hh.get? a = some (PySem.HandSPX.excO C t0) := hea
  -- super().__init__(msg)
  show PySem.wpAt (model P w) (A.deeper (supEnv qual (defScope st) s.heap.objs.size fI cda cc)) (.func (defBody st) (supEnv qual (defScope st) s.heap.objs.size fI cda cc)) (execs (defBody st) (supEnv qual (defScope st) s.heap.objs.size fI cda cc)) _ _ _
  rw [show execs (defBody st) (supEnv qual (defScope st) s.heap.objs.size fI cda cc) = execs (.Expr (.Call (.Attribute (.Call (.Name "super" p0) [] [] p1) "__init__" p2) [msg] [] p3) p4 :: rest) (supEnv qual (defScope st) s.heap.objs.size fI cda cc) from congrArg (fun b => execs b _) hbody]
  obtain ⟨mL, glob, blt⟩ : (∃ m, (⟨hh, s.gens, s.drawn, s.toks + (ps.zip us).length, s.os⟩ : Shared).heap.Ns s.heap.objs.size m) ∧ hh.Ns mainGlobals mg ∧ ∃ mb, hh.Ns builtinsNs mb ∧ ∀ y : Str, y ≠ "__name__" → mb y = bootBuiltins y := by
    refine ⟨⟨_, hns⟩, e0.mod.glob.keeps I0.bk, ?_⟩
    obtain ⟨mb, b1, b2⟩ := e0.mod.blt
    exact ⟨mb, b1.keeps I0.bk, b2⟩
  obtain ⟨mb, b1, b2⟩ := blt
  obtain ⟨cdD, hcdD, oD, hoD, hoD2⟩ : ∃ cdD, PySem.W.clsIn K C = some cdD ∧ ∃ oD, hh.get? C = some oD ∧ oD.data = .cls cdD := by
    refine ⟨{ name := nm, bases := bs, mro := .ref C :: bm, ns := NS, qualname := qn, hasDict := true, slotNames := sn, subclasses := sub, abstract := ab, collection := col, hasDel := false }, ?_, _, KH _ _ hC, rfl⟩
    unfold PySem.W.clsIn
    rw [hC] <;> rfl
  refine PySem.ks_wpAt_execs_cons (PySem.ks_wpAt_Expr_any (PySem.ks_wpAt_MethodCall (pl := pl) ?_ (hev _)) (by unfold interactive; rw [show (supEnv qual (defScope st) s.heap.objs.size fI cda cc).scope.kind = .function from S.kind]; rfl) (by rfl))
  refine PySem.ks_wpAt_super_base (env := supEnv qual (defScope st) s.heap.objs.size fI cda cc) S.sup S.cls (by decide) rfl (KH _ _ lk) rfl hp rfl (KH _ _ lkc) rfl hv2 hfile T.noTop ?_
  refine PySem.W.ks_loadName_global S.kind S.sup (PySem.Calls.loadGlobal_builtin (env := supEnv qual (defScope st) s.heap.objs.size fI cda cc) glob T.noS b1 ((b2 _ (by decide)).trans boot_super) ⟨rfl, ?_⟩)
  refine wpAny_loadName_free S.kind S.cls rfl ⟨_, KH _ _ lcc, rfl⟩ ?_
  refine wpAny_loadName_local S.kind (S.par _ (List.mem_of_getElem? hps)) hns (zip_lookup (i := 0) (by rw [← S.pre]; exact S.nd.sublist (List.take_sublist _ _)) hps v0) ?_
  refine PySem.ks_wpAny_isType_cls hoD hoD2 ⟨rfl, ?_⟩
  refine PySem.ks_wpAny_call_super hoD hoD2 hea rfl (fun c e => nomatch e) (PySem.W.looks_mroIn KH T.sub) (fun h1 hso k1 => ?_)
  have KH1 : K.In h1 := KH.keeps k1
  have hea1 := k1 _ _ hea
  have inst : PySem.W.InstAt h1 a (PySem.HandSPX.excO C t0) C none := ⟨hea1, rfl, rfl, trivial⟩
  have along : PySem.W.alongIn K "__init__" ((cdD.mro.dropWhile (· != .ref C)).drop 1) = some (some (.builtin "ValueError.__init__")) := by
    have z := T.supI
    unfold PySem.W.ks_superIn at z
    rw [hcdD] at z
    exact z
  refine PySem.W.kxs_getMethod PySem.W.kxs_ValueError hso (PySem.W.looks_opaque KH1 T.anyC) (l₀ := cdD.mro) (fun A Q E s k q => wpAny_bind ((PySem.W.looks_clsIn KH1 hcdD) A _ E s k (wpAny_pure q))) rfl KH1 along
    (inst.type.andThen (PySem.W.looks_subIn KH1 T.subV)) (PySem.W.ks_ne KH1 inst hcdD) (by decide) ?_
  show wpAny _ _ (callWith p3 (.ref h1.objs.size) [] (backTo p3 (starEach [msg] (supEnv qual (defScope st) s.heap.objs.size fI cda cc))) []) _ _ _
  rw [hst]
  generalize hu : h1.objs.size = u
  have k2 : ∀ b o, h1.get? b = some o → (h1.push (PySem.W.kxs_mw "ValueError.__init__" a)).get? b = some o := fun b o z => Heap.get?_push_of_some _ z
  have hmw : (h1.push (PySem.W.kxs_mw "ValueError.__init__" a)).get? u = some (PySem.W.kxs_mw "ValueError.__init__" a) := by rw [← hu]; exact Heap.get?_push_size _ rfl
  have I2 := I0.kept (h' := h1.push (PySem.W.kxs_mw "ValueError.__init__" a)) (t' := s.toks + (ps.zip us).length + 1) (fun b o z => k2 b o (k1 b o z))
  have uH : H u = none := by
    rw [← hu]
    exact I0.hok.fresh (Nat.le_of_lt (Heap.lt_size hso))
  have I3 : Inv (cxS P w K mg base N qual (defScope st) fI cda cc A outer s H) [(u, PySem.W.kxs_mw "ValueError.__init__" a)] (L2.start N vs) H _ := I2.pins_of (by
    intro p hp
    rw [List.mem_singleton.mp hp]
    refine ⟨hmw, uH, ?_, ?_, fun v z => nomatch z⟩
    · have z1 : s.heap.objs.size < hh.objs.size := hns.lt
      have z2 := Heap.lt_size hso
      rw [hu] at z2
      exact Nat.ne_of_gt (Nat.lt_trans z1 z2)
    · refine I0.nofs ?_
      rw [← hu]
      exact Nat.le_of_lt (Heap.lt_size hso))
  refine PySem.W.kxs_callWith (i := "ValueError.__init__") (x := a) rfl (PySem.Calls.evalArgs_plain ?_)
  refine PySem.Calls.spliced_cons (wpAny_mono (pm1.run _ _ _ _ _ I3 ready) ?_ (fun _ _ z => z.elim))
  rintro v s1 ⟨y, H1, I4, ry, hexo1, ready1⟩
  refine PySem.Calls.spliced_nil ⟨(I4.pin (u, _) (List.mem_append_right _ List.mem_cons_self)).1, ?_⟩
  obtain ⟨t1, he1⟩ := exo_at I4.hok hexo1
  have hmw1 := (I4.pin (u, _) (List.mem_append_right _ List.mem_cons_self)).1
  have KH4 := I4.kIn
  obtain ⟨hp4, g4, d4, tk4, os4⟩ := s1
  refine mw_call (KH4 _ _ hC) hmw1 he1 (by show 1 ≤ sizeLine; decide) (fun h5 t5 keep5 he5 => ?_)
  have I5 := I4.write (t' := tk4) (x := a) (e := a) (o := exo a C none) (by rw [hexo1]; exact True.intro) (.inl rfl) keep5 ⟨_, he5⟩ (exo_ok he5)
  have eH : upd H1 a (exo a C none) = H1 := by
    funext b
    by_cases hb : b = a
    · rw [hb, upd_same, hexo1]
    · rw [upd_ne hb]
  rw [eH] at I5
  refine PySem.wpAt_of_wpAny (wpAny_mono (prest.run _ _ _ _ _ I5 ready1) ?_ (fun _ _ z => z.elim))
  intro fl s' hs
  cases fl with
  | next =>
    obtain ⟨σ', H', J, q⟩ := hs
    exact ⟨V.non, H', J.os, J.bare, J.base, J.hok, rfl, q⟩
  | ret z =>
    obtain ⟨v', σ', H', J, rv, q⟩ := hs
    exact ⟨v', H', J.os, J.bare, J.base, J.hok, rv, q⟩
  | brk =>
    obtain ⟨_, _, _, z⟩ := hs
    exact (z : False).elim
  | cont =>
    obtain ⟨_, _, _, z⟩ := hs
    exact (z : False).elim
end
/-! ### such an error as a value -/
/-- C(e, ..) as a value: a new error at a, its dict at d -/
def tNewE (C : Addr) (sp : Sp) (ta : TA) : TE := fun σ H Q => ta σ H fun vs H1 => vs.length ≤ 1000 ∧ ∀ a, H1 a = none → sp (.ref a :: vs) (upd H1 a (exo a C none)) (fun v H2 => v = .non ∧ H1 a = none ∧ Q (.ref a) H2) fun _ _ _ => False
theorem pe_oex {X : Cx} {x : Str} {C fI : Addr} {k : Nat} {fd : FuncData} {ps : List Str} {sp : Sp} {e : Expr} {es : List Expr} {ta : TA} {p pos : Pos} (T : OexC X.K C) (iC : PySem.W.findIn X.K (.ref C) "__init__" = some (some (.ref fI))) (tI : PySem.W.typeIn X.K (.ref fI) = some (.type "function"))
    (F1 : FnOk X.prog X.w X.K X.mg X.base CX0 k fI fd ps sp) (hr : Room (k + 1) X.A) (hb : Binds X.K fd ps []) (hg : Gl X x) (hm : X.mg x = some (.ref C)) (ha : PA X (e :: es) ta)
    (hdb : (x == ("__debug__" : Str)) = false := by decide) (he : starEach (e :: es) X.env = (false, eval e X.env) :: starEach es X.env := by rfl) (hpl : (backTo pos (starEach es X.env)).any (·.1) = false := by rfl) :
    PE X (.Call (.Name x p) (e :: es) [] pos) (tNewE C sp ta) := by
  constructor
  intro pins s σ H Q I h
  obtain ⟨nm, q, N, bs, bm, sn, sub, ab, col, dd, k0, k1, k2, k3, k5, hC, hbm⟩ := T.cls
  have args := ha.run pos pins s σ H _ I h
  refine wpAny_Call_Name_kw (ld_glob I hg hm (PySem.W.callWith_K (h₀ := X.base) I.ok.mod.kin T.kC (thn args ?_) he hpl) hdb)
  rintro us s1 ⟨vs, H1, J, r1, hz, want⟩
  refine ⟨J.kIn, ?_⟩
  show wpAny _ _ (call (.ref C) us) _ _ _
  obtain ⟨hp, g, dr, tk, os⟩ := s1
  let a := hp.objs.size + 1
  let h2 : Heap := (hp.push (PySem.W.kdv_tup us)).push (PySem.HandSPX.excO C hp.objs.size)
  have big : hp.objs.size ≤ a := Nat.le_succ _
  have na : H1 a = none := J.hok.fresh big
  have keep : ∀ b o, hp.get? b = some o → h2.get? b = some o := fun b o z => Heap.get?_push_of_some _ (Heap.get?_push_of_some _ z)
  have at2 : h2.get? a = some (PySem.HandSPX.excO C hp.objs.size) := by
    show ((hp.push (PySem.W.kdv_tup us)).push (PySem.HandSPX.excO C hp.objs.size)).get? (hp.objs.size + 1) = _
    heap_get
  have J2 : Inv X pins σ (upd H1 a (exo a C none)) ⟨h2, g, dr, tk, os⟩ := J.laid (t' := tk) (a := a) (o := exo a C none) (h' := h2) keep big (exo_ok at2)
  have rel : Vals (V.ref a :: vs) (Value.ref a :: us) := .cons rfl r1
  have ready := want a na
  have len : (Value.ref a :: us).length = ps.length := by
    rw [← rel.length]
    exact F1.len _ _ _ _ ready
  have lus : us.length ≤ sizeLine := by
    rw [← r1.length, sizeLine_eq]
    omega
  have rel0 : Vals (V.ref a :: vs) (Value.ref a :: us ++ []) := by
    rw [List.append_nil]
    exact rel
  refine wpAny_call (PySem.HandSPX.call_own F.excBase_ValueError (fun Y => PySem.HandSPX.refsVE_contains Y bm hbm) (J.kIn _ _ hC) (PySem.W.looks_findIn J.kIn iC) (fun self => PySem.W.bind_fn J.kIn self tI) lus
    (codeAny_mono (F1.run _ X.stack _ _ ⟨Value.ref a :: us, []⟩ (Value.ref a :: us ++ []) (V.ref a :: vs) _ (fun _ _ _ => False) (hr.make C us []) (J2.env0.make C us []) (hb _ (Value.ref a :: us) J2.kIn (by rw [List.append_nil]; exact len)) rel0 ready) ?_))
  intro r s' hq
  match r, hq with
  | .error _, hq => exact (hq : False).elim
  | .ok .next, hq => exact False.elim hq
  | .ok .brk, hq => exact False.elim hq
  | .ok .cont, hq => exact False.elim hq
  | .ok (.ret u), hq =>
    obtain ⟨v, H2, os2, bare2, un2, ok2, rv, ev, _, q2⟩ := hq
    subst ev
    obtain ⟨hh2, g2, d2, t2, os'⟩ := s'
    exact ⟨rv, .ref a, H2, J2.call' (ch := []) os2 un2 ok2 bare2 (fun b z => nomatch z), rfl, q2⟩
/-! ### e.f of such an error that is tracked -/
def tExf (K : PySem.W.Frag) (f : Str) (te : TE) : TE := fun σ H Q => te σ H fun x H1 => ∃ (a C d : Addr) (fs : List (Str × V)) (v : V), x = .ref a ∧ ExcC K C ∧ PySem.W.findIn K (.ref C) f = some none ∧ H1 a = some (exo a C (some d)) ∧ H1 d = some (exd d fs) ∧ fs.lookup f = some v ∧ Q v H1
theorem pe_exf {X : Cx} {e : Expr} {te : TE} {pos : Pos} {n : Str} (he : PE X e te) (hb : attributeBase e n X.env (eval e X.env) = eval e X.env := by rfl) : PE X (.Attribute e n pos) (tExf X.K n te) := by
  constructor
  intro pins s σ H Q I h
  refine attr_of hb (thn (he.run pins s σ H _ I h) ?_)
  rintro u s1 ⟨x, H1, J, rx, a, C, d, fs, v, rfl, T, hno, ea, ed, hl, q⟩
  cases (show u = Value.ref a from rx)
  obtain ⟨t1, ho⟩ := exo_at J.hok ea
  obtain ⟨mA, hns, hr⟩ := exd_at J.hok ed
  obtain ⟨od, hod, hlk⟩ := lookIn_ns hns
  obtain ⟨w', hw, rw'⟩ := RelO.some_of (v := v) (o := mA n) (by rw [← hl]; exact hr n)
  have inst : PySem.W.InstAt s1.heap a { cls := .ref C, dict := some d, data := .fields #[.ref t1, .none, .none, .none, .bool false, .none] } C (some od) := ⟨ho, rfl, rfl, hod⟩
  exact HandSPX.exc_get J.kIn inst T.hg T.hk T.hs (PySem.W.findObj_own T.hd hno rfl (by rw [hlk, hw])) (handed_of rw') ⟨v, H1, J.tok _, rw', q⟩
/-! ### isinstance of an error that is tracked -/
theorem found_cls {K : PySem.W.Frag} {D : Addr} (T : ExcC K D) (od : Option Obj) : PySem.W.findObj K D od "__class__" = some (.bind (.builtin "getset_descriptor.__get__") (.builtin "object.__class__")) := by
  cases od with
  | none =>
    refine PySem.W.findObj_dataN ?_ T.ha T.hn T.ht
    obtain ⟨cd, e, _⟩ := PySem.W.any_some T.hd
    rw [e] <;> rfl
  | some o =>
    refine PySem.W.findObj_data ?_ T.ha T.hn T.ht
    obtain ⟨cd, e, _⟩ := PySem.W.any_some T.hd
    rw [e] <;> rfl
/-- e.__class__ of an error, with a dict of its own or without -/
theorem err_class {prog : Program} {w : World} {A : Around} {E : Value → Shared → Prop} {s : Shared} {K : PySem.W.Frag} {x D : Addr} {ox : Obj} {od : Option Obj} {Q : Option Value → Shared → Prop} (T : ExcC K D) (X : K.In s.heap) (I : PySem.W.InstAt s.heap x ox D od)
    (h : Q (some (.ref D)) { s with toks := s.toks + 1 }) : wpAny (model prog w) A (getAttr? (.ref x) "__class__") Q E s := by
  obtain ⟨hp, g, d, t, os⟩ := s
  have isD := I.type (M := model prog w)
  have noGo : (Value.builtin "BaseException.__getattribute__" == Value.builtin "object.__getattribute__") = false := by decide +kernel
  have plain : (onTheHeap (Value.ref D) && Value.builtin "BaseException.__getattribute__" == Value.builtin "object.__getattribute__") = false := by
    rw [noGo]
    exact Bool.and_false _
  unfold getAttr? getAttrBy? getAttrBy
  refine wpAny_bind (wpAny_mkText (wpAny_bind (wpAny_attempt (wpAny_holding (wpAny_bind (isD.at (wpAny_bind ((PySem.W.looks_findIn (M := model prog w) X T.hg).at ?_))))))))
  show wpAny _ _ (if (onTheHeap (Value.ref D) && Value.builtin "BaseException.__getattribute__" == Value.builtin "object.__getattribute__") = true then _ else _) _ _ _
  rw [if_neg (by rw [plain]; exact Bool.false_ne_true)]
  unfold getAttrByItsOwn hookBefore
  refine wpAny_bind ?_
  have onHeap : onTheHeap (Value.ref D) = true := rfl
  rw [if_pos onHeap]
  refine (PySem.W.looks_findIn (M := model prog w) X T.hk).at (wpAny_bind (wpAny_attempt (wpAny_holding ?_)))
  unfold callGetattribute boundAndCalled
  rw [if_neg (by exact Bool.false_ne_true), PySem.F.excAttr_ValueError.ga.bind (.ref x)]
  refine wpAny_bind (wpAny_pure ?_)
  show wpAny _ _ (call (.builtin "BaseException.__getattribute__") [.ref x, .str "__class__" t]) _ _ _
  refine wpAny_call (codeAny_call_builtin PySem.F.excAttr_ValueError.ga.plain PySem.F.entry_bexc_ga ?_)
  have sub : PySem.W.Looks (model prog w) hp (isInstance (.ref x) (.type "BaseException")) true := isD.andThen (PySem.W.looks_subIn X T.hs)
  refine @PySem.W.check_slot (model prog w) _ _ ⟨hp, g, d, t + 1, os⟩ "BaseException.__getattribute__" "BaseException" "__getattribute__" (.ref x) [.str "__class__" t] [] _ (by decide +kernel) (by decide +kernel) sub (PySem.F.args_bexc_ga (.ref x) (.str "__class__" t)) ?_
  unfold Builtin.«object.__getattribute__»
  refine wpAny_bind (wpAny_of_eq (a := ((Value.ref x : Value), [Value.str "__class__" t])) (by first | rfl | (simp only [slotArgs]; rfl)) (wpAny_bind (wpAny_pure (wpAny_bind (isD.at (wpAny_bind ((PySem.W.looks_find (M := model prog w) X I (found_cls T od)).at ?_)))))))
  show wpAny _ _ (holding [Value.builtin "object.__class__"] (call (.builtin "getset_descriptor.__get__") [.builtin "object.__class__", .ref x, .ref D]) >>= ret) _ _ _
  refine wpAny_bind (wpAny_holding (wpAny_call (PySem.W.class_get (s := ⟨hp, g, d, t + 1, os⟩) (ox := ox) (od := od) X I T.hm (wpAny_pure ?_))))
  show wpAny _ _ (handedOut (.ref D)) _ _ _
  rw [PySem.W.handedOut_of (v := .ref D) rfl]
  first
    | exact wpAny_pure (wpAny_pure h)
    | exact wpAny_pure h
    | exact wpAny_pure (wpAny_bind (wpAny_pure (wpAny_pure h)))
theorem kitx_err {K : PySem.W.Frag} {x D : Addr} {ox : Obj} {od : Option Obj} (T : ExcC K D) : PySem.W.KitX K (.ref x) (.ref D) (fun h => PySem.W.InstAt h x ox D od) := by
  have Z := PySem.W.handS_kitx_exc (x := x) (ox := ox) T.hg T.hk T.hs T.hd T.ha T.hn T.ht T.hm
  refine ⟨fun _ _ _ I => I.type, fun M h X _ => ?_, Z.ne, fun X I k => err_class T X I k⟩
  obtain ⟨cdD, e, _⟩ := PySem.W.any_some T.hd
  unfold PySem.W.clsIn at e
  split at e
  · rename_i c' d' cd' sl' ho
    intro A' Q' E' s' k q
    unfold isType loadHead
    exact wpAny_bind (wpAny_loadPart (k _ _ (X _ _ ho)) (wpAny_pure q))
  · cases e
/-- an error of the class at C stands at a -/
def ErrAt (H : Hp) (a C : Addr) : Prop := H a = some (ExO (.ref C) a) ∨ ∃ d fs, H a = some (exo a C (some d)) ∧ H d = some (exd d fs)
def rIsX (K : PySem.W.Frag) : List V → Hp → VK → Prop := fun xs H Q => ∃ (a C : Addr) (c : V) (u : Value) (b : Bool), xs = [.ref a, c] ∧ ErrAt H a C ∧ ExcC K C ∧ ClsV c u ∧ PySem.W.kitOne K (.ref C) u = some b ∧ Q (.bl b) H
theorem call_isX {X : Cx} : CallR X (.builtin "isinstance") (rIsX X.K) := by
  intro pins s σ H xs us Q I r h
  obtain ⟨a, C, c, cv, b, rfl, err, T, hc, e, q⟩ := h
  obtain ⟨u1, u2, rfl, r1, r2⟩ := vals2 r
  cases (show u1 = Value.ref a from r1)
  have e2 := hc.eq r2
  subst e2
  rcases err with ea | ⟨d, fs, ea, ed⟩
  · obtain ⟨⟨oe, vs, ho, hz, hd, _⟩, _, _⟩ := I.hok a _ ea
    obtain ⟨oc, od, oda, osl⟩ := oe
    obtain ⟨h1, h2⟩ := hz
    dsimp only at h1 h2 hd
    subst h1 h2 hd
    exact PySem.W.kia_one (PySem.W.handS_kitx_exc T.hg T.hk T.hs T.hd T.ha T.hn T.ht T.hm) I.kIn (show PySem.W.InstAt s.heap a _ C none from ⟨ho, rfl, rfl, trivial⟩) e (fun z => nomatch z) fun tk => ⟨.bl b, H, I.tok tk, rfl, q⟩
  · obtain ⟨t1, ho⟩ := exo_at I.hok ea
    obtain ⟨mA, hns, _⟩ := exd_at I.hok ed
    obtain ⟨od, hod, _⟩ := lookIn_ns hns
    exact PySem.W.kia_one (kitx_err T) I.kIn (show PySem.W.InstAt s.heap a _ C (some od) from ⟨ho, rfl, rfl, hod⟩) e (fun z => nomatch z) fun tk => ⟨.bl b, H, I.tok tk, rfl, q⟩
end My

namespace My
open PySem PySem.Spec PyProof.Rows L2
/-! ### try with several clauses, each with a name -/
/-- what a clause names, where its name stands, what its suite does -/
structure Clause where
  c : Value
  at_ : Nat
  ts : Addr → Value → Option Addr → TS
/-- the ways out of a suite: the clause's name is gone -/
def gone (i : Nat) (D : Ends) : Ends where
  nx := fun σ H => D.nx (σ.set i none) H
  rt := D.rt
  bk := fun σ H => D.bk (σ.set i none) H
  ct := fun σ H => D.ct (σ.set i none) H
/-- what the clauses wish of the body's exception -/
def wEach (K : PySem.W.Frag) (W0 : WX) (D : Ends) : List Clause → WX
  | [] => W0
  | q :: r => fun cls d σ H => ∃ b, PySem.W.exmOne K cls q.c = some b ∧ (b = true → ∀ a, H a = none → q.ts a cls d (gone q.at_ D) (σ.set q.at_ (some (.ref a))) H) ∧ (b = false → wEach K W0 D r cls d σ H)
inductive Clauses (X : Cx) : List ExceptHandler → List Clause → Prop
  | nil : Clauses X [] []
  | cons {x n : Str} {q : Clause} {st : Stmt} {sts : List Stmt} {p1 p2 : Pos} {more : List ExceptHandler} {r : List Clause} (nm : Names X x q.c) (slot : X.N[q.at_]? = some n) (loc : X.env.kindOf n = some .local)
      (body : ∀ (a : Addr) (oe : Obj) (cls : Value) (d : Option Addr) (pn : List (Addr × Obj)), Zc cls d oe → (∃ vs, oe.data = .fields vs) → PSs (X.suite a ((a, oe) :: pn)) (st :: sts) (q.ts a cls d)) (rest : Clauses X more r) :
      Clauses X (.ExceptHandler (some (.Name x p1)) (some n) (st :: sts) p2 :: more) (q :: r)
/-- the place where the clauses are asked -/
structure Landed (X : Cx) (a : Addr) (B : Heap) (sI s : Shared) (pins : List (Addr × Obj)) (σ : L2.St) (H : Hp) (cls : Value) (d : Option Addr) : Prop where
  J : Inv X pins σ H sI
  nb : ∀ b o, sI.heap.get? b = some o → b ∉ frs X.stack → B.get? b = some o
  up : sI.heap.UpToSlots s.heap
  os : s.os = sI.os
  ag : AllBare s.gens
  na : H a = none
  fl : HandSPX.FlyingZ B (X.env :: X.outer) a (Zc cls d) s.heap
section
variable {X : Cx} {a : Addr} {B : Heap} {sI s : Shared} {pins : List (Addr × Obj)} {σ : L2.St} {H : Hp} {cls : Value} {d : Option Addr}
theorem Landed.off (L : Landed X a B sI s pins σ H cls d) (hf : X.env.frame = some X.env.locals) : a ≠ X.env.locals ∧ a ∉ X.fs := by
  obtain ⟨o, vs, e, _, dt⟩ := L.fl.there
  have out : a ∉ frs (X.env :: X.outer) := by
    intro m
    obtain ⟨_, o', e', k⟩ := L.fl.2.2.1.mem m
    cases e.symm.trans e'
    exact k _ dt
  constructor
  · intro z
    refine out (List.mem_filterMap.mpr ⟨_, .head _, ?_⟩)
    rw [hf, z]
  · intro m
    obtain ⟨v, hv, q⟩ := List.mem_filterMap.mp m
    exact out (List.mem_filterMap.mpr ⟨v, .tail _ hv, q⟩)
theorem Landed.here (L : Landed X a B sI s pins σ H cls d) : Inv X pins σ H s := by
  have z := L.J.landed (s' := s) L.nb L.fl.1 L.up L.os L.ag
  exact z
theorem Landed.moved {h : Heap} (L : Landed X a B sI s pins σ H cls d) (f : HandSPX.FlyingZ B (X.env :: X.outer) a (Zc cls d) h) (u : s.heap.UpToSlots h) : Landed X a B sI { s with heap := h } pins σ H cls d :=
  ⟨L.J, L.nb, L.up.trans u, L.os, L.ag, L.na, f⟩
theorem Landed.asked {D : Ends} {W0 : WX} (hs : X.stack = X.env :: X.outer) (hf : X.env.frame = some X.env.locals) (hN : X.N.Nodup) (tk : Takes X W0) (L : Landed X a B sI s pins σ H cls d) :
    ∀ {hds : List ExceptHandler} {l : List Clause}, Clauses X hds l → wEach X.K W0 D l cls d σ H → wpAny (model X.prog X.w) X.A (handleBy (.ref a) X.env hds) (SP X pins D) X.xe s := by
  intro hds l cl
  have ok := L.J.ok
  obtain ⟨offL, offF⟩ := L.off hf
  obtain ⟨o, vs, ho, hz, hd⟩ := L.fl.there
  have S := L.here.suite ho hd L.na offL offF
  induction cl with
  | nil =>
    intro w
    refine wpAny_handleBy_nil ?_
    obtain ⟨_, _, _, o', vs', T, _, _, e', _, d', tb, _⟩ := id L.fl
    unfold PySem.passOn
    refine wpAny_bind (wpAny_field e' d' tb ?_)
    have nn : ¬ ((Value.ref T == Value.none) = true) := by simp
    rw [if_neg nn]
    have out : wpAny (model X.prog X.w) X.A (setFlight (.ref a) X.env.frame) (fun _ t => wpAny (model X.prog X.w) X.A (throw (.ref a) : Sem Flow) (SP X pins D) X.xe t) X.xe s := by
      rw [hf]
      refine HandSPX.setFlight_upZ L.fl fun g hg ug => wpAny_throw (tk _ _ ?_)
      have sky : Sky B X.stack a (Zc cls d) X.env.locals g := by
        rw [hs]
        exact .inr (.inr hg)
      exact ⟨_, _, _, _, _, _, _, _, rfl, L.J, L.nb, L.up.trans ug, sky, L.na, L.os, L.ag, w⟩
    first
      | exact wpAny_bind (wpAny_pure (wpAny_bind out))
      | exact wpAny_bind out
  | @cons x n q st sts p1 p2 more r nm slot loc body rest ih =>
    rintro ⟨b, eb, yes, no⟩
    refine wpAny_handleBy_cons (codeAny_handlers_test ?_) (by intro z; cases z)
    have ty : PySem.W.Looks (model X.prog X.w) s.heap (typeOf (.ref a)) cls := by
      intro A Q E t k z
      refine wpAny_typeOf_ref (k _ _ ho) ?_
      rw [hz.1]
      exact z
    have fits := PySem.W.exm_one (M := model X.prog X.w) L.here.kIn ty eb
    have named : ∀ {Q E : Value → Shared → Prop}, Q q.c s → wpAny (model X.prog X.w) (X.A.mark (some (.ref a))) (eval (.Name x p1) X.env) Q E s := by
      intro Q E z
      obtain ⟨g1, g2, g3⟩ := nm
      rcases g3 with g3 | ⟨g3, g4, g5⟩
      · exact ld_glob (X := X.suite a ((a, o) :: (X.pn ++ pins))) S g1 g3 z g2
      · exact ld_blt (X := X.suite a ((a, o) :: (X.pn ++ pins))) S g1 g3 g4 z g5 g2
    refine named (fits.here ?_)
    cases b with
    | false =>
      show wpAny _ X.A (handleBy (.ref a) X.env more) _ _ _
      exact ih (no rfl)
    | true =>
      refine codeAny_handlers_suite_as ?_
      refine HandSPX.lands_againZ L.fl fun g fg ug => ?_
      have Lm := L.moved fg ug
      obtain ⟨o2, _, e2, z2, d2⟩ := fg.there
      have S2 := Lm.here.suite e2 d2 L.na offL offF
      refine store_ok (X := X.suite a ((a, o2) :: (X.pn ++ pins))) (v := .ref a) S2 hN slot (.inl loc) rfl (fun t St => ?_) (.inr loc)
      have run := (body a o2 cls d (X.pn ++ pins) z2 ⟨_, d2⟩).run [] t _ H (gone q.at_ D) St (yes rfl a L.na)
      refine wpAny_mono run (fun f t6 post => ?_) (fun _ _ z => False.elim z)
      have close : ∀ {σ6 : L2.St} {H6 : Hp} {R : Shared → Prop}, Inv (X.suite a ((a, o2) :: (X.pn ++ pins))) [] σ6 H6 t6 → (∀ t7, Inv X pins (σ6.set q.at_ none) H6 t7 → R t7) →
          wpAny (model X.prog X.w) X.A (do bindName X.env n .none; unbindBehindTheSuite X.env n p2) (fun _ t7 => R t7) X.xe t6 := by
        intro σ6 H6 R I6 k
        exact gone_ok (I6.unsuite ok) hN slot loc k
      match f, post with
      | .next, ⟨_, _, I6, w6⟩ => exact close I6 fun t7 J7 => ⟨_, _, J7, w6⟩
      | .brk, ⟨_, _, I6, w6⟩ => exact close I6 fun t7 J7 => ⟨_, _, J7, w6⟩
      | .cont, ⟨_, _, I6, w6⟩ => exact close I6 fun t7 J7 => ⟨_, _, J7, w6⟩
      | .ret u, ⟨_, _, _, I6, r6, w6⟩ => exact close I6 fun t7 J7 => ⟨_, _, _, J7, r6, w6⟩
end
theorem ps_try_each {X : Cx} {body : List Stmt} {h0 : ExceptHandler} {hds : List ExceptHandler} {l : List Clause} {pos : Pos} {tb : WX → TS} {W0 : WX} (hs : X.stack = X.env :: X.outer) (hf : X.env.frame = some X.env.locals) (hN : X.N.Nodup) (tk : Takes X W0)
    (hb : ∀ (W : WX) (pn : List (Addr × Obj)) (xe : Value → Shared → Prop), Takes (X.tr pn xe) W → PassesOwn (model X.prog X.w) X.A X.env xe → PSs (X.tr pn xe) body (tb W)) (cl : Clauses X (h0 :: hds) l) :
    PS X (.Try body (h0 :: hds) [] [] pos) (fun D σ H => tb (wEach X.K W0 D l) D σ H) := by
  constructor
  intro pins s σ H D I h
  have ok := I.ok
  have fr : X.A.frames = some (X.env :: X.outer) := ok.frames.trans (congrArg some hs)
  refine wpAny_Try_except ?_
  refine wpAny_mono ((hb (wEach X.K W0 D l) (X.pn ++ pins)
    (fun e s1 => wpAny (model X.prog X.w) X.A (noteFrame e X.env) (fun _ s2 => wpAny (model X.prog X.w) X.A (setFlight e none) (fun _ s3 =>
      wpAny (model X.prog X.w) X.A (handleBy e X.env (h0 :: hds)) (SP X pins D) X.xe s3) X.xe s2) X.xe s1) ?_ PassesOwn.looking).run [] s σ H D (I.toTry _) h) ?_ (fun _ _ z => z)
  · rintro u s1 ⟨a, B, sI, pins1, σ1, H1, cls, d, rfl, J, nb, up, sky, na, os, ag, w⟩
    show wpAny (model X.prog X.w) X.A (noteFrame (.ref a) X.env) _ _ _
    have sky1 : Sky B (X.env :: X.outer) a (Zc cls d) X.env.locals s1.heap := by
      rw [← hs]
      exact sky
    refine Sky.land Zc.steady fr hf sky1 fun g fg ug => ?_
    have L : Landed X a B sI { s1 with heap := g } pins σ1 H1 cls d := ⟨J.ofTry ok, nb, up.trans ug, os, ag, na, fg⟩
    exact L.asked hs hf hN tk cl w
  · intro f s1 post
    match f, post with
    | .next, ⟨_, _, I6, w6⟩ => exact wpAny_execs_nil ⟨_, _, I6.ofTry ok, w6⟩
    | .brk, ⟨_, _, I6, w6⟩ => exact ⟨_, _, I6.ofTry ok, w6⟩
    | .cont, ⟨_, _, I6, w6⟩ => exact ⟨_, _, I6.ofTry ok, w6⟩
    | .ret u, ⟨_, _, _, I6, r6, w6⟩ => exact ⟨_, _, _, I6.ofTry ok, r6, w6⟩
end My

namespace My
open PySem PySem.Spec PyProof.Rows L2
/-! ### a set of texts, made of a list -/
def addU (us : List Str) (x : Str) : List Str := if us.any (· == x) then us else us ++ [x]
/-- each text once, in the order of the first ones -/
def uniq (xs : List Str) : List Str := xs.foldl addU []
theorem uniq_take {xs : List Str} {i : Nat} (h : i < xs.length) : uniq (xs.take (i + 1)) = addU (uniq (xs.take i)) (xs.getD i Str.empty) := by
  unfold uniq
  rw [List.take_succ, List.getElem?_eq_getElem h, Option.toList_some, List.foldl_append, List.getD_eq_getElem?_getD, List.getElem?_eq_getElem h]
  rfl
theorem addU_any (us : List Str) (x y : Str) : (addU us x).any (· == y) = (us.any (· == y) || decide (y = x)) := by
  unfold addU
  split
  · rename_i h
    by_cases e : y = x
    · rw [e, h]
      rfl
    · rw [decide_eq_false e, Bool.or_false]
  · rw [List.any_append]
    congr 1
    by_cases e : y = x
    · subst e
      simp
    · have n : (x == y) = false := beq_eq_false_iff_ne.mpr fun z => e z.symm
      simp [n, e]
theorem addU_len (us : List Str) (x : Str) : (addU us x).length = if us.any (· == x) then us.length else us.length + 1 := by
  unfold addU
  split
  · rfl
  · rw [List.length_append]
    rfl
theorem addU_le (us : List Str) (x : Str) : (addU us x).length ≤ us.length + 1 := by
  rw [addU_len]
  split <;> omega
theorem uniq_le (xs : List Str) : ∀ i, i ≤ xs.length → (uniq (xs.take i)).length ≤ i := by
  intro i
  induction i with
  | zero =>
    intro _
    rw [List.take_zero]
    exact Nat.le_refl 0
  | succ i ih =>
    intro h
    rw [uniq_take h]
    have z := ih (by omega)
    have y := addU_le (uniq (xs.take i)) (xs.getD i Str.empty)
    omega
theorem fold_len : ∀ (xs us : List Str), us.Nodup → (xs.foldl addU us).length ≤ us.length + xs.length ∧ ((xs.foldl addU us).length = us.length + xs.length ↔ (us ++ xs).Nodup)
  | [], us, hn => by simp [hn]
  | x :: r, us, hn => by
    by_cases h : us.any (· == x) = true
    · have e : addU us x = us := if_pos h
      obtain ⟨a, b⟩ := fold_len r us hn
      rw [List.foldl_cons, e, List.length_cons]
      refine ⟨by omega, ⟨fun z => by omega, fun z => ?_⟩⟩
      obtain ⟨y, hy, ey⟩ := List.any_eq_true.mp h
      have ey : y = x := beq_iff_eq.mp ey
      subst ey
      exact absurd rfl ((List.nodup_append.mp z).2.2 y hy y List.mem_cons_self)
    · have e : addU us x = us ++ [x] := if_neg h
      have nx : x ∉ us := fun z => h (List.any_eq_true.mpr ⟨x, z, beq_self_eq_true x⟩)
      have hn2 : (us ++ [x]).Nodup := by
        refine List.nodup_append.mpr ⟨hn, List.nodup_cons.mpr ⟨(fun z => nomatch z), List.nodup_nil⟩, fun a ha b hb => ?_⟩
        rw [List.mem_singleton.mp hb]
        exact fun z => nx (z ▸ ha)
      obtain ⟨a, b⟩ := fold_len r (us ++ [x]) hn2
      rw [List.foldl_cons, e, List.length_cons]
      rw [List.length_append, List.length_cons, List.length_nil] at a b
      refine ⟨by omega, ?_⟩
      rw [show us.length + (r.length + 1) = us.length + (0 + 1) + r.length by omega, b, List.append_assoc]
      rfl
theorem uniq_len (xs : List Str) : (uniq xs).length ≤ xs.length ∧ ((uniq xs).length = xs.length ↔ xs.Nodup) := by
  obtain ⟨a, b⟩ := fold_len xs [] List.nodup_nil
  rw [List.length_nil, Nat.zero_add, List.nil_append] at *
  exact ⟨a, b⟩
section
variable {P : Program} {w : World} {A : Around} {R : Result → Shared → Prop} {it : Addr} {fp wr : List Addr} {G : Array GenState → Array GenState → Prop} {n : Nat} {V1 : Nat → Value → Prop} {St1 : Nat → Shared → Prop}
theorem setOf_moved {a : Addr} {us : List Str} {st st' : Shared} {wr : List Addr} {G : Array GenState → Array GenState → Prop} (h : st.heap.SetOf (PySem.strKind P w) a (fun y => us.any (· == y)) us.length) (m : Moved wr G st st') (ha : a ∉ wr) : st'.heap.SetOf (PySem.strKind P w) a (fun y => us.any (· == y)) us.length := by
  obtain ⟨ob, e1, e2, e3, hob, more⟩ := h
  exact ⟨ob, e1, e2, e3, m.heap a _ ha hob, more⟩
theorem loop_texts (W : WalksS P w A.in1 it fp wr G n V1 St1) (a : Addr) (ha : a ∉ fp) {xs : List Str} (hn : n = xs.length) (hval : ∀ i v, V1 i v → ∃ t, v = .str (xs.getD i Str.empty) t) (hb : n + 1 < scanBound) :
    ∀ (m i : Nat) (st : Shared), i + m = n → St1 i st → st.heap.SetOf (PySem.strKind P w) a (fun y => (uniq (xs.take i)).any (· == y)) (uniq (xs.take i)).length →
      (∀ st', Moved (a :: wr) G st st' → st'.heap.SetOf (PySem.strKind P w) a (fun y => (uniq (xs.take n)).any (· == y)) (uniq (xs.take n)).length → R (.ok (.ret .none)) st') →
      codeAny (model P w) A (.builtin "set.update.loop" ⟨[.ref a, .ref it], []⟩) R st := by
  have ha2 : a ∉ wr := fun z => ha (W.sub _ z)
  intro m
  induction m with
  | zero =>
    intro i st him hst hS hR
    obtain rfl : i = n := him
    refine codeAny_builtin PyProof.Rows.F.entry_set_update_loop ?_
    rw [Around.under_plainId PyProof.Rows.F.plain_set_update_loop _]
    show wpAny _ A.in1 (pyNext (.ref it) >>= _) _ _ st
    refine wpAny_bind (W.done st _ _ hst fun st' mv => ?_)
    show wpAny _ A.in1 (ret Value.none) _ _ st'
    exact wpAny_pure (hR st' (mv.mono fun b hb => List.mem_cons_of_mem _ hb) (setOf_moved hS mv ha2))
  | succ m ih =>
    intro i st him hst hS hR
    have hi : i < n := by omega
    refine codeAny_builtin PyProof.Rows.F.entry_set_update_loop ?_
    rw [Around.under_plainId PyProof.Rows.F.plain_set_update_loop _]
    show wpAny _ A.in1 (pyNext (.ref it) >>= _) _ _ st
    refine wpAny_bind (W.item i st _ _ hi hst fun v st1 hv hst1 mv => ?_)
    obtain ⟨tk, rfl⟩ := hval i v hv
    have hS1 := setOf_moved hS mv ha2
    show wpAny _ A.in1 (holding [Value.str (xs.getD i Str.empty) tk] (setAdd a (.str (xs.getD i Str.empty) tk)) >>= _) _ _ st1
    refine wpAny_bind (wpAny_holding ?_)
    unfold setAdd
    refine wpAny_holding (wpAny_bind ((PySem.strKind P w).pyHash (k := xs.getD i Str.empty) (strKind_is _ _ _ _) ?_))
    have few := uniq_le xs i (by omega)
    refine wpAny_setAddHashed_of (knd := PySem.strKind P w) (s := { st1 with toks := st1.toks + 1 }) (strKind_is _ _ _ _) rfl hS1 (by omega) fun h2 only hS2 => ?_
    have hS3 : h2.SetOf (PySem.strKind P w) a (fun y => (uniq (xs.take (i + 1))).any (· == y)) (uniq (xs.take (i + 1))).length := by
      refine SetOf_congr hS2 (fun y => ?_) ?_
      · rw [uniq_take (by omega), addU_any]
      · rw [uniq_take (by omega), addU_len]
    refine wpAny_pure ⟨plainId_quiet PyProof.Rows.F.plain_set_update_loop _, ih (i + 1) _ (by omega) (W.frame _ st1 _ _ hst1 (Nat.le_succ _) fun b hb o e => ?_) hS3 fun st2 mv2 hS4 => hR st2 (Moved.trans W.gtrans ((mv.mono fun b hb => List.mem_cons_of_mem _ hb).then_heap (Nat.le_succ _) fun b o hb e => ?_) mv2) hS4⟩
    · rw [only.2 b fun z => ha (z ▸ hb)]
      exact e
    · rw [only.2 b fun z => hb (z ▸ List.mem_cons_self)]
      exact e
end
/-- what a new set looks like ahead of its first item -/
abbrev bareSet (led : Bool) : Obj := { cls := .type "set", dict := none, data := .set #[] 0 (.fresh 0 0 led) }
section
variable {P : Program} {w : World} {A : Around} {E : Value → Shared → Prop} {st : Shared}
/-- .. the heap behind the call: old things stay, the texts stand in the set at a, once each -/
def Made (P : Program) (w : World) (h0 : Heap) (a : Addr) (xs : List Str) (h1 : Heap) : Prop := h1.SetOf (PySem.strKind P w) a (fun y => (uniq xs).any (· == y)) (uniq xs).length ∧ ∀ b ob, b < h0.objs.size → h0.get? b = some ob → h1.get? b = some ob
theorem set_texts {l : Addr} {its : Array Value} {xs : List Str} {Q : Value → Shared → Prop} (hh : A.handled = none) (hl : st.heap.IsList l its) (hx : PyProof.Rows.StrsAre its.toList xs) (few : xs.length + 1 < scanBound)
    (done : ∀ h1 tk, Made P w st.heap st.heap.objs.size xs h1 → Q (.ref st.heap.objs.size) { st with heap := h1, toks := tk }) : wpAny (model P w) A (call (.type "set") [.ref l]) Q E st := by
  obtain ⟨c1, c2, order⟩ := PySem.F.called_set.mro
  have f1 := PySem.F.called_set.made
  have f2 := PySem.F.called_set.sub
  refine wpAny_call (codeAny_of_tree ?_)
  show wpAny _ _ (callAny (.type "set") _) _ _ _
  refine wpAny_pure ⟨Code.quiet_builtin _ (by decide +kernel), codeAny_builtin PySem.F.entry_type_call ?_⟩
  rw [Around.under_plain (weight_type_call_type "set" [.ref l] []) rfl]
  have f3 := PySem.F.called_set.notType
  have f4 := PySem.F.called_set.canCreate
  have f5 := PySem.F.typeCall_set_1 (.ref l)
  repeat (any_goals (first | assumption | wp_step))
  refine codeAny_mono (code_set_new_1 (.ref l) (E := E) (Q₁ := fun v s1 => ∃ led : Bool, v = .ref st.heap.objs.size ∧ s1 = { st with heap := st.heap.push (bareSet led) }) fun led => ⟨led, rfl, rfl⟩) fun r s1 hr => ?_
  cases r with
  | error e => exact hr
  | ok fl =>
    cases fl with
    | ret obj =>
      obtain ⟨led, rfl, rfl⟩ := hr
      have here : (st.heap.push (bareSet led)).get? st.heap.objs.size = some (bareSet led) := Heap.get?_push_size _ rfl
      have isSet : Shared.TypeIs { st with heap := st.heap.push (bareSet led) } (.ref st.heap.objs.size) "set" := ⟨_, here, rfl⟩
      have f6 := PySem.F.called_set.init.lookup
      have f7 := PySem.F.called_set.init.bind (.ref st.heap.objs.size)
      repeat (any_goals (first | assumption | wp_step))
      refine codeAny_mono (codeAny_call_builtin (R := wants (fun v s2 => v = .none ∧ ∃ h1 tk, s2 = { st with heap := h1, toks := tk } ∧ Made P w st.heap st.heap.objs.size xs h1) E) PySem.F.called_set.init.plain PySem.F.entry_set_init (check_set_init_1 isSet ?_)) fun r2 s2 hr2 => ?_
      · obtain ⟨⟨k1, k2, k3, k4⟩, lat, lc, nl, ld⟩ := hl
        dsimp only at lc ld
        subst lc ld
        have lat1 : (st.heap.push (bareSet led)).get? l = some { cls := .type "list", dict := k2, data := .seq its nl, slots := k4 } := Heap.get?_push_of_some _ lat
        have g1 := PySem.F.sub_list_set
        have g2 := PySem.F.sub_list_frozenset
        have g3 : (Value.type "list" == Value.type "dict") = false := by decide
        have isL : (st.heap.push (bareSet led)).IsList l its := ⟨_, lat1, rfl, nl, rfl⟩
        have low : l < st.heap.objs.size := Heap.lt_size lat
        unfold Builtin.«set.__init__» noKeywords Builtin.Frozenset.updateFrom
        generalize again : pyIter = PI
        wp_walk
        subst again
        refine wpAny_pyIter_list isL (wpAny_bind (wpAny_runValue ?_))
        have top : (st.heap.push (bareSet led)).objs.size = st.heap.objs.size + 1 := Heap.size_push ..
        have size : its.size = xs.length := by rw [← Array.length_toList, ← StrsAre.len_eq hx]
        refine loop_texts ((Walks.list (by simp [hh]) _ l (by rw [top]; exact Nat.ne_of_lt (Nat.lt_succ_of_lt low)) its).toS) st.heap.objs.size ?_ size (fun i v hv => SS.strs_at hx i v (by rw [Array.getElem?_toList]; exact hv)) (by rw [size]; exact few) its.size 0 _ (Nat.zero_add _) ⟨⟨_, Heap.get?_push_size _ rfl, rfl, rfl⟩, isL.push _⟩ ?_ ?_
        · rw [top]
          simp only [List.mem_cons, List.mem_singleton, List.not_mem_nil, or_false, not_or]
          exact ⟨Nat.ne_of_lt (Nat.lt_succ_self _), Nat.ne_of_gt low⟩
        · exact PyProof.Rows.SetOf_congr ((PyProof.Rows.setObjOf_fresh (knd := PySem.strKind P w) led).setOf (Heap.get?_push_of_some _ here) (by unfold scanBound; omega)) (fun _ => rfl) rfl
        · intro s3 mv hS
          rw [size, List.take_length] at hS
          obtain ⟨h3, g3, d3, t3, o3⟩ := s3
          obtain rfl : g3 = st.gens := mv.gens
          obtain rfl : d3 = st.drawn := mv.drawn
          obtain rfl : o3 = st.os := mv.os
          show wpAny _ _ _ _ _ _
          refine wpAny_pure ?_
          show wpAny _ _ (ret Value.none) _ _ _
          refine wpAny_pure ⟨rfl, h3, t3, rfl, hS, fun b ob hb e => mv.heap b ob ?_ (Heap.get?_push_of_some _ (Heap.get?_push_of_some _ e))⟩
          rw [top]
          simp only [List.mem_cons, List.mem_singleton, List.not_mem_nil, or_false, not_or]
          exact ⟨Nat.ne_of_lt hb, Nat.ne_of_lt (Nat.lt_succ_of_lt hb)⟩
      · cases r2 with
        | error e => exact hr2
        | ok fl2 =>
          cases fl2 with
          | ret v =>
            obtain ⟨rfl, h1, tk, rfl, made⟩ := hr2
            repeat (any_goals (first | assumption | wp_step))
            exact done _ _ made
          | _ => exact hr2.elim
    | _ => exact hr.elim
end
end My

namespace My
open PySem PySem.Spec PyProof.Rows L2
/-- len(set(xs)), xs a list of texts -/
def tLenSetT (K : PySem.W.Frag) (ta : TE) : TE := fun σ H Q => ta σ H fun x H1 => ∃ (l : Addr) (xs : List Str), x = .ref l ∧ SqL K H1 l (xs.map V.str) ∧ xs.length ≤ 30 ∧ Q (.int (uniq xs).length) H1
theorem pe_lenSetT {X : Cx} {a : Expr} {ta : TE} {p p2 q pos : Pos} (hc : X.calm = true) (hg : Gl X "len") (hm : X.mg "len" = none) (hg2 : Gl X "set") (hm2 : X.mg "set" = none) (ha : PE X a ta)
    (na : starEach [a] X.env = (false, eval a X.env) :: starEach [] X.env := by rfl) : PE X (.Call (.Name "len" p) [.Call (.Name "set" p2) [a] [] q] [] pos) (tLenSetT X.K ta) := by
  refine ⟨fun pins s σ H Q I h => ?_⟩
  refine Call_ (ld_blt I hg hm boot_len (PyProof.Rows.callWith_builtin1 (PyProof.Rows.args_cons ?_ rfl) rfl rfl))
  refine Call_ (ld_blt I hg2 hm2 boot_set (PyProof.Rows.callWith_type1 (PyProof.Rows.args_cons (thn (ha.run pins s σ H _ I h) fun v s1 hv => PyProof.Rows.args_nil ?_) na) na rfl))
  obtain ⟨x, H1, I1, r1, l, xs, rfl, hq, few, q1⟩ := hv
  cases r1
  obtain ⟨its, r, pl, hz⟩ := I1.list hq
  refine set_texts (I1.ok.hd hc) pl.isList (by simpa using strsAre_of r) (by unfold scanBound; omega) fun h1 tk made => PyProof.Rows.args_nil ?_
  obtain ⟨⟨ob, es, ep, t, ho, hex, hd, _, _, _, hf, hn⟩, old⟩ := made
  have I2 : Inv X pins σ H1 { s1 with heap := h1, toks := tk } := I1.kept fun b o e => old b o (Heap.lt_size e) e
  have z := (uniq_len xs).1
  exact call_len_set ho hex hd hf (by rw [hn]; omega) ⟨.int (uniq xs).length, H1, I2.tok _, ⟨_, by rw [hn]⟩, q1⟩
/-! ### a list != [] , whatever stands in it -/
def rNeNil : R2 := fun x y H Q => ∃ (a b : Addr) (xs : List V), x = .ref a ∧ y = .ref b ∧ H a = some (.lst xs) ∧ H b = some (.lst []) ∧ Q (.bl (!xs.isEmpty)) H
theorem op_neNil {X : Cx} (hu : X.A.units + 64 < cLine) : OpR X (compareOp .NotEq) rNeNil := by
  intro pins s σ H x y v u Q I rx ry h
  obtain ⟨a, b, xs, rfl, rfl, ha, hb, q⟩ := h
  cases rx
  cases ry
  obtain ⟨z, its, n, r, hl, e⟩ := I.lstM ha
  obtain ⟨z2, its2, n2, r2, hl2, e2⟩ := I.lstM hb
  have l1 : s.heap.IsList a its.toArray := ⟨_, e, rfl, n, rfl⟩
  have l2 : s.heap.IsList b its2.toArray := ⟨_, e2, rfl, n2, rfl⟩
  have l0 : its2 = [] := by
    cases its2 with
    | nil => rfl
    | cons => cases hl2
  subst l0
  cases xs with
  | nil =>
    have l3 : its = [] := by
      cases its with
      | nil => rfl
      | cons => cases hl
    subst l3
    exact SeqAt.RcNeAt.lists l1 l2 rfl (by omega) (e := fun _ => true) (fun j h1 h2 => absurd h1 (Nat.not_lt_zero j)) _ _ _ _ ⟨.bl false, H, I, rfl, q⟩
  | cons x0 r0 =>
    have big : its.length = r0.length + 1 := hl.symm
    exact SeqAt.RcNeAt.lists_lengths l1 l2 (by simp only [List.size_toArray, big, List.length_nil]; rfl) (by omega) _ _ _ _ ⟨.bl true, H, I, rfl, q⟩
end My

namespace My
open PySem PySem.Spec PyProof.Rows L2
/-! ### tuple(list), the new object told; dict of such a tuple of pairs -/
def rTupleF (K : PySem.W.Frag) : List V → Hp → VK → Prop := fun xs H Q => ∃ p ys, xs = [.ref p] ∧ SqL K H p ys ∧ ∀ l o, H l = none → o.dict = none → Q (.ref l) (upd H l (.frz o (.tup ys)))
theorem call_tupleF {X : Cx} : CallR X (.type "tuple") (rTupleF X.K) := by
  intro pins s σ H xs us Q I r h
  obtain ⟨p, ys, rfl, hq, q⟩ := h
  obtain ⟨u, rfl, rx⟩ := vals1 r
  cases rx
  obtain ⟨its, r', pl, hz⟩ := I.list hq
  have hlen := r'.length
  refine call_tuple_list pl.isList (fun h' kp => ?_) (by simp only [List.size_toArray] <;> omega)
  have I1 : Inv X pins σ H { s with heap := h' } := I.kept (t' := s.toks) kp
  have I2 : Inv X pins σ (upd H h'.objs.size (.frz { cls := .type "tuple", data := .seq its.toArray } (.tup ys))) { s with heap := h'.push { cls := .type "tuple", data := .seq its.toArray } } :=
    I1.laid (t' := s.toks) (fun b o e => Heap.get?_push_of_some _ e) (Nat.le_refl _) (show ObjOk X.prog X.w _ _ _ (.frz _ (.tup ys)) from ⟨Heap.get?_push_size _ rfl, hz, its, r', IsTup.new _ _⟩)
  exact ⟨.ref h'.objs.size, _, I2, rfl, q _ _ (I1.hok.fresh (Nat.le_refl _)) rfl⟩
/-- the pairs at ps as values -/
theorem pairs_at {X : Cx} {pins : List (Addr × Obj)} {σ : L2.St} {H : Hp} {s : Shared} (I : Inv X pins σ H s) : ∀ {ps : List Addr} {kvs : List (Key × V)}, Paired (fun p kv => SqT X.K H p [kV kv.1, kv.2]) ps kvs →
    ∃ (prs : List (Key × Value)) (raw : List (Value × Value)), KV kvs prs ∧ prs.length = ps.length ∧ raw.length = ps.length ∧ ∀ (j : Nat) (k v : Value), raw[j]? = some (k, v) → ∃ (b : Addr) (x : Key), ps[j]? = some b ∧ PySem.PairAt s.heap b k v ∧ prs[j]? = some (x, v) ∧ keyIs x k = true
  | _, _, .nil => ⟨[], [], .nil, rfl, rfl, fun j k v e => by simp at e⟩
  | _, _, .cons (a := p) (b := kv) h t => by
    obtain ⟨prs, raw, r, l1, l2, hp⟩ := pairs_at I t
    obtain ⟨its, rv, ht, _⟩ := I.tuple h
    obtain ⟨u, y, rfl, ru, ry⟩ := vals2 rv
    refine ⟨(kv.1, y) :: prs, (u, y) :: raw, .cons ⟨rfl, ry⟩ r, by rw [List.length_cons, List.length_cons, l1], by rw [List.length_cons, List.length_cons, l2], fun j k v e => ?_⟩
    cases j with
    | zero =>
      cases e
      exact ⟨p, kv.1, rfl, .inl ht, rfl, kV_is (P := X.prog) (w := X.w) ru⟩
    | succ j => exact hp j k v e
def rDictT (K : PySem.W.Frag) : List V → Hp → VK → Prop := fun xs H Q => ∃ (a : Addr) (ps : List Addr) (kvs : List (Key × V)) (o : Obj), xs = [.ref a] ∧ H a = some (.frz o (.tup (ps.map V.ref))) ∧ o.dict = none ∧ Paired (fun p kv => SqT K H p [kV kv.1, kv.2]) ps kvs ∧ ∀ q, H q = none → Q (.ref q) (upd H q (.dK (mergeK [] kvs)))
theorem call_dictT {X : Cx} (calm : X.calm = true) : CallR X (.type "dict") (rDictT X.K) := by
  intro pins s σ H xs us Q I r h
  obtain ⟨a, ps, kvs, o, rfl, ha, hd, hp, q⟩ := h
  obtain ⟨u, rfl, rx⟩ := vals1 r
  cases rx
  obtain ⟨ho, hz, its, rv, o2, ho2, hc, n, hdat⟩ := I.hok a _ ha
  cases ho.symm.trans ho2
  have ei := refs_at rv
  subst ei
  obtain ⟨prs, raw, rel, l1, l2, hpr⟩ := pairs_at I hp
  rw [List.length_map] at hz
  refine PySem.call_dict_pairs (knd := mixKind X.prog X.w) (kvs := prs) (PySem.PairArg.tuple a (ps.map Value.ref).toArray (fun j => ps.getD j 0) raw) (I.ok.hd calm) ⟨⟨o, n, ho, hc, hd, hdat⟩, ?_, fun j k v e => ?_⟩ ⟨by rw [l1, l2], fun j k v e => ?_⟩ (by rw [l2]; exact hz) fun h' tk hd' keep => ?_
  · rw [List.size_toArray, List.length_map, l2]
  · obtain ⟨b, x, e1, e2, e3, e4⟩ := hpr j k v e
    have eb : ps.getD j 0 = b := by rw [List.getD_eq_getElem?_getD, e1]; rfl
    show (ps.map Value.ref).toArray[j]? = some (.ref (ps.getD j 0)) ∧ PySem.PairAt s.heap (ps.getD j 0) k v
    rw [eb]
    exact ⟨by simp [e1], e2⟩
  · obtain ⟨b, x, e1, e2, e3, e4⟩ := hpr j k v e
    exact ⟨x, e3, e4⟩
  · have hm : (s.heap.objs.size == sysModules) = false := beq_eq_false_iff_ne.mpr (Nat.ne_of_gt I.big)
    have hlen : (mergeK [] kvs).length ≤ sizeLine := by
      have z := length_mergeK kvs []
      rw [List.length_nil, Nat.zero_add, rel.length, l1] at z
      omega
    have k : ∀ b u, s.heap.get? b = some u → h'.get? b = some u := fun b u e => keep b u (fun z => nomatch z) e
    exact ⟨.ref s.heap.objs.size, upd H s.heap.objs.size (.dK (mergeK [] kvs)), I.laid (t' := tk) k (Nat.le_refl _) (show ObjOk X.prog X.w _ _ _ (.dK (mergeK [] kvs)) from ⟨hlen, hm, merged [] prs, KV.merge rel .nil, hd'⟩), rfl, q _ (I.hok.fresh (Nat.le_refl _))⟩
end My

namespace My
open PySem PySem.Spec PyProof.Rows L2
/-! ### weaker words for + and slices of tuples: some tuple with these items, all else the same -/
def rCatX : R2 := fun x y H Q => ∃ a b xs ys, x = .ref a ∧ y = .ref b ∧ Rd H a (.tup xs) ∧ Rd H b (.tup ys) ∧ xs.length + ys.length ≤ sizeLine ∧ ∀ r H', Same H H' → Rd H' r (.tup (xs ++ ys)) → Q (.ref r) H'
theorem op_catX {X : Cx} : OpR X (binaryOp .Add) rCatX := by
  intro pins s σ H x y v u Q I rx ry h
  obtain ⟨a, b, xs, ys, rfl, rfl, ha, hb, hz, q⟩ := h
  refine op_catA pins s σ H _ _ v u Q I rx ry ⟨a, b, xs, ys, rfl, rfl, .inl ha, .inl hb, hz, fun e => ?_, fun _ e => ?_, fun _ _ p hp => ?_⟩
  · subst e
    exact q b H (L2.Same.refl H) hb
  · subst e
    exact q a H (L2.Same.refl H) (by rw [List.append_nil]; exact ha)
  · refine q p _ (fun c o e => ?_) (.inl upd_same)
    rw [upd_ne (ne_of_none e hp)]
    exact e
def rSlX : V → Option Int → Option Int → Hp → VK → Prop := fun x lo hi H Q => ∃ a xs, x = .ref a ∧ Rd H a (.tup xs) ∧ ∀ r H', Same H H' → Rd H' r (.tup (cutV xs lo hi)) → Q (.ref r) H'
theorem sl_X {X : Cx} : SlR X rSlX := by
  intro pins s σ H x v vl vu lo hi sl Q I rx hs pl pu h
  obtain ⟨a, xs, rfl, hx, q⟩ := h
  refine sl_tupA pins s σ H _ v vl vu lo hi sl Q I rx hs pl pu ⟨a, xs, rfl, .inl hx, fun w => ?_, fun _ p hp => ?_⟩
  · refine q a H (L2.Same.refl H) ?_
    unfold cutV
    rw [w.1, w.2, List.drop_zero, Nat.sub_zero, List.take_length]
    exact hx
  · refine q p _ (fun c o e => ?_) (.inl upd_same)
    rw [upd_ne (ne_of_none e hp)]
    exact e
/-! ### t[::-1] of a tuple -/
section
open MeetsSeq MeetsSeq2 MeetsSeq3 SeqRoads2
variable {P : Program} {w : World} {A : Around} {E : Value → Shared → Prop} {st : Shared}
theorem applied_back {sl : Addr} {v1 v2 v3 : Value} {n : Nat} {Q : Int × Int × Nat → Shared → Prop} (hs : st.heap.IsSliceOf sl v1 v2 v3) (p1 : IsPart v1 none) (p2 : IsPart v2 none) (p3 : IsPart v3 (some (-1)))
    (h : Q ((n : Int) - 1, -1, n) st) : wpAny (model P w) A (Builtin.Slice.sliceApplied (.ref sl) (pure (n : Int))) Q E st := by
  obtain ⟨ob, at1, cl1, da1⟩ := id hs
  unfold Builtin.Slice.sliceApplied Builtin.Slice.sliceFields
  refine wpAny_bind (wpAny_bind (wpAny_field at1 da1 (x := v1) rfl (wpAny_bind (wpAny_field at1 da1 (x := v2) rfl (wpAny_bind (wpAny_field at1 da1 (x := v3) rfl (wpAny_pure ?_)))))))
  refine wpAny_bind (HT.slicePart_ p3 ?_)
  show wpAny _ _ (if ((-1 : Int) == 0) = true then _ else _) _ _ st
  rw [if_neg (by decide)]
  refine wpAny_bind (HT.slicePart_ p1 (wpAny_bind (HT.slicePart_ p2 (wpAny_bind (wpAny_pure ?_)))))
  have adj : Builtin.Slice.sliceAdjust none none (-1) (n : Int) = ((n : Int) - 1, -1) := rfl
  have pla : Builtin.Slice.slicePlaces ((n : Int) - 1) (-1) (-1) = n := by
    unfold Builtin.Slice.slicePlaces
    rw [if_neg (by decide)]
    by_cases z : (n : Int) - 1 > -1
    · rw [if_pos z, show (- -1 : Int) = 1 by decide, Int.ediv_one]
      omega
    · rw [if_neg z]
      omega
  show wpAny _ _ (match Builtin.Slice.sliceAdjust none none (-1) (n : Int) with | (lo, hi) => pure (lo, (-1 : Int), Builtin.Slice.slicePlaces lo hi (-1))) _ _ st
  rw [adj]
  show wpAny _ _ (pure ((n : Int) - 1, (-1 : Int), Builtin.Slice.slicePlaces ((n : Int) - 1) (-1) (-1))) _ _ st
  rw [pla]
  exact wpAny_pure h
theorem fm_congr {α β : Type} {f g : α → Option β} : ∀ {l : List α}, (∀ a ∈ l, f a = g a) → l.filterMap f = l.filterMap g
  | [], _ => rfl
  | a :: r, h => by
    rw [List.filterMap_cons, List.filterMap_cons, h a List.mem_cons_self, fm_congr fun b hb => h b (List.mem_cons_of_mem _ hb)]
theorem pick_back (its : Array Value) : ((List.range its.size).filterMap fun (m : Nat) => its[(((its.size : Int) - 1) + (m : Int) * (-1)).toNat]?).toArray = its.toList.reverse.toArray := by
  have e : (List.range its.size).filterMap (fun (m : Nat) => its[(((its.size : Int) - 1) + (m : Int) * (-1)).toNat]?) = ((List.range its.size).map fun k => its.size - 1 - k).filterMap (its[·]?) := by
    rw [List.filterMap_map]
    refine fm_congr fun m hm => ?_
    have z := List.mem_range.mp hm
    have y : (((its.size : Int) - 1) + (m : Int) * (-1)).toNat = its.size - 1 - m := by omega
    show its[(((its.size : Int) - 1) + (m : Int) * (-1)).toNat]? = its[its.size - 1 - m]?
    rw [y]
  rw [e, PySem.W.krv_range, List.filterMap_reverse, PySem.W.krv_all]
theorem tuple_back {a sl : Addr} {its : Array Value} {v1 v2 v3 : Value} {Q : Value → Shared → Prop} (ht : IsTup st.heap a its) (hs : st.heap.IsSliceOf sl v1 v2 v3) (p1 : IsPart v1 none) (p2 : IsPart v2 none) (p3 : IsPart v3 (some (-1)))
    (h : Q (.ref st.heap.objs.size) { st with heap := st.heap.push { cls := .type "tuple", data := .seq its.toList.reverse.toArray } }) (few : its.size ≤ sizeLine) : wpAny (model P w) A (getItem (.ref a) (.ref sl)) Q E st := by
  have ok : sizeOk (.seq its.toList.reverse.toArray) := by
    show its.toList.reverse.toArray.size ≤ sizeLine
    rw [List.size_toArray, List.length_reverse, Array.length_toList]
    exact few
  obtain ⟨ob, at1, cl1, da1⟩ := id hs
  have isS : st.TypeIs (.ref sl) "slice" := ⟨ob, at1, cl1⟩
  unfold getItem
  try with_reducible refine wpAny_holding ?_
  first | refine wpAny_bind (wpAny_pure ?_) | skip
  refine wpAny_bind (wpAny_sequenceKey ht.typeIs (by decide) ?_)
  refine wpAny_bind (wpAny_callSpecial?_slot (name := Str.ofString "__getitem__") ht.typeIs PyProof.Rows.slot_tuple_getitem
    (wpAny_call_entry PyProof.Rows.slot_tuple_getitem ht.typeIs PyProof.Rows.entry_tuple_getitem ?_ (PyProof.Rows.args_tuple_getitem _ _)))
  show wpAny _ _ (Builtin.Tuple.tupleItemsOf (.ref a) >>= _) _ _ st
  refine wpAny_bind (PyProof.Rows.tupleItemsOf_ ht (wpAny_bind (wpAny_typeOf isS ?_)))
  rw [if_pos (by decide)]
  refine wpAny_bind (applied_back hs p1 p2 p3 ?_)
  have no : ¬ (((((its.size : Nat) : Int) - 1) == 0 && (-1 : Int) == 1 && its.size == its.size) = true) := by
    rw [show ((-1 : Int) == 1) = false by decide, Bool.and_false, Bool.false_and]
    decide
  show wpAny _ _ (if ((((its.size : Nat) : Int) - 1) == 0 && (-1 : Int) == 1 && its.size == its.size) = true then _ else _) _ _ st
  rw [if_neg no, pick_back]
  first
    | exact wpAny_bind (m := Builtin.Tuple.tupleExact _) (wpAny_newObj_type (wpAny_pure ⟨_, rfl, wpAny_pure h⟩) ok)
    | exact wpAny_bind (m := Builtin.Tuple.tupleExact _) (wpAny_newObj_type (wpAny_bind (wpAny_pure (wpAny_pure ⟨_, rfl, wpAny_pure h⟩))) ok)
    | exact wpAny_bind (wpAny_bind (m := Builtin.Tuple.tupleExact _) (wpAny_newObj_type (wpAny_pure (wpAny_pure ⟨_, rfl, wpAny_pure h⟩)) ok))
    | exact wpAny_bind (wpAny_bind (m := Builtin.Tuple.tupleExact _) (wpAny_newObj_type (wpAny_pure ⟨_, rfl, wpAny_pure h⟩) ok))
end
/-- t[::-1] -/
def tRevT (K : PySem.W.Frag) (te : TE) : TE := fun σ H Q => te σ H fun x H1 => ∃ a xs, x = .ref a ∧ SqT K H1 a xs ∧ ∀ p, H1 p = none → Q (.ref p) (upd H1 p (.tup xs.reverse))
theorem pe_revT {X : Cx} {e : Expr} {te : TE} {k : Nat} {p1 p2 p3 pos : Pos} (he : PE X e te) : PE X (.Subscript e (.Slice none none (some (.UnaryOp .USub (.Constant (.int 1) k p1) p2)) p3) pos) (tRevT X.K te) := by
  refine ⟨fun pins s σ H Q I h => Subscript_ (thn (he.run pins s σ H _ I h) fun v s1 hv => ?_)⟩
  obtain ⟨x, H1, I1, r1, a, xs, rfl, hx, q⟩ := hv
  cases r1
  have part : PO X (some (.UnaryOp .USub (.Constant (.int 1) k p1) p2)) (tPart (tUn (rU fun i => .int (-i)) (tC (.int 1)))) := po_some (pe_un un_neg pe_int)
  refine wpAny_Slice (thn (po_none.run pins s1 σ H1 (fun o H2 => o = none ∧ H2 = H1) I1 ⟨rfl, rfl⟩) fun vl s2 h2 => ?_)
  obtain ⟨_, H2, I2, pl, rfl, rfl⟩ := h2
  refine thn (po_none.run pins s2 σ H2 (fun o H3 => o = none ∧ H3 = H2) I2 ⟨rfl, rfl⟩) fun vu s3 h3 => ?_
  obtain ⟨_, H3, I3, pu, rfl, rfl⟩ := h3
  refine thn (part.run pins s3 σ H3 (fun o H4 => o = some (-1) ∧ H4 = H3) I3 ⟨1, rfl, -1, rfl, rfl, rfl⟩) fun vs s4 h4 => ?_
  obtain ⟨_, H4, I4, ps, rfl, rfl⟩ := h4
  have I5 : Inv X pins σ H4 { s4 with heap := s4.heap.push { cls := .type "slice", data := .fields #[vl, vu, vs] } } := I4.kept (t' := s4.toks) fun b ob q => Heap.get?_push_of_some _ q
  obtain ⟨its, r, ht, hz⟩ := I5.tuple hx
  have hlen := r.length
  show wpAny (model X.prog X.w) X.A (subscriptTail e (.Slice none none (some (.UnaryOp .USub (.Constant (.int 1) k p1) p2)) p3) (.ref a) (.ref s4.heap.objs.size)) (EP X pins σ Q) X.xe { s4 with heap := s4.heap.push { cls := .type "slice", data := .fields #[vl, vu, vs] } }
  refine tail_any (ops := [.ref a, .ref s4.heap.objs.size]) ht.typeIs (PyProof.Rows.slot_tuple_getitem.lookup) ?_ (by with_unfolding_all rfl)
  refine tuple_back ht (Heap.IsSliceOf.new _ vl vu vs) pl pu ps ?_ (by rw [List.size_toArray]; omega)
  exact ⟨.ref _, _, I5.laid (t' := s4.toks) (o := .tup xs.reverse) (fun b ob q => Heap.get?_push_of_some _ q) (Nat.le_refl _) ⟨by rw [List.length_reverse]; exact hz, _, r.reverse, IsTup.new _ _⟩, rfl, q _ (I5.hok.fresh (Nat.le_refl _))⟩
end My

namespace My
open PySem PySem.Spec PyProof.Rows L2
/-! ### xs.extend(t) -/
theorem ext_tup (l : Addr) (items : Array Value) (n : Nat) (b : Addr) (dd : Option Addr) (sl : Array (Option Value)) (items2 : Array Value) (n2 : Nat) (hs0 : ¬(!items.isEmpty && Builtin.List.listTooLong (items.size + items2.size)) = true) (hs1 : items.size ≤ sizeLine) (hs2 : items.size + items2.size ≤ sizeLine + 1) :
    Meets (Builtin.«list.extend» ⟨[.ref l, .ref b], []⟩) (fun _ R s => s.heap.get? l = some { cls := .type "list", dict := none, data := .seq items n, slots := #[] } ∧ s.heap.get? b = some { cls := .type "tuple", dict := dd, data := .seq items2 n2, slots := sl } ∧ R (.ok (.ret Value.none)) { s with heap := s.heap.update l (Obj.mapSeq fun x => x ++ items2), toks := s.toks }) :=
  .of_wp fun prog w A R s h => by
    obtain ⟨hp, g, d, tk, os⟩ := s
    obtain ⟨hl, hb, h⟩ := h
    have f1 := AutoSeq1.idx_int
    have f2 := AutoSeq1.sub_tuple_tuple
    have f3 := AutoSeq1.sub_list_list
    have f4 := AutoSeq1.sub_tuple_list
    have f5 := AutoSeq1.sub_list_tuple
    have hz' : (items ++ items2).size ≤ sizeLine + 1 := by rw [Array.size_append]; exact hs2
    wp_walk using (wpAny_updateSeq hl rfl (hz := hs1) (_hz' := hz')), AutoSeq1.wpAny_loadPart' hl, AutoSeq1.wpAny_loadPart' hb
    exact ⟨_, rfl, h⟩
def rExtendT (K : PySem.W.Frag) : V → List V → Hp → VK → Prop := fun x vs H Q => ∃ l b xs zs, x = .ref l ∧ vs = [.ref b] ∧ H l = some (.lst xs) ∧ SqT K H b zs ∧ xs.length + zs.length ≤ sizeLine ∧ Q .non (upd H l (.lst (xs ++ zs)))
theorem mt_extendT {X : Cx} : MtR X "list.extend" (rExtendT X.K) := by
  intro pins s σ H x vs v us Q I rx rv h
  obtain ⟨l, b, xs, zs, rfl, rfl, hH, hB, hz, q⟩ := h
  cases rx
  obtain ⟨u, rfl, ru⟩ := rv.one
  cases ru
  obtain ⟨z, its, n, r, hl, e⟩ := I.lstM hH
  obtain ⟨its2, r2, ⟨⟨cls, dd, data, sl⟩, ho, hc, n2, hd⟩, hz2⟩ := I.tuple hB
  simp only at hc hd
  subst hc hd
  have hl2 := r2.length
  have hsz : its.toArray.size + its2.toArray.size ≤ sizeLine := by rw [List.size_toArray, List.size_toArray]; omega
  have hlong : ¬ (!its.toArray.isEmpty && Builtin.List.listTooLong (its.toArray.size + its2.toArray.size)) = true := by
    rw [notLongL hsz, Bool.and_false]
    exact Bool.false_ne_true
  refine call_meets F.slot_list_extend ⟨_, e, rfl⟩ F.entry_list_extend (F.args_list_extend_2 _ _)
    (ext_tup l its.toArray n b dd sl its2.toArray n2 hlong (by rw [List.size_toArray]; omega) (by omega)) ⟨e, ho, ?_⟩
  refine ⟨.non, _, I.lset (its' := its ++ its2) hH e (by simp) (r.append r2) ?_, rfl, q⟩
  rw [List.length_append]
  omega
/-! ### t * n, some tuple with these items -/
theorem tuple_mulSame (l : Addr) (items : Array Value) (n : Nat) (dd : Option Addr) (sl : Array (Option Value)) (u : Tok) :
    Meets (Builtin.«tuple.__mul__» ⟨[.ref l, .int 1 u], []⟩) (fun _ R s => s.heap.get? l = some { cls := .type "tuple", dict := dd, data := .seq items n, slots := sl } ∧ R (.ok (.ret (Value.ref l))) s) :=
  .of_wp fun prog w A R s h => by
    obtain ⟨hp, g, d, tk, os⟩ := s
    obtain ⟨hl, h⟩ := h
    have f1 := AutoSeq1.idx_int
    have c1 : (items.isEmpty || (1 : Int) == 1) = true := by rw [show ((1 : Int) == 1) = true by decide, Bool.or_true]
    wp_walk using AutoSeq1.wpAny_loadPart' hl
    repeat (first
      | (refine wpAny_ite_true c1 ?_; wp_walk using AutoSeq1.wpAny_loadPart' hl)
      | (refine wpAny_ite_false (by decide) ?_; wp_walk using AutoSeq1.wpAny_loadPart' hl))
    exact ⟨_, rfl, h⟩
theorem tuple_mulZero (l : Addr) (items : Array Value) (n : Nat) (dd : Option Addr) (sl : Array (Option Value)) (u : Tok) (he : items.isEmpty = false) :
    Meets (Builtin.«tuple.__mul__» ⟨[.ref l, .int 0 u], []⟩) (fun _ R s => s.heap.get? l = some { cls := .type "tuple", dict := dd, data := .seq items n, slots := sl } ∧ R (.ok (.ret (Value.ref s.heap.objs.size))) { s with heap := s.heap.push { cls := Value.type "tuple", data := Data.seq #[] }, toks := s.toks }) :=
  .of_wp fun prog w A R s h => by
    obtain ⟨hp, g, d, tk, os⟩ := s
    obtain ⟨hl, h⟩ := h
    have f1 := AutoSeq1.idx_int
    have c1 : (items.isEmpty || (0 : Int) == 1) = false := by rw [he]; decide
    have c2 : (decide ((0 : Int) ≤ 0) || items.isEmpty) = true := by rw [he]; decide
    wp_walk using AutoSeq1.wpAny_loadPart' hl
    repeat (first
      | (refine wpAny_ite_false (decide_eq_false (by rw [c1]; exact Bool.false_ne_true)) ?_; wp_walk using AutoSeq1.wpAny_loadPart' hl)
      | (refine wpAny_ite_true (decide_eq_true c2) ?_; wp_walk using AutoSeq1.wpAny_loadPart' hl)
      | (refine wpAny_ite_true c2 ?_; wp_walk using AutoSeq1.wpAny_loadPart' hl)
      | (refine wpAny_ite_false (by decide) ?_; wp_walk using AutoSeq1.wpAny_loadPart' hl))
    exact ⟨_, rfl, h⟩
def rRepX : R2 := fun x y H Q => ∃ l k xs, x = .ref l ∧ y = .int k ∧ Rd H l (.tup xs) ∧ xs ≠ [] ∧ 0 ≤ k ∧ k ≤ 1000 ∧ xs.length ≤ 1000 ∧ ∀ r H', Same H H' → Rd H' r (.tup (List.replicate k.toNat xs).flatten) → Q (.ref r) H'
theorem op_repX {X : Cx} : OpR X (binaryOp .Mult) rRepX := by
  intro pins s σ H x y v u Q I rx ry h
  obtain ⟨l, k, xs, rfl, rfl, hT, hne, h1, h2, hz, q⟩ := h
  have new : ∀ (p : Addr) (zs : List V), H p = none → zs = (List.replicate k.toNat xs).flatten → Q (.ref p) (upd H p (.tup zs)) := fun p zs hp e => q p _ (fun c o z => by rw [upd_ne (ne_of_none z hp)]; exact z) (.inl (by rw [upd_same, e]))
  by_cases k2 : 2 ≤ k
  · exact op_repT pins s σ H _ _ v u Q I rx ry ⟨l, k, xs, rfl, rfl, .inl hT, hne, k2, h2, hz, fun p hp => new p _ hp rfl⟩
  · cases rx
    obtain ⟨t, rfl⟩ := ry
    obtain ⟨its, r, ⟨⟨cls, dd, data, sl⟩, ho, hc, n, hd⟩, hs⟩ := I.tuple (show SqT X.K H l xs from .inl hT)
    simp only at hc hd
    subst hc hd
    have hle : its.length = xs.length := r.length.symm
    have hi : its.toArray.isEmpty = false := by
      cases its with
      | nil => exact absurd (List.eq_nil_of_length_eq_zero hle.symm) hne
      | cons a b => rfl
    have k01 : k = 0 ∨ k = 1 := by omega
    rcases k01 with rfl | rfl
    · refine wpAny_binaryOp_repeat_ref (T := "tuple") (U := "int") (by decide) ⟨_, ho, rfl⟩ (fun s' => typeIs_int s' 0 t) noFill_tuple_mul F.fills_int_mul F.slot_int_rmul repeat_tuple F.slot_int_index.lookup
        (call_meets F.slot_int_rmul (typeIs_int s 0 t) F.entry_int_rmul (F.args_int_rmul_2 _ _) (int_rmul_tuple 0 t l its.toArray n dd sl)
          ⟨ho, rfl, ⟨_, ho, rfl⟩, call_meets F.slot_tuple_mul ⟨_, ho, rfl⟩ F.entry_tuple_mul (F.args_tuple_mul_2 _ _) (tuple_mulZero l its.toArray n dd sl t hi) ⟨ho, ?_⟩⟩)
      refine ⟨.ref s.heap.objs.size, _, I.laid (t' := s.toks) (o := .tup []) (fun b ob q => Heap.get?_push_of_some _ q) (Nat.le_refl _) ?_, rfl, new _ _ (I.hok.fresh (Nat.le_refl _)) rfl⟩
      exact ⟨Nat.zero_le _, [], .nil, IsTup.new _ _⟩
    · refine wpAny_binaryOp_repeat_ref (T := "tuple") (U := "int") (by decide) ⟨_, ho, rfl⟩ (fun s' => typeIs_int s' 1 t) noFill_tuple_mul F.fills_int_mul F.slot_int_rmul repeat_tuple F.slot_int_index.lookup
        (call_meets F.slot_int_rmul (typeIs_int s 1 t) F.entry_int_rmul (F.args_int_rmul_2 _ _) (int_rmul_tuple 1 t l its.toArray n dd sl)
          ⟨ho, rfl, ⟨_, ho, rfl⟩, call_meets F.slot_tuple_mul ⟨_, ho, rfl⟩ F.entry_tuple_mul (F.args_tuple_mul_2 _ _) (tuple_mulSame l its.toArray n dd sl t) ⟨ho, ?_⟩⟩)
      refine ⟨.ref l, H, I, rfl, q l H (L2.Same.refl H) ?_⟩
      have e : (List.replicate (1 : Int).toNat xs).flatten = xs := by simp
      rw [e]
      exact hT
end My

namespace My
open PySem PySem.Spec PyProof.Rows L2
/-! ### t[:0:-1] of a tuple -/
section
open MeetsSeq MeetsSeq2 MeetsSeq3 SeqRoads2
variable {P : Program} {w : World} {A : Around} {E : Value → Shared → Prop} {st : Shared}
theorem applied_tail {sl : Addr} {v1 v2 v3 : Value} {n : Nat} {Q : Int × Int × Nat → Shared → Prop} (hn : 0 < n) (hs : st.heap.IsSliceOf sl v1 v2 v3) (p1 : IsPart v1 none) (p2 : IsPart v2 (some 0)) (p3 : IsPart v3 (some (-1)))
    (h : Q ((n : Int) - 1, -1, n - 1) st) : wpAny (model P w) A (Builtin.Slice.sliceApplied (.ref sl) (pure (n : Int))) Q E st := by
  obtain ⟨ob, at1, cl1, da1⟩ := id hs
  unfold Builtin.Slice.sliceApplied Builtin.Slice.sliceFields
  refine wpAny_bind (wpAny_bind (wpAny_field at1 da1 (x := v1) rfl (wpAny_bind (wpAny_field at1 da1 (x := v2) rfl (wpAny_bind (wpAny_field at1 da1 (x := v3) rfl (wpAny_pure ?_)))))))
  refine wpAny_bind (HT.slicePart_ p3 ?_)
  show wpAny _ _ (if ((-1 : Int) == 0) = true then _ else _) _ _ st
  rw [if_neg (by decide)]
  refine wpAny_bind (HT.slicePart_ p1 (wpAny_bind (HT.slicePart_ p2 (wpAny_bind (wpAny_pure ?_)))))
  have adj : Builtin.Slice.sliceAdjust none (some 0) (-1) (n : Int) = ((n : Int) - 1, 0) := by
    show ((n : Int) - 1, min (0 : Int) ((n : Int) - 1)) = _
    rw [Int.min_eq_left (by omega)]
  have pla : Builtin.Slice.slicePlaces ((n : Int) - 1) 0 (-1) = n - 1 := by
    unfold Builtin.Slice.slicePlaces
    rw [if_neg (by decide)]
    by_cases z : (n : Int) - 1 > 0
    · rw [if_pos z, show (- -1 : Int) = 1 by decide, Int.ediv_one]
      omega
    · rw [if_neg z]
      omega
  show wpAny _ _ (match Builtin.Slice.sliceAdjust none (some 0) (-1) (n : Int) with | (lo, hi) => pure (lo, (-1 : Int), Builtin.Slice.slicePlaces lo hi (-1))) _ _ st
  rw [adj]
  show wpAny _ _ (pure ((n : Int) - 1, (-1 : Int), Builtin.Slice.slicePlaces ((n : Int) - 1) 0 (-1))) _ _ st
  rw [pla]
  exact wpAny_pure h
theorem pick_tailL : ∀ L : List Value, L ≠ [] → (List.range (L.length - 1)).filterMap (fun (m : Nat) => L[L.length - 1 - m]?) = (L.drop 1).reverse := by
  intro L hL
  cases L with
  | nil => exact absurd rfl hL
  | cons x r =>
    have full : (List.range (r.length + 1)).filterMap (fun (m : Nat) => (x :: r)[r.length - m]?) = (x :: r).reverse := by
      have e : (List.range (r.length + 1)).filterMap (fun (m : Nat) => (x :: r)[r.length - m]?) = ((List.range (x :: r).length).map fun k => (x :: r).length - 1 - k).filterMap ((x :: r)[·]?) := by
        rw [List.filterMap_map]
        refine fm_congr fun m hm => ?_
        have z := List.mem_range.mp hm
        show (x :: r)[r.length - m]? = (x :: r)[(x :: r).length - 1 - m]?
        rw [List.length_cons, Nat.add_sub_cancel]
      have a := PySem.W.krv_range (x :: r).length
      have b := PySem.W.krv_all (x :: r).toArray
      rw [e, a, List.filterMap_reverse]
      simpa using b
    rw [List.range_succ, List.filterMap_append, List.reverse_cons] at full
    have last : (List.filterMap (fun (m : Nat) => (x :: r)[r.length - m]?) [r.length]) = [x] := by simp
    rw [last] at full
    show (List.range ((x :: r).length - 1)).filterMap (fun (m : Nat) => (x :: r)[(x :: r).length - 1 - m]?) = r.reverse
    rw [List.length_cons, Nat.add_sub_cancel]
    exact List.append_cancel_right full
theorem pick_tail (its : Array Value) (h : 0 < its.size) : ((List.range (its.size - 1)).filterMap fun (m : Nat) => its[(((its.size : Int) - 1) + (m : Int) * (-1)).toNat]?).toArray = (its.toList.drop 1).reverse.toArray := by
  have e : (List.range (its.size - 1)).filterMap (fun (m : Nat) => its[(((its.size : Int) - 1) + (m : Int) * (-1)).toNat]?) = (List.range (its.toList.length - 1)).filterMap (fun (m : Nat) => its.toList[its.toList.length - 1 - m]?) := by
    rw [Array.length_toList]
    refine fm_congr fun m hm => ?_
    have z := List.mem_range.mp hm
    have y : (((its.size : Int) - 1) + (m : Int) * (-1)).toNat = its.size - 1 - m := by omega
    rw [y, Array.getElem?_toList]
  rw [e, pick_tailL _ (fun z => by
    have y := congrArg List.length z
    rw [Array.length_toList, List.length_nil] at y
    omega)]
theorem tuple_tail {a sl : Addr} {its : Array Value} {v1 v2 v3 : Value} {Q : Value → Shared → Prop} (hn : 0 < its.size) (ht : IsTup st.heap a its) (hs : st.heap.IsSliceOf sl v1 v2 v3) (p1 : IsPart v1 none) (p2 : IsPart v2 (some 0)) (p3 : IsPart v3 (some (-1)))
    (h : Q (.ref st.heap.objs.size) { st with heap := st.heap.push { cls := .type "tuple", data := .seq (its.toList.drop 1).reverse.toArray } }) (few : its.size ≤ sizeLine) : wpAny (model P w) A (getItem (.ref a) (.ref sl)) Q E st := by
  have ok : sizeOk (.seq (its.toList.drop 1).reverse.toArray) := by
    show (its.toList.drop 1).reverse.toArray.size ≤ sizeLine
    rw [List.size_toArray, List.length_reverse, List.length_drop, Array.length_toList]
    omega
  obtain ⟨ob, at1, cl1, da1⟩ := id hs
  have isS : st.TypeIs (.ref sl) "slice" := ⟨ob, at1, cl1⟩
  unfold getItem
  try with_reducible refine wpAny_holding ?_
  first | refine wpAny_bind (wpAny_pure ?_) | skip
  refine wpAny_bind (wpAny_sequenceKey ht.typeIs (by decide) ?_)
  refine wpAny_bind (wpAny_callSpecial?_slot (name := Str.ofString "__getitem__") ht.typeIs PyProof.Rows.slot_tuple_getitem
    (wpAny_call_entry PyProof.Rows.slot_tuple_getitem ht.typeIs PyProof.Rows.entry_tuple_getitem ?_ (PyProof.Rows.args_tuple_getitem _ _)))
  show wpAny _ _ (Builtin.Tuple.tupleItemsOf (.ref a) >>= _) _ _ st
  refine wpAny_bind (PyProof.Rows.tupleItemsOf_ ht (wpAny_bind (wpAny_typeOf isS ?_)))
  rw [if_pos (by decide)]
  refine wpAny_bind (applied_tail hn hs p1 p2 p3 ?_)
  have no : ¬ (((((its.size : Nat) : Int) - 1) == 0 && (-1 : Int) == 1 && its.size - 1 == its.size) = true) := by
    rw [show ((-1 : Int) == 1) = false by decide, Bool.and_false, Bool.false_and]
    decide
  show wpAny _ _ (if ((((its.size : Nat) : Int) - 1) == 0 && (-1 : Int) == 1 && its.size - 1 == its.size) = true then _ else _) _ _ st
  rw [if_neg no, pick_tail its hn]
  first
    | exact wpAny_bind (m := Builtin.Tuple.tupleExact _) (wpAny_newObj_type (wpAny_pure ⟨_, rfl, wpAny_pure h⟩) ok)
    | exact wpAny_bind (m := Builtin.Tuple.tupleExact _) (wpAny_newObj_type (wpAny_bind (wpAny_pure (wpAny_pure ⟨_, rfl, wpAny_pure h⟩))) ok)
    | exact wpAny_bind (wpAny_bind (m := Builtin.Tuple.tupleExact _) (wpAny_newObj_type (wpAny_pure (wpAny_pure ⟨_, rfl, wpAny_pure h⟩)) ok))
    | exact wpAny_bind (wpAny_bind (m := Builtin.Tuple.tupleExact _) (wpAny_newObj_type (wpAny_pure ⟨_, rfl, wpAny_pure h⟩) ok))
end
/-- t[:0:-1] -/
def tTailT (K : PySem.W.Frag) (te : TE) : TE := fun σ H Q => te σ H fun x H1 => ∃ a xs, x = .ref a ∧ SqT K H1 a xs ∧ 0 < xs.length ∧ ∀ p, H1 p = none → Q (.ref p) (upd H1 p (.tup (xs.drop 1).reverse))
theorem vals_drop {xs : List V} {its : List Value} (r : Vals xs its) : Vals (xs.drop 1) (its.drop 1) := by
  cases r with
  | nil => exact .nil
  | cons _ t => exact t
theorem pe_tailT {X : Cx} {e : Expr} {te : TE} {k k0 : Nat} {p0 p1 p2 p3 pos : Pos} (he : PE X e te) : PE X (.Subscript e (.Slice none (some (.Constant (.int 0) k0 p0)) (some (.UnaryOp .USub (.Constant (.int 1) k p1) p2)) p3) pos) (tTailT X.K te) := by
  refine ⟨fun pins s σ H Q I h => Subscript_ (thn (he.run pins s σ H _ I h) fun v s1 hv => ?_)⟩
  obtain ⟨x, H1, I1, r1, a, xs, rfl, hx, hn, q⟩ := hv
  cases r1
  have part : PO X (some (.UnaryOp .USub (.Constant (.int 1) k p1) p2)) (tPart (tUn (rU fun i => .int (-i)) (tC (.int 1)))) := po_some (pe_un un_neg pe_int)
  have part0 : PO X (some (.Constant (.int 0) k0 p0)) (tPart (tC (.int 0))) := po_some pe_int
  refine wpAny_Slice (thn (po_none.run pins s1 σ H1 (fun o H2 => o = none ∧ H2 = H1) I1 ⟨rfl, rfl⟩) fun vl s2 h2 => ?_)
  obtain ⟨_, H2, I2, pl, rfl, rfl⟩ := h2
  refine thn (part0.run pins s2 σ H2 (fun o H3 => o = some 0 ∧ H3 = H2) I2 ⟨0, rfl, rfl, rfl⟩) fun vu s3 h3 => ?_
  obtain ⟨_, H3, I3, pu, rfl, rfl⟩ := h3
  refine thn (part.run pins s3 σ H3 (fun o H4 => o = some (-1) ∧ H4 = H3) I3 ⟨1, rfl, -1, rfl, rfl, rfl⟩) fun vs s4 h4 => ?_
  obtain ⟨_, H4, I4, ps, rfl, rfl⟩ := h4
  have I5 : Inv X pins σ H4 { s4 with heap := s4.heap.push { cls := .type "slice", data := .fields #[vl, vu, vs] } } := I4.kept (t' := s4.toks) fun b ob q => Heap.get?_push_of_some _ q
  obtain ⟨its, r, ht, hz⟩ := I5.tuple hx
  have hlen := r.length
  show wpAny (model X.prog X.w) X.A (subscriptTail e (.Slice none (some (.Constant (.int 0) k0 p0)) (some (.UnaryOp .USub (.Constant (.int 1) k p1) p2)) p3) (.ref a) (.ref s4.heap.objs.size)) (EP X pins σ Q) X.xe { s4 with heap := s4.heap.push { cls := .type "slice", data := .fields #[vl, vu, vs] } }
  refine tail_any (ops := [.ref a, .ref s4.heap.objs.size]) ht.typeIs (PyProof.Rows.slot_tuple_getitem.lookup) ?_ (by with_unfolding_all rfl)
  refine tuple_tail (by rw [List.size_toArray]; omega) ht (Heap.IsSliceOf.new _ vl vu vs) pl pu ps ?_ (by rw [List.size_toArray]; omega)
  exact ⟨.ref _, _, I5.laid (t' := s4.toks) (o := .tup (xs.drop 1).reverse) (fun b ob q => Heap.get?_push_of_some _ q) (Nat.le_refl _) ⟨by rw [List.length_reverse, List.length_drop]; omega, _, (vals_drop r).reverse, IsTup.new _ _⟩, rfl, q _ (I5.hok.fresh (Nat.le_refl _))⟩
end My

namespace My
open PySem PySem.Spec PyProof.Rows L2
/-! ### things as data, whole: none, bools, ints, texts, lists, tuples, the empty dict -/
mutual
inductive Da (H : Hp) : V → PyData → Prop
  | non : Da H .non .none
  | bl (b : Bool) : Da H (.bl b) (.bool b)
  | int (i : Int) : Da H (.int i) (.int i)
  | str (z : Str) : Da H (.str z) (.str z)
  | lst {a : Addr} {xs : List V} {ds : List PyData} (e : H a = some (.lst xs)) (h : DaAll H xs ds) : Da H (.ref a) (.list ds)
  | tup {a : Addr} {xs : List V} {ds : List PyData} (e : Rd H a (.tup xs)) (h : DaAll H xs ds) : Da H (.ref a) (.tuple ds)
  | dct {a : Addr} (e : H a = some (.dK [])) : Da H (.ref a) (.dict [])
inductive DaAll (H : Hp) : List V → List PyData → Prop
  | nil : DaAll H [] []
  | cons {v : V} {vs : List V} {d : PyData} {ds : List PyData} (h : Da H v d) (t : DaAll H vs ds) : DaAll H (v :: vs) (d :: ds)
end
theorem rd_same {H H' : Hp} {a : Addr} {u : HO} (h : Rd H a u) (s : Same H H') : Rd H' a u := h.elim (fun e => .inl (s _ _ e)) fun ⟨o, e⟩ => .inr ⟨o, s _ _ e⟩
mutual
theorem Da.same {H H' : Hp} (s : Same H H') : ∀ {d : PyData} {v : V}, Da H v d → Da H' v d
  | _, _, .non => .non
  | _, _, .bl b => .bl b
  | _, _, .int i => .int i
  | _, _, .str z => .str z
  | _, _, .lst e h => .lst (s _ _ e) (DaAll.same s h)
  | _, _, .tup e h => .tup (rd_same e s) (DaAll.same s h)
  | _, _, .dct e => .dct (s _ _ e)
theorem DaAll.same {H H' : Hp} (s : Same H H') : ∀ {ds : List PyData} {vs : List V}, DaAll H vs ds → DaAll H' vs ds
  | _, _, .nil => .nil
  | _, _, .cons h t => .cons (Da.same s h) (DaAll.same s t)
end
theorem DaAll.length {H : Hp} : ∀ {ds : List PyData} {vs : List V}, DaAll H vs ds → vs.length = ds.length
  | _, _, .nil => rfl
  | _, _, .cons _ t => by rw [List.length_cons, List.length_cons, t.length]
theorem DaAll.get {H : Hp} : ∀ {ds : List PyData} {vs : List V} {i : Nat} {v : V}, DaAll H vs ds → vs[i]? = some v → ∃ d, ds[i]? = some d ∧ Da H v d
  | _, _, i, _, .nil, e => by cases i <;> cases e
  | _, _, 0, _, .cons h _, e => by
    cases e
    exact ⟨_, rfl, h⟩
  | _, _, i + 1, _, .cons _ t, e => t.get (i := i) e
theorem DaAll.at {H : Hp} : ∀ {ds : List PyData} {vs : List V} {i : Nat} {d : PyData}, DaAll H vs ds → ds[i]? = some d → ∃ v, vs[i]? = some v ∧ Da H v d
  | _, _, i, _, .nil, e => by cases i <;> cases e
  | _, _, 0, _, .cons h _, e => by
    cases e
    exact ⟨_, rfl, h⟩
  | _, _, i + 1, _, .cons _ t, e => t.at (i := i) e
theorem DaAll.app {H : Hp} : ∀ {ds es : List PyData} {vs ws : List V}, DaAll H vs ds → DaAll H ws es → DaAll H (vs ++ ws) (ds ++ es)
  | _, _, _, _, .nil, g => g
  | _, _, _, _, .cons h t, g => .cons h (t.app g)
theorem DaAll.drop {H : Hp} : ∀ {ds : List PyData} {vs : List V} (n : Nat), DaAll H vs ds → DaAll H (vs.drop n) (ds.drop n)
  | _, _, 0, h => by simpa using h
  | _, _, n + 1, .nil => by simpa using DaAll.nil
  | _, _, n + 1, .cons _ t => by simpa using t.drop n
theorem DaAll.take {H : Hp} : ∀ {ds : List PyData} {vs : List V} (n : Nat), DaAll H vs ds → DaAll H (vs.take n) (ds.take n)
  | _, _, 0, _ => by simpa using DaAll.nil
  | _, _, n + 1, .nil => by simpa using DaAll.nil
  | _, _, n + 1, .cons h t => by simpa using DaAll.cons h (t.take n)
theorem DaAll.rev {H : Hp} : ∀ {ds : List PyData} {vs : List V}, DaAll H vs ds → DaAll H vs.reverse ds.reverse
  | _, _, .nil => .nil
  | _, _, .cons h t => by
    rw [List.reverse_cons, List.reverse_cons]
    exact t.rev.app (.cons h .nil)
/-- the built-in type of a thing -/
def tyDa : PyData → String
  | .none => "NoneType"
  | .bool _ => "bool"
  | .int _ => "int"
  | .str _ => "str"
  | .list _ => "list"
  | .tuple _ => "tuple"
  | .dict _ => "dict"
theorem Da.ty {K : PySem.W.Frag} {H : Hp} {d : PyData} {v : V} (h : Da H v d) : TyX K H v (.type (tyDa d)) := by
  cases h with
  | non => exact .base .non
  | bl b => exact .base (.bl b)
  | int i => exact .base (.int i)
  | str z => exact .base (.str z)
  | lst e h => exact .base (.lst e)
  | dct e => exact .base (.dK e)
  | tup e h =>
    rcases e with e | ⟨o, e⟩
    · exact .base (.tup e)
    · exact .fTuple e
def dT : PyData → Bool | .tuple _ => true | _ => false
def dL : PyData → Bool | .list _ => true | _ => false
def dS : PyData → Bool | .str _ => true | _ => false
def dI : PyData → Bool | .int _ => true | .bool _ => true | _ => false
def dB : PyData → Bool | .bool _ => true | _ => false
theorem kit_tup (d : PyData) : kitB (tyDa d) "tuple" = some (dT d) := by cases d <;> (simp only [tyDa, dT]; decide +kernel)
theorem kit_lst (d : PyData) : kitB (tyDa d) "list" = some (dL d) := by cases d <;> (simp only [tyDa, dL]; decide +kernel)
theorem kit_str (d : PyData) : kitB (tyDa d) "str" = some (dS d) := by cases d <;> (simp only [tyDa, dS]; decide +kernel)
theorem kit_int (d : PyData) : kitB (tyDa d) "int" = some (dI d) := by cases d <;> (simp only [tyDa, dI]; decide +kernel)
theorem kit_bool (d : PyData) : kitB (tyDa d) "bool" = some (dB d) := by cases d <;> (simp only [tyDa, dB]; decide +kernel)
/-! ### what is read of it -/
mutual
def noL : PyData → Bool
  | .list _ => false
  | .tuple ds => noLs ds
  | .none | .bool _ | .int _ | .str _ | .dict _ => true
def noLs : List PyData → Bool
  | [] => true
  | d :: r => noL d && noLs r
end
section
variable {X : Cx} {pins : List (Addr × Obj)} {σ : L2.St} {H : Hp} {s : Shared}
mutual
theorem Da.reads (I : Inv X pins σ H s) : ∀ (d : PyData) (v : V) (u : Value), Da H v d → RelV v u → ∃ as, Reads s.heap u d as ∧ (noL d = true → sysModules ∉ as)
  | .none, _, _, h, r => by
    cases h
    cases r
    exact ⟨_, .none, fun _ z => nomatch z⟩
  | .bool b, _, _, h, r => by
    cases h
    cases r
    exact ⟨_, .bool b, fun _ z => nomatch z⟩
  | .int i, _, _, h, r => by
    cases h
    obtain ⟨t, rfl⟩ := r
    exact ⟨_, .int i t, fun _ z => nomatch z⟩
  | .str x, _, _, h, r => by
    cases h
    obtain ⟨t, rfl⟩ := r
    exact ⟨_, .str x t, fun _ z => nomatch z⟩
  | .list ds, _, _, h, r => by
    cases h with
    | lst e ha =>
      cases r
      obtain ⟨z, its, n, rv, ho⟩ := I.hok _ _ e
      obtain ⟨as, ra, _⟩ := Da.readsAll I ds _ its ha rv
      exact ⟨_, .list ho rfl rfl (by simpa using ra), fun z => by simp [noL] at z⟩
  | .tuple ds, _, _, h, r => by
    cases h with
    | tup e ha =>
      cases r
      obtain ⟨its, rv, ⟨o, ho, hc, n, hd⟩, hz⟩ := I.tuple (show SqT X.K H _ _ from .inl e)
      obtain ⟨as, ra, na⟩ := Da.readsAll I ds _ its ha rv
      exact ⟨_, .tuple ho hc hd (by simpa using ra), fun z => na (by simpa only [noL] using z)⟩
  | .dict kvs, _, _, h, r => by
    cases h with
    | dct e =>
      cases r
      obtain ⟨_, hne, vs, kv, o, es, ep, ho, hx, hdat, _, hp, _⟩ := I.hok _ _ e
      cases kv with
      | nil =>
        have he : es.toList = [] := by
          revert hp
          generalize es.toList = l
          intro hp
          cases hp
          rfl
        refine ⟨_, .dict ho hx.1 hdat (by rw [he]; exact .nil) (by rw [he]; exact .nil), fun _ z => ?_⟩
        simp only [List.append_nil, List.mem_singleton] at z
        rw [← z] at hne
        exact absurd hne (by decide)
theorem Da.readsAll (I : Inv X pins σ H s) : ∀ (ds : List PyData) (vs : List V) (us : List Value), DaAll H vs ds → Vals vs us → ∃ as, ReadsAll s.heap us ds as ∧ (noLs ds = true → sysModules ∉ as)
  | [], _, _, h, r => by
    cases h
    cases r
    exact ⟨_, .nil, fun _ z => nomatch z⟩
  | d :: ds, _, _, h, r => by
    cases h with
    | cons h t =>
      cases r with
      | cons r rt =>
        obtain ⟨as, ra, na⟩ := Da.reads I d _ _ h r
        obtain ⟨bs, rb, nb⟩ := Da.readsAll I ds _ _ t rt
        refine ⟨_, .cons ra rb, fun z => ?_⟩
        simp only [noLs, Bool.and_eq_true] at z
        intro m
        rcases List.mem_append.mp m with m | m
        · exact na z.1 m
        · exact nb z.2 m
end
end
/-! ### repr of it -/
structure rReprD (xs : List V) (H : Hp) (Q : VK) : Prop where
  ex : ∃ x d, xs = [x] ∧ Da H x d ∧ d.showable = true ∧ (d.hasDict = true → noL d = true) ∧ d.depth ≤ 60 ∧ d.shown.length ≤ sizeLine ∧ Q (.str d.shown) H
theorem call_reprD {X : Cx} (quiet : X.A.guards = some []) (hu : X.A.units + 64 < cLine) : CallR X (.builtin "repr") rReprD := by
  intro pins s σ H xs us Q I r h
  obtain ⟨x, d, rfl, hd, h1, h2, h3, h4, q⟩ := h
  obtain ⟨u, rfl, ru⟩ := vals1 r
  obtain ⟨as, rd, hs⟩ := Da.reads I d x u hd ru
  cases hd with
  | non =>
    cases (show u = Value.none from ru)
    exact PySem.P.repr_of_none ⟨.str "None", H, I.tok _, ⟨_, rfl⟩, by simpa only [PyData.shown] using q⟩
  | bl b =>
    cases (show u = Value.bool b from ru)
    exact PySem.P.repr_of_bool ⟨.str (if b then "True" else "False"), H, I.tok _, ⟨_, rfl⟩, by simpa only [PyData.shown] using q⟩
  | int i =>
    obtain ⟨tk, rfl⟩ := (show ∃ t, u = Value.int i t from ru)
    exact PySem.P.repr_of_int (by simpa only [PyData.showable, decide_eq_true_eq] using h1) ⟨V.str (Str.ofString (toString i)), H, I.tok _, ⟨_, rfl⟩, by simpa only [PyData.shown] using q⟩
  | str z =>
    obtain ⟨tk, rfl⟩ := (show ∃ t, u = Value.str z t from ru)
    exact PySem.P.repr_of_str ⟨.str (reprText z), H, I.tok _, ⟨_, rfl⟩, by simpa only [PyData.shown] using q⟩ (by simpa only [PyData.shown] using h4)
  | @lst a ys ds e ha =>
    cases (show u = Value.ref a from ru)
    exact PySem.repr_of_reads' rd h1 (fun z => hs (h2 z)) quiet (by omega) (fun _ _ z => z) (fun h' v tk k => ⟨.str (PyData.list ds).shown, H, I.kept k, ⟨_, rfl⟩, q⟩) h4
  | @tup a ys ds e ha =>
    cases (show u = Value.ref a from ru)
    exact PySem.repr_of_reads' rd h1 (fun z => hs (h2 z)) quiet (by omega) (fun _ _ z => z) (fun h' v tk k => ⟨.str (PyData.tuple ds).shown, H, I.kept k, ⟨_, rfl⟩, q⟩) h4
  | @dct a e =>
    cases (show u = Value.ref a from ru)
    exact PySem.repr_of_reads' rd h1 (fun z => hs (h2 z)) quiet (by omega) (fun _ _ z => z) (fun h' v tk k => ⟨.str (PyData.dict []).shown, H, I.kept k, ⟨_, rfl⟩, q⟩) h4
/-! ### x in t, x and the items of t data -/
def rInTup (K : PySem.W.Frag) : R2 := fun x y H Q => ∃ d ds, Dp K H x d ∧ Dp K H y (.tuple ds) ∧ SeqAt.shaped d = true ∧ SeqAt.shaped (.tuple ds) = true ∧ Q (.bl (ds.any fun z => PyData.eqv z d)) H
theorem op_inTup {X : Cx} (hu : X.A.units + 65 < cLine) : OpR X (compareOp .In) (rInTup X.K) := by
  intro pins s σ H x y v u Q I rx ry h
  obtain ⟨d, ds, hd, he, sd, se, q⟩ := h
  obtain ⟨as, r1⟩ := Dp.reads I d x v hd rx
  obtain ⟨bs, r2⟩ := Dp.reads I (.tuple ds) y u he ry
  have c2 : PyData.canLayAll0 ds = true := by
    have z := SeqAt.canLay_of_shaped se
    simpa only [PyData.canLay0] using z
  exact SeqAt.in_tuple_reads r2 r1 c2 (SeqAt.canLay_of_shaped sd) (room_in_shaped sd hu) ⟨.bl _, H, I, rfl, q⟩
end My

namespace My
open PySem PySem.Spec PyProof.Rows L2
/-! ### a list == [], whatever stands in it -/
def rEqNil : R2 := fun x y H Q => ∃ (a b : Addr) (xs : List V), x = .ref a ∧ y = .ref b ∧ H a = some (.lst xs) ∧ H b = some (.lst []) ∧ Q (.bl xs.isEmpty) H
theorem op_eqNil {X : Cx} (hu : X.A.units + 64 < cLine) : OpR X (compareOp .Eq) rEqNil := by
  intro pins s σ H x y v u Q I rx ry h
  obtain ⟨a, b, xs, rfl, rfl, ha, hb, q⟩ := h
  cases rx
  cases ry
  obtain ⟨z, its, n, r, hl, e⟩ := I.lstM ha
  obtain ⟨z2, its2, n2, r2, hl2, e2⟩ := I.lstM hb
  have l1 : s.heap.IsList a its.toArray := ⟨_, e, rfl, n, rfl⟩
  have l2 : s.heap.IsList b its2.toArray := ⟨_, e2, rfl, n2, rfl⟩
  have l0 : its2 = [] := by
    cases its2 with
    | nil => rfl
    | cons => cases hl2
  subst l0
  cases xs with
  | nil =>
    have l3 : its = [] := by
      cases its with
      | nil => rfl
      | cons => cases hl
    subst l3
    exact SeqAt.RcAt.lists l1 l2 rfl (by omega) (e := fun _ => true) (fun j h1 h2 => absurd h1 (Nat.not_lt_zero j)) _ _ _ _ ⟨.bl true, H, I, rfl, q⟩
  | cons x0 r0 =>
    have big : its.length = r0.length + 1 := hl.symm
    exact SeqAt.RcAt.lists_lengths l1 l2 (by simp only [List.size_toArray, big, List.length_nil]; rfl) (by omega) _ _ _ _ ⟨.bl false, H, I, rfl, q⟩
theorem call_len_seqK {X : Cx} {K : PySem.W.Frag} (hK : X.K = K) : CallR X (.builtin "len") (fun xs H Q => ∃ p ys, xs = [V.ref p] ∧ (SqL K H p ys ∨ SqT K H p ys) ∧ Q (.int ys.length) H) := by
  subst hK
  exact call_len_seq
theorem pi_listK {X : Cx} {K : PySem.W.Frag} (hK : X.K = K) {tg e : Expr} {te : TE} (h : PE X e te) : PI X tg e (iList K te) := by
  subst hK
  exact pi_list h
theorem op_eqDK {X : Cx} {K : PySem.W.Frag} (hK : X.K = K) (hu : X.A.units + 64 < cLine) : OpR X (compareOp .Eq) (rEqD K) := by
  subst hK
  exact op_eqD hu
theorem u65 {k : Nat} {A : Around} (r : Room k A) : A.units + 65 < cLine := by have := r.un; omega
theorem op_in_tup {X : Cx} (hu : X.A.units + 65 < cLine) : OpR X (compareOp .In) (rInTup X.K) := op_inTup hu
/-! ### pairs as data -/
theorem eqv_pair (a b : Str) (i j : Int) : PyData.eqv (.tuple [.str a, .int i]) (.tuple [.str b, .int j]) = decide ((a, i) = (b, j)) := by
  have e : PyData.eqv (.tuple [.str a, .int i]) (.tuple [.str b, .int j]) = ((a == b) && ((i == j) && true)) := by simp only [PyData.eqv, PyData.eqvAll]
  rw [e, Bool.and_true]
  by_cases h1 : a = b
  · by_cases h2 : i = j
    · subst h1 h2
      simp
    · rw [beq_eq_false_iff_ne.mpr h2, Bool.and_false]
      exact (decide_eq_false fun z => h2 (Prod.mk.inj z).2).symm
  · rw [beq_eq_false_iff_ne.mpr h1, Bool.false_and]
    exact (decide_eq_false fun z => h1 (Prod.mk.inj z).1).symm
theorem sh_pair {a : Str} (h : ∀ c ∈ a.cps.toList, c < 1114112) (i : Int) : SeqAt.shaped (.tuple [.str a, .int i]) = true := by
  show ((PyData.tuple [.str a, .int i]).canLay0 && decide ((PyData.tuple [.str a, .int i]).depth ≤ 64)) = true
  have h1 : (PyData.tuple [.str a, .int i]).canLay0 = true := by
    simp only [PyData.canLay0, PyData.canLayAll0, Bool.and_true, PyData.strOk, Array.all_eq_true, decide_eq_true_eq]
    intro j hj
    exact h _ (by simp)
  rw [h1]
  simp [PyData.depth, PyData.depthAll]
end My

namespace My
open PySem PySem.Spec PyProof.Rows L2
/-! ### what is a list or a tuple -/
def iEither (K : PySem.W.Frag) (tl : TE) : TI := fun σ H R => tl σ H fun x H1 => ∃ a, x = .ref a ∧ (((∃ xs, SqL K H1 a xs) ∧ R (Itl K a) H1) ∨ ((∃ xs, SqT K H1 a xs) ∧ R (Itt K a) H1))
theorem pi_either {X : Cx} {K : PySem.W.Frag} (hK : X.K = K) {tg e : Expr} {te : TE} (he : PE X e te) : PI X tg e (iEither K te) := by
  subst hK
  constructor
  intro pins s σ H R I w
  have ev := he.run pins s σ H _ I w
  refine thn ev ?_
  rintro v s1 ⟨x, G, J, rel, a, rfl, alt⟩
  cases rel
  have one : ∀ b, b ∈ [s1.heap.objs.size] → b = s1.heap.objs.size := fun b hb => List.mem_singleton.mp hb
  rcases alt with ⟨⟨xs, seq⟩, q⟩ | ⟨⟨xs, seq⟩, q⟩
  · obtain ⟨its, _, isl, _⟩ := J.list seq
    refine wpAny_pyIter_list isl.isList ?_
    refine ⟨s1.heap.objs.size, [s1.heap.objs.size], _, _, G, rfl, ?_, turn_list a _, ?_, ?_, q⟩
    · exact J.kept (t' := s1.toks) fun b o z => Heap.get?_push_of_some _ z
    · exact ⟨_, Heap.get?_push_size _ rfl, rfl, rfl⟩
    · intro b hb
      cases one b hb
      exact J.fpOk (Nat.le_refl _) (J.hok.fresh (Nat.le_refl _))
  · obtain ⟨its, _, ist, _⟩ := J.tuple seq
    have ist' : s1.heap.IsTuple a its.toArray := ist
    refine wpAny_pyIter_tuple ist' ?_
    refine ⟨s1.heap.objs.size, [s1.heap.objs.size], _, _, G, rfl, ?_, turn_tuple a _, ?_, ?_, q⟩
    · exact J.kept (t' := s1.toks) fun b o z => Heap.get?_push_of_some _ z
    · exact ⟨_, Heap.get?_push_size _ rfl, rfl, rfl⟩
    · intro b hb
      cases one b hb
      exact J.fpOk (Nat.le_refl _) (J.hok.fresh (Nat.le_refl _))
def rSlE (K : PySem.W.Frag) : V → Option Int → Option Int → Hp → VK → Prop := fun x lo hi H Q => rSlL K x lo hi H Q ∨ rSlX x lo hi H Q
theorem sl_either {X : Cx} : SlR X (rSlE X.K) := by
  intro pins s σ H v vv vl vu lo hi sl Q I rx hs pl pu h
  exact h.elim (sl_list pins s σ H v vv vl vu lo hi sl Q I rx hs pl pu) (sl_X pins s σ H v vv vl vu lo hi sl Q I rx hs pl pu)
/-! ### C(e, ..), the class's __init__ may raise; what is wished of the error may speak of the slots -/
def tMakeS (C : Addr) (sp : Sp) (E : L2.St → XK) (t : TA) : TE := fun σ H Q => t σ H fun vs H1 => ∀ x dx, H1 x = none → H1 dx = none → dx ≠ x → sp (.ref x :: vs) (upd (upd H1 dx (.own x)) x (.ins C dx [])) (fun v H2 => v = .non ∧ Q (.ref x) H2) (E σ)
theorem pe_makeS {X : Cx} {CX : CXT} {k : Nat} {f C : Addr} {fd : FuncData} {ps : List Str} {sp : Sp} {E : L2.St → XK} {x : Str} {p pos : Pos} {e : Expr} {es : List Expr} {t : TA} (M : Mk X.K C f) (F : FnOk X.prog X.w X.K X.mg X.base CX k f fd ps sp) (hr : Room (k + 1) X.A)
    (hg : Gl X x) (hm : X.mg x = some (.ref C)) (hb : Binds X.K fd ps []) (hx : ∀ σ, PassesAt CX X σ (E σ)) (ha : PA X (e :: es) t) (nd : (x == ("__debug__" : Str)) = false := by decide)
    (he : starEach (e :: es) X.env = (false, eval e X.env) :: starEach es X.env := by rfl) (hpl : (backTo pos (starEach es X.env)).any (·.1) = false := by rfl) : PE X (.Call (.Name x p) (e :: es) [] pos) (tMakeS C sp E t) := by
  constructor
  intro pins s σ H Q I w
  refine wpAny_Call_Name_kw (ld_glob I hg hm ?_ nd)
  have args := ha.run pos pins s σ H _ I w
  refine PySem.W.callWith_K (h₀ := X.base) I.ok.mod.kin M.kp (thn args ?_) he hpl
  rintro us t1 ⟨vs, G, J, rel, want⟩
  refine ⟨J.kIn, ?_⟩
  have fresh1 := J.hok.fresh (Nat.le_succ t1.heap.objs.size)
  have fresh0 := J.hok.fresh (Nat.le_refl t1.heap.objs.size)
  have promise := want _ _ fresh1 fresh0 (Nat.ne_of_lt (Nat.lt_succ_self _))
  have J2 := Inv.made (C := C) J
  have rel2 : Vals (V.ref (t1.heap.objs.size + 1) :: vs) (Value.ref (t1.heap.objs.size + 1) :: us) := .cons rfl rel
  have many : (Value.ref (t1.heap.objs.size + 1) :: us).length = ps.length := by
    rw [← rel2.length]
    exact F.len _ _ _ _ promise
  have bound := hb _ (Value.ref (t1.heap.objs.size + 1) :: us) J2.kIn (by rw [List.append_nil]; exact many)
  rw [List.append_nil] at bound
  have ran := F.run _ X.stack _ _ ⟨Value.ref (t1.heap.objs.size + 1) :: us, []⟩ _ _ _ (E σ) (hr.make C us []) (J2.env0.make C us []) bound rel2 promise
  refine wpAny_call (make_map (f := f) J.kIn M.makes M.init (beq_iff_eq.mp M.fn) (codeAny_mono ran ?_))
  rintro (z | fl) t2 post
  · exact hx σ pins _ _ z t2 J2 post
  · match fl, post with
    | .ret u, post =>
      obtain ⟨v, G2, J3, rv, ev, q3⟩ := J2.after post
      subst ev
      exact ⟨rv, V.ref (t1.heap.objs.size + 1), G2, J3, rfl, q3⟩
    | .next, post => exact False.elim post
    | .brk, post => exact False.elim post
    | .cont, post => exact False.elim post
end My

namespace My
open PySem PySem.Spec PyProof.Rows L2
abbrev s_is_integer : Stmt := topS 13
theorem sc_is_integer : FnScope ["thing"] ["thing"] (defScope s_is_integer) := ⟨rfl, rfl, rfl, by decide +kernel, rfl, by decide +kernel, by decide +kernel⟩
abbrev s_trimmed : Stmt := topS 26
theorem sc_trimmed : FnScope ["factors", "many"] ["factors"] (defScope s_trimmed) := ⟨rfl, rfl, rfl, by decide +kernel, rfl, by decide +kernel, by decide +kernel⟩
abbrev s_are_factors : Stmt := topS 45
theorem sc_are_factors : FnScope ["thing", "factor"] ["thing"] (defScope s_are_factors) := ⟨rfl, rfl, rfl, by decide +kernel, rfl, by decide +kernel, by decide +kernel⟩
/-! ### factors -/
structure TxtF (mg : Str → Option Value) : Prop where
  n_isinstance : mg "isinstance" = none
  n_int : mg "int" = none
  n_bool : mg "bool" = none
  n_len : mg "len" = none
  n_list : mg "list" = none
  n_tuple : mg "tuple" = none
  n_all : mg "all" = none
/-- an integer from 0 on -/
def facD : PyData → Bool
  | .int i => decide (0 ≤ i)
  | _ => false
def itemsD : PyData → List PyData
  | .list ds => ds
  | .tuple ds => ds
  | _ => []
def okF (d : PyData) : Bool := (dL d || dT d) && (itemsD d).all facD
/-- how many of the first m are left without the zeros at the end -/
def lastN (ns : List Int) : Nat → Nat
  | 0 => 0
  | m + 1 => if ns[m]? = some 0 then lastN ns m else m + 1
def trimN (ns : List Int) : List Int := ns.take (lastN ns ns.length)
theorem lastN_le (ns : List Int) : ∀ m, lastN ns m ≤ m
  | 0 => Nat.le_refl _
  | m + 1 => by
    unfold lastN
    split
    · exact Nat.le_succ_of_le (lastN_le ns m)
    · exact Nat.le_refl _
theorem trimN_len (ns : List Int) : (trimN ns).length ≤ ns.length := by
  unfold trimN
  rw [List.length_take]
  omega
theorem last_stay {ns : List Int} {i : Nat} (h : ns[i]? ≠ some 0) : lastN ns (i + 1) = i + 1 := by
  rw [lastN, if_neg h]
theorem last_go {ns : List Int} {i : Nat} (h : ns[i]? = some 0) : lastN ns (i + 1) = lastN ns i := by
  rw [lastN, if_pos h]
theorem cut_take (ns : List Int) (m : Nat) : cutV (ns.map V.int) none (some (m : Int)) = (ns.take m).map V.int := by
  rw [cut_map, HT.sIx_none, show HT.sIx ns.length ns.length (some (m : Int)) = min m ns.length from HT.sIx_nat ns.length ns.length m, List.drop_zero, Nat.sub_zero]
  congr 1
  by_cases h : m ≤ ns.length
  · rw [Nat.min_eq_left h]
  · rw [Nat.min_eq_right (by omega), List.take_of_length_le (Nat.le_refl _), List.take_of_length_le (by omega)]
theorem eqI (a b : Int) : V.bl (decide (V.int a = V.int b)) = V.bl (decide (a = b)) := by
  congr 1
  refine decide_eq_decide.mpr ⟨fun h => ?_, fun h => by rw [h]⟩
  cases h
  rfl
theorem kit_seq {K : PySem.W.Frag} (d : PyData) : PySem.W.kitAny K (.type (tyDa d)) [.type "list", .type "tuple"] = some (dL d || dT d) := by
  refine kitAny_cons (b := dL d) (kit_ty (kit_lst d)) (fun h => ?_) (fun h => by rw [h]; rfl)
  refine kitAny_cons (b := dT d) (kit_ty (kit_tup d)) (fun h2 => by rw [h, h2]; exact kitAny_nil) (fun h2 => by rw [h2, Bool.or_true])
theorem same_rfl (H : Hp) : Same H H := fun _ _ e => e
theorem same_at {H H' : Hp} {p : Addr} {o : HO} (s : Same H H') (n : H p = none) : Same H (upd H' p o) := fun b x e => by
  rw [upd_ne (ne_of_none e n)]
  exact s b x e
structure spIsInt (vs : List V) (H : Hp) (Q : VK) (E : XK) : Prop where
  ex : ∃ x d, vs = [x] ∧ Da H x d ∧ Q (.bl (dI d && !dB d)) H
structure spFactors (K : PySem.W.Frag) (vs : List V) (H : Hp) (Q : VK) (E : XK) : Prop where
  ex : ∃ x, vs = [x] ∧ ((∃ d, Da H x d ∧ (itemsD d).length ≤ 1000 ∧ ∀ H', Same H H' → Q (.bl (okF d)) H') ∨ (∃ ty, TyX K H x (.type ty) ∧ (∀ H', Same H H' → TyX K H' x (.type ty)) ∧ PySem.W.kitAny K (.type ty) [.type "list", .type "tuple"] = some false ∧ ∀ H', Same H H' → Q (.bl false) H'))
/-- a list or a tuple of ints at a -/
def IntsAt (H : Hp) (a : Addr) (ns : List Int) : Prop := H a = some (.lst (ns.map V.int)) ∨ Rd H a (.tup (ns.map V.int))
theorem IntsAt.same {H H' : Hp} {a : Addr} {ns : List Int} (h : IntsAt H a ns) (s : Same H H') : IntsAt H' a ns := h.elim (fun e => .inl (s _ _ e)) fun e => .inr (rd_same e s)
theorem IntsAt.sq {K : PySem.W.Frag} {H : Hp} {a : Addr} {ns : List Int} (h : IntsAt H a ns) : SqL K H a (ns.map V.int) ∨ SqT K H a (ns.map V.int) := by
  rcases h with e | e
  · exact .inl (.inl (.inl e))
  · exact .inr (.inl e)
structure spTrim (vs : List V) (H : Hp) (Q : VK) (E : XK) : Prop where
  ex : ∃ a ns, vs = [.ref a] ∧ IntsAt H a ns ∧ ns.length ≤ 1000 ∧ ∀ r H', Same H H' → Rd H' r (.tup ((trimN ns).map V.int)) → Q (.ref r) H'
section
variable {P : Program} {w : World} {K : PySem.W.Frag} {mg : Str → Option Value} {base : Heap}
theorem ok_is_integer {f : Addr} {fd : FuncData} {k : Nat} (F : Fun K "is_integer" "is_integer" s_is_integer f fd) (T : TxtF mg) : FnOk P w K mg base CX0 (k + 1) f fd ["thing"] spIsInt := by
  refine F.ok sc_is_integer (fun vs H Q E h => ?_) (fun cdv A outer s H vs Q E hr h => ?_)
  · obtain ⟨x, d, rfl, _⟩ := h
    rfl
  · obtain ⟨x, d, rfl, hx, q⟩ := h
    refine ⟨_, (pss_one (ps_ret (pe_and (pe_callB call_isi (by rfl) T.n_isinstance (by decide +kernel) (pa_cons (pv 0) (pa_cons (pe_bltn (v := .ty "int") (by rfl) T.n_int (by decide +kernel) rfl) pa_nil))) (pe_one (pe_not (pe_callB call_isi (by rfl) T.n_isinstance (by decide +kernel) (pa_cons (pv 0) (pa_cons (pe_bltn (v := .ty "bool") (by rfl) T.n_bool (by decide +kernel) rfl) pa_nil)))))))), ?_⟩
    refine ⟨_, rfl, _, _, _, _, dI d, rfl, .ty "int", hx.ty, kit_ty (kit_int d), _, rfl, ?_⟩
    cases e : dI d with
    | false =>
      rw [e] at q
      exact iteF q
    | true =>
      rw [e] at q
      exact iteT ⟨_, rfl, _, _, _, _, dB d, rfl, .ty "bool", hx.ty, kit_ty (kit_bool d), _, rfl, q⟩
theorem ok_trimmed {f : Addr} {fd : FuncData} {k : Nat} (F : Fun K "trimmed" "trimmed" s_trimmed f fd) (T : TxtF mg) : FnOk P w K mg base CX0 (k + 1) f fd ["factors"] spTrim := by
  refine F.ok sc_trimmed (fun vs H Q E h => ?_) (fun cdv A outer s H vs Q E hr h => ?_)
  · obtain ⟨a, ns, rfl, _⟩ := h
    rfl
  · obtain ⟨a, ns, rfl, ha, hl, q⟩ := h
    refine ⟨_, (pss_cons (ps_set (i := 1) sc_trimmed.nd rfl (.inl rfl) (pe_callB call_len_seq (by rfl) T.n_len (by decide +kernel) (pa_cons (pv 0) pa_nil)))
  (pss_cons (ps_while PassesOwn.never (PW.pt (pw_and (pt_cmpR op_gt (pv 1) pe_int (nomark _)) (pw_and1 (pt_cmpR op_eq (pe_ix ix_seq (pv 0) (pe_op op_sub (pv 1) pe_int) (fun _ _ => rfl)) pe_int (nomark _)))))
   (pss_one (ps_aug (i := 1) sc_trimmed.nd rfl (.inl rfl) pe_int ip_sub)))
  (pss_one (ps_ret (pe_callTy call_tuple_of (by rfl) T.n_tuple (by decide +kernel) (pa_cons (pe_slice sl_either (pv 0) po_none (po_some (pv 1))) pa_nil)))))), ?_⟩
    refine ⟨_, rfl, a, _, rfl, ha.sq, ?_⟩
    rw [List.length_map]
    refine ⟨fun j σ H2 => H2 = H ∧ j ≤ ns.length ∧ lastN ns j = lastN ns ns.length ∧ σ = [some (.ref a), some (.int (j : Nat))], ⟨ns.length, rfl, Nat.le_refl _, rfl, rfl⟩, ?_⟩
    rintro j σ H2 ⟨rfl, hj, hlast, rfl⟩
    have fin : lastN ns j = j → ∀ r H', Same H2 H' → Rd H' r (.tup ((ns.take j).map V.int)) → Q (.ref r) H' := fun z r H' s e => by
      refine q r H' s ?_
      unfold trimN
      rw [← hlast, z]
      exact e
    have cut := cut_take ns j
    refine ⟨_, rfl, _, _, rfl, rfl, _, rfl, ?_⟩
    cases j with
    | zero =>
      rw [show decide (((0 : Nat) : Int) > 0) = false by decide]
      refine iteF ?_
      refine iteF ?_
      refine ⟨_, rfl, _, rfl, _, rfl, ?_⟩
      rcases ha with e | e
      · refine .inl ⟨a, _, rfl, .inl (.inl e), fun p np => ?_⟩
        rw [cut]
        refine ⟨p, _, rfl, .inl ⟨.inl (.inl upd_same), fun l nl => ?_⟩⟩
        exact fin rfl l _ ((same_upd np).trans (same_upd nl)) (.inl upd_same)
      · refine .inr ⟨a, _, rfl, e, fun r H' s1 e1 => ?_⟩
        rw [cut] at e1
        exact ⟨r, _, rfl, .inr ⟨.inl e1, fin rfl r H' s1 e1⟩⟩
    | succ i =>
      rw [decide_eq_true (show ((i + 1 : Nat) : Int) > (0 : Int) by omega)]
      refine iteT ?_
      have hi : i < ns.length := hj
      have e1 : (((i + 1 : Nat)) : Int) - 1 = (i : Int) := by omega
      have gi : (ns.map V.int)[i]? = some (V.int ns[i]) := by rw [List.getElem?_map, List.getElem?_eq_getElem hi]; rfl
      have ix : ∀ {Q : VK}, Q (V.int ns[i]) H2 → rIx K (.ref a) (.int ((((i + 1 : Nat)) : Int) - 1)) H2 Q := by
        intro Q z
        rw [e1]
        exact ha.sq.elim (fun y => .inl ⟨a, _, _, _, rfl, rfl, y, atI_nat gi, z⟩) fun y => .inr (.inl ⟨a, _, _, _, rfl, rfl, y, atI_nat gi, z⟩)
      refine ⟨_, rfl, _, rfl, _, _, rfl, rfl, ix ?_⟩
      refine ⟨rfl, decide (ns[i] = 0), eqI _ 0, ?_⟩
      by_cases hz : ns[i] = 0
      · rw [decide_eq_true hz]
        refine iteT ?_
        refine ⟨fun σ' H' => H' = H2 ∧ i ≤ ns.length ∧ lastN ns i = lastN ns ns.length ∧ σ' = [some (.ref a), some (.int (i : Nat))], fun σ' H' h => ⟨i, by omega, h⟩, ?_⟩
        have gz : ns[i]? = some 0 := by rw [List.getElem?_eq_getElem hi, hz]
        refine ⟨_, rfl, _, _, rfl, rfl, rfl, Nat.le_of_lt hi, by rw [← hlast, last_go gz], ?_⟩
        show [some (V.ref a), some (V.int (((i + 1 : Nat) : Int) - 1))] = _
        rw [e1]
      · rw [decide_eq_false hz]
        refine iteF ?_
        have z0 : ns[i]? ≠ some 0 := fun z => by
          rw [List.getElem?_eq_getElem hi] at z
          exact hz (Option.some.inj z)
        refine ⟨_, rfl, _, rfl, _, rfl, ?_⟩
        rcases ha with e | e
        · refine .inl ⟨a, _, rfl, .inl (.inl e), fun p np => ?_⟩
          rw [cut]
          refine ⟨p, _, rfl, .inl ⟨.inl (.inl upd_same), fun l nl => ?_⟩⟩
          exact fin (last_stay z0) l _ ((same_upd np).trans (same_upd nl)) (.inl upd_same)
        · refine .inr ⟨a, _, rfl, e, fun r H' s1 e1 => ?_⟩
          rw [cut] at e1
          exact ⟨r, _, rfl, .inr ⟨.inl e1, fin (last_stay z0) r H' s1 e1⟩⟩
theorem fac_and (d : PyData) : facD d = ((dI d && !dB d) && match d with | .int i => decide (0 ≤ i) | _ => false) := by
  cases d <;> simp [facD, dI, dB]
theorem ok_are_factors {f f1 : Addr} {fd fd1 : FuncData} {k : Nat} (F : Fun K "are_factors" "are_factors" s_are_factors f fd) (T : TxtF mg) (F_is_integer : Fun K "is_integer" "is_integer" s_is_integer f1 fd1) (b_is_integer : Binds K fd1 ["thing"] []) (g_is_integer : mg "is_integer" = some (.ref f1)) (G_is_integer : FnOk P w K mg base CX0 1 f1 fd1 ["thing"] spIsInt) :
    FnOk P w K mg base CX0 (k + 2) f fd ["thing"] (spFactors K) := by
  refine F.ok sc_are_factors (fun vs H Q E h => ?_) (fun cdv A outer s H vs Q E hr h => ?_)
  · obtain ⟨x, rfl, _⟩ := h
    rfl
  · obtain ⟨x, rfl, h⟩ := h
    refine ⟨_, (pss_cons (ps_if (pt_not (pt_val (pe_callB call_isiT (by rfl) T.n_isinstance (by decide +kernel) (pa_cons (pv 0) (pa_cons (pe_tup (pa_cons (pe_bltn (v := .ty "list") (by rfl) T.n_list (by decide +kernel) rfl) (pa_cons (pe_bltn (v := .ty "tuple") (by rfl) T.n_tuple (by decide +kernel) rfl) pa_nil))) pa_nil)))))
   (pss_one (ps_ret pe_bl))
   pss_nil)
  (pss_one (ps_ret (pe_callB (cr_all (by rfl)) (by rfl) T.n_all (by decide +kernel) (pa_cons (pe_lc (own := [("factor", 1)]) (g := gName 1) rfl sc_are_factors.nd (pi_either (K := K) rfl (pv 0)) (blkOk_by (own := [("factor", 1)]) (N := ["thing", "factor"]) (sc := defScope s_are_factors) (by decide +kernel)) (fun _ _ _ _ _ => (pg_name (i := 1) sc_are_factors.nd rfl (.inl rfl))) (fun _ _ _ _ _ => pts_nil) (fun _ _ _ _ _ => (pe_and (pe_call G_is_integer (hr.mono (by omega)) (by rfl) g_is_integer F_is_integer.kp b_is_integer .nil pass0 (pa_cons (pv 1) pa_nil)) (pe_one (pe_cmpR op_ge (pv 1) pe_int (nomark _)))))) pa_nil))))), ?_⟩
    clear G_is_integer
    refine ⟨_, rfl, by show 2 ≤ sizeLine; decide, fun t nt => ?_⟩
    have st := same_upd (o := .tup [.ty "list", .ty "tuple"]) nt
    rcases h with ⟨d, hx, few, q⟩ | ⟨ty, hty, keep, hk, q⟩
    · refine ⟨x, t, _, _, _, dL d || dT d, rfl, upd_same, .cons (.ty "list") (.cons (.ty "tuple") .nil), (hx.same st).ty, kit_seq d, _, rfl, ?_⟩
      have hx' := hx.same st
      generalize upd H t (.tup [.ty "list", .ty "tuple"]) = H1 at st hx' ⊢
      cases e : (dL d || dT d) with
      | false =>
        refine iteT ?_
        have n : okF d = false := by unfold okF; rw [e, Bool.false_and]
        rw [n] at q
        exact q _ st
      | true =>
        refine iteF ?_
        have ok : okF d = (itemsD d).all facD := by unfold okF; rw [e, Bool.true_and]
        have step : ∀ {xs : List V} {ds : List PyData} {D : Addr}, DaAll H1 xs ds → ds.length ≤ 1000 → H1 D = none → ∀ (i : Nat) (y : V) (H5 H6 : Hp), i < xs.length → (Same H1 H5 ∧ H5 D = some (.lst ((ds.take i).map fun d => V.bl (facD d)))) → YAt xs i H5 y H6 →
            gName 1 y (wipe (L2.start ["thing", "factor"] [x]) [1]) H6 fun σ2 G2 => wipe σ2 [1] = wipe (L2.start ["thing", "factor"] [x]) [1] ∧ tYes σ2 G2 fun b G3 =>
              if b = true then (tAndV (tCall spIsInt [] E0 (tCons (tVar 1) tNil)) (tOp (rI0 fun i j => V.bl (decide (j ≤ i))) (tVar 1) (tC (V.int 0)))) σ2 G3 fun y G4 => ∃ acc, G4 D = some (.lst acc) ∧ acc.length < sizeLine ∧ (Same H1 (upd G4 D (.lst (acc ++ [y]))) ∧ (upd G4 D (.lst (acc ++ [y]))) D = some (.lst ((ds.take (i + 1)).map fun d => V.bl (facD d)))) else (Same H1 G3 ∧ G3 D = some (.lst ((ds.take (i + 1)).map fun d => V.bl (facD d)))) := by
          intro xs ds D hall hfew nD i y H5 H6 hi hP hY
          obtain ⟨rfl, ey⟩ := hY
          obtain ⟨s5, hD⟩ := hP
          obtain ⟨dy, ed, hy⟩ := hall.get ey
          refine ⟨rfl, ?_⟩
          unfold tYes
          dsimp only
          rw [if_pos rfl]
          have fin : ∀ v, v = V.bl (facD dy) → ∃ acc, H6 D = some (.lst acc) ∧ acc.length < sizeLine ∧ (Same H1 (upd H6 D (.lst (acc ++ [v]))) ∧ (upd H6 D (.lst (acc ++ [v]))) D = some (.lst ((ds.take (i + 1)).map fun d => V.bl (facD d)))) := by
            rintro v rfl
            refine ⟨_, hD, ?_, same_at s5 nD, ?_⟩
            · rw [List.length_map, List.length_take]
              exact small1000 (by omega)
            · rw [upd_same, List.take_add_one, ed, List.map_append]
              rfl
          refine ⟨_, rfl, ⟨y, dy, rfl, hy.same s5, _, rfl, ?_⟩⟩
          cases e9 : (dI dy && !dB dy) with
          | false =>
            refine iteF ?_
            exact fin _ (by rw [fac_and, e9]; rfl)
          | true =>
            refine iteT ?_
            obtain ⟨iv, rfl⟩ : ∃ iv, dy = .int iv := by cases dy <;> first | exact ⟨_, rfl⟩ | cases e9
            cases hy
            exact ⟨_, rfl, _, _, rfl, rfl, fin _ rfl⟩
        cases hx' with
        | @lst a xs ds e2 hall =>
          have lx := hall.length
          refine ⟨_, rfl, a, rfl, .inl ⟨⟨_, .inl (.inl e2)⟩, fun D nD => ?_⟩⟩
          refine lc_it (walk_list (xs := xs)) (fun i H5 => Same H1 H5 ∧ H5 D = some (.lst ((ds.take i).map fun d => V.bl (facD d)))) ⟨same_upd nD, upd_same⟩ (fun i H5 _ h => .inl (.inl (h.1 _ _ e2))) (step hall few nD) ?_
          rintro H5 ⟨s5, hD⟩
          rw [lx, List.take_length] at hD
          refine ⟨D, (ds.map facD), rfl, .inl (.inl (by rw [hD, List.map_map]; rfl)), ?_⟩
          have hn : ((ds.map facD).all id) = okF (.list ds) := by
            rw [ok, List.all_map]
            rfl
          rw [hn]
          exact q H5 (st.trans s5)
        | @tup a xs ds e2 hall =>
          have lx := hall.length
          refine ⟨_, rfl, a, rfl, .inr ⟨⟨_, .inl e2⟩, fun D nD => ?_⟩⟩
          refine lc_it (walk_tup (xs := xs)) (fun i H5 => Same H1 H5 ∧ H5 D = some (.lst ((ds.take i).map fun d => V.bl (facD d)))) ⟨same_upd nD, upd_same⟩ (fun i H5 _ h => .inl (rd_same e2 h.1)) (step hall few nD) ?_
          rintro H5 ⟨s5, hD⟩
          rw [lx, List.take_length] at hD
          refine ⟨D, (ds.map facD), rfl, .inl (.inl (by rw [hD, List.map_map]; rfl)), ?_⟩
          have hn : ((ds.map facD).all id) = okF (.tuple ds) := by
            rw [ok, List.all_map]
            rfl
          rw [hn]
          exact q H5 (st.trans s5)
        | _ => cases e
    · refine ⟨x, t, _, _, _, false, rfl, upd_same, .cons (.ty "list") (.cons (.ty "tuple") .nil), keep _ st, hk, _, rfl, ?_⟩
      refine iteT ?_
      exact q _ st
end
end My

namespace My
open PySem PySem.Spec PyProof.Rows L2
/-! ### the errors and the class -/
abbrev i_TooMany : Stmt := inClass (topS 4) 0
theorem sup_TooMany : SupScope ["self", "limit"] ["self", "limit"] (defScope i_TooMany) := ⟨rfl, rfl, rfl, by decide +kernel, rfl, by decide +kernel, by decide +kernel, by decide +kernel, by decide +kernel, by decide +kernel⟩
abbrev s_Layoutinit : Stmt := inClass (topS 50) 0
theorem sc_Layoutinit : FnScope ["self", "factors"] ["self", "factors"] (defScope s_Layoutinit) := ⟨rfl, rfl, rfl, by decide +kernel, rfl, by decide +kernel, by decide +kernel⟩
/-- C(v): one field -/
def spErr1 (C : Addr) (f : Str) (M : V → Prop) : Sp := fun vs H Q _ => ∃ a v, vs = [.ref a, v] ∧ H a = some (exo a C none) ∧ M v ∧ ∀ d, H d = none → d ≠ a → Q .non (upd (upd H d (exd d [(f, v)])) a (exo a C (some d)))
/-- an int that is shown -/
def IntV (v : V) : Prop := ∃ i : Int, v = .int i ∧ i.natAbs < 10 ^ 30
theorem IntV.log {i : Int} (h : i.natAbs < 10 ^ 30) : i.natAbs.log2 < 1920 := by
  by_cases z : i.natAbs = 0
  · rw [z]
    decide
  · exact (Nat.log2_lt z).mpr (Nat.lt_trans h (by decide))
theorem IntV.txt {i : Int} (h : i.natAbs < 10 ^ 30) : (Str.ofString (toString i)).length ≤ 1921 := by
  rw [PySem.ofString_length]
  exact int_text_length_le (by decide) (IntV.log h)
theorem app_len {a b : Str} {m n : Nat} (h1 : a.length ≤ m) (h2 : b.length ≤ n) : (a ++ b).length ≤ m + n := by
  rw [strLen_append]
  exact Nat.add_le_add h1 h2
theorem le_line {a : Str} {m : Nat} (h : a.length ≤ m) (hm : m ≤ 9000) : a.length ≤ sizeLine := by
  rw [sizeLine_eq]
  omega
structure SupD where
  C : Addr
  fI : Addr
  cc : Addr
  cda : Addr
  fd : FuncData
structure PlainCls (K : PySem.W.Frag) (mg : Str → Option Value) (x : Str) (C : Addr) : Prop where
  gC : mg x = some (.ref C)
  q : PySem.W.excIn K C [.type "ValueError", .type "Exception", .type "BaseException", .type "object"] "ValueError.__new__" = true
  kC : PySem.W.keepIn K (.ref C) = true
abbrev SupOf (P : Program) (K : PySem.W.Frag) (mg : Str → Option Value) (x qual : Str) (st : Stmt) (d : SupD) : Prop := SupCls P K mg x qual st d.C d.fI d.cc d.cda d.fd
/-- the classes that the text makes -/
structure LayD where
  too : SupD
  no : Addr
  lay : Addr
structure LayF (P : Program) (K : PySem.W.Frag) (mg : Str → Option Value) (d : LayD) : Prop where
  too : SupOf P K mg "TooMany" "TooMany.__init__" i_TooMany d.too
  noL : PySem.W.findIn K (.ref d.too.C) "limit" = some none
  no : PlainCls K mg "NoLayout" d.no
  noB : PySem.W.subIn K (.ref d.no) (.type "BaseException") = some true
  noT : PySem.W.typeIn K (.ref d.no) = some (.type "type")
  lay : Cls K d.lay
  gLay : mg "Layout" = some (.ref d.lay)
  exNN : PySem.W.exmOne K (.ref d.no) (.ref d.no) = some true
  exTN : PySem.W.exmOne K (.ref d.too.C) (.ref d.no) = some false
  exTT : PySem.W.exmOne K (.ref d.too.C) (.ref d.too.C) = some true
  xf : XfC K d.too.C
  naF : NoAttr K d.lay "factors"
  naD : NoAttr K d.lay "degree"
structure TxtY (mg : Str → Option Value) (tD : Tok) : Prop where
  n_len : mg "len" = none
  g_MOST_DEGREE : mg "MOST_DEGREE" = some (.int 40 tD)
/-- all stays but what stands at x -/
def Kp (x : Addr) (H H' : Hp) : Prop := ∀ b o, H b = some o → b ≠ x → H' b = some o
/-- the ints of a thing that is factors -/
def intsD (d : PyData) : List Int := (itemsD d).filterMap fun | .int i => some i | _ => none
theorem ints_of {H : Hp} : ∀ {ds : List PyData} {xs : List V}, DaAll H xs ds → ds.all facD = true → xs = (ds.filterMap fun | .int i => some i | _ => none).map V.int
  | _, _, .nil, _ => rfl
  | _, _, .cons (d := d) h t, e => by
    rw [List.all_cons, Bool.and_eq_true] at e
    have r := ints_of t e.2
    cases h with
    | int i =>
      rw [List.filterMap_cons]
      show _ :: _ = _ :: _
      rw [r]
    | _ => exact absurd e.1 Bool.false_ne_true
theorem Da.ints {H : Hp} {x : V} {d : PyData} (h : Da H x d) (e : okF d = true) : ∃ a, x = .ref a ∧ IntsAt H a (intsD d) := by
  unfold okF at e
  rw [Bool.and_eq_true] at e
  cases h with
  | lst e2 hall => exact ⟨_, rfl, .inl (by rw [e2, ints_of hall e.2]; rfl)⟩
  | tup e2 hall =>
    refine ⟨_, rfl, .inr ?_⟩
    have r := ints_of hall e.2
    rw [r] at e2
    exact e2
  | _ => exact absurd e.1 Bool.false_ne_true
theorem ints_len (d : PyData) : (intsD d).length ≤ (itemsD d).length := List.length_filterMap_le _ _
structure spLay (K : PySem.W.Frag) (D : LayD) (vs : List V) (H : Hp) (Q : VK) (E : XK) : Prop where
  ex : ∃ x dx y, vs = [.ref x, y] ∧ H x = some (.ins D.lay dx []) ∧
    ((∃ d, Da H y d ∧ (itemsD d).length ≤ 1000 ∧
      (okF d = false → ∀ H', Kp x H H' → E (.ref D.no) none H') ∧
      (okF d = true → 41 < (trimN (intsD d)).length → ∀ H' e, Kp x H H' → H' e = some (.xd [("limit", .int 40)]) → E (.ref D.too.C) (some e) H') ∧
      (okF d = true → (trimN (intsD d)).length ≤ 41 → ∀ H' r, Kp x H H' → H' x = some (.ins D.lay dx [("factors", .ref r), ("degree", .int ((trimN (intsD d)).length - 1 : Int))]) → Rd H' r (.tup ((trimN (intsD d)).map V.int)) → Q .non H')) ∨
     (∃ ty, TyX K H y (.type ty) ∧ (∀ H', Same H H' → TyX K H' y (.type ty)) ∧ PySem.W.kitAny K (.type ty) [.type "list", .type "tuple"] = some false ∧ ∀ H', Kp x H H' → E (.ref D.no) none H'))
theorem kp_of {H H' : Hp} {x : Addr} (s : Same H H') : Kp x H H' := fun b o e _ => s b o e
section
variable {P : Program} {w : World} {K : PySem.W.Frag} {mg : Str → Option Value} {base : Heap}
theorem bd_TooMany {C fI cc cda : Addr} {fd : FuncData} (T : SupCls P K mg "TooMany" "TooMany.__init__" i_TooMany C fI cc cda fd) : Binds K fd ["self", "limit"] [] := by
  obtain ⟨oc, od, doc, pm, an, ct, osl, rfl, lk⟩ := T.fn
  exact .all fun us hl => match us, hl with | [_, _], _ => rfl
theorem ok_TooMany {C fI cc cda : Addr} {fd : FuncData} {k : Nat} (T : SupCls P K mg "TooMany" "TooMany.__init__" i_TooMany C fI cc cda fd) (hno : PySem.W.findIn K (.ref C) "limit" = some none) : FnOk P w K mg base CX0 (k + 1) fI fd ["self", "limit"] (spErr1 C "limit" IntV) := by
  refine ok_sup T sup_TooMany rfl rfl rfl (fun _ => rfl) (fun _ => rfl) (fun vs H Q E h => ?_) (fun A outer s H vs Q E hr h => ?_)
  · obtain ⟨a, v, rfl, _⟩ := h
    rfl
  · obtain ⟨a, v, rfl, ha, ⟨i, rfl, hi⟩, q⟩ := h
    refine ⟨a, _, _, rfl, ha, pe_joined (.cons pe_str (.cons (pe_fmt (pv 1)) (.cons pe_str .nil))), pss_one (ps_ost (pv 0) (pv 1)), ?_⟩
    refine ⟨_, rfl, le_line (m := 60) (by decide) (by decide), _, rfl, .inr ⟨i, rfl, IntV.log hi, _, rfl, le_line (app_len (m := 60) (by decide) (IntV.txt hi)) (by decide), _, rfl, le_line (app_len (n := 60) (app_len (m := 60) (by decide) (IntV.txt hi)) (by decide)) (by decide), ?_⟩⟩
    exact ⟨ha, _, rfl, _, rfl, a, C, rfl, T.ox, hno, .inl ⟨ha, fun d hd ne => q d hd ne⟩⟩
theorem ok_Layoutinit {d : LayD} {tD : Tok} {f f1 f2 : Addr} {fd fd1 fd2 : FuncData} {k : Nat} (F : Fun K "__init__" "Layout.__init__" s_Layoutinit f fd) (T : TxtY mg tD) (D : LayF P K mg d)
    (F_are_factors : Fun K "are_factors" "are_factors" s_are_factors f1 fd1) (b_are_factors : Binds K fd1 ["thing"] []) (g_are_factors : mg "are_factors" = some (.ref f1)) (G_are_factors : FnOk P w K mg base CX0 2 f1 fd1 ["thing"] (spFactors K))
    (F_trimmed : Fun K "trimmed" "trimmed" s_trimmed f2 fd2) (b_trimmed : Binds K fd2 ["factors"] []) (g_trimmed : mg "trimmed" = some (.ref f2)) (G_trimmed : FnOk P w K mg base CX0 1 f2 fd2 ["factors"] spTrim) :
    FnOk P w K mg base (L2.CX P w) (k + 3) f fd ["self", "factors"] (spLay K d) := by
  refine F.okX sc_Layoutinit (fun vs H Q E h => ?_) (fun cdv A outer s H vs Q E hr h => ?_)
  · obtain ⟨x, dx, y, rfl, _⟩ := h
    rfl
  · obtain ⟨x, dx, y, rfl, hx, h⟩ := h
    refine ⟨_, (pss_cons (ps_if (pt_not (pt_val (pe_call G_are_factors (hr.mono (by omega)) (by rfl) g_are_factors F_are_factors.kp b_are_factors .nil pass0 (pa_cons (pv 1) pa_nil))))
   (pss_one (ps_raise rfl (takes_of rfl rfl rfl rfl) (pmk_own PySem.F.excBase_ValueError D.no.q D.no.gC D.no.kC (raises_own D.noB D.noT) (by exact rfl))))
   pss_nil)
  (pss_cons (ps_fld (pv 0) (pe_call G_trimmed (hr.mono (by omega)) (by rfl) g_trimmed F_trimmed.kp b_trimmed .nil pass0 (pa_cons (pv 1) pa_nil)) rfl)
  (pss_cons (ps_fld (pv 0) (pe_op op_sub (pe_callB call_len_seq (by rfl) T.n_len (by decide +kernel) (pa_cons (pe_fld (pv 0) rfl) pa_nil)) pe_int) rfl)
  (pss_one (ps_if (pt_cmpR op_gt (pe_fld (pv 0) rfl) (pe_glob (v := .int 40) (by rfl) T.g_MOST_DEGREE ⟨_, rfl⟩) (nomark _))
   (pss_one (ps_raise rfl (takes_of rfl rfl rfl rfl) (pmk_oex D.too.ox D.too.iC D.too.tI (ok_TooMany (k := 0) D.too D.noL) (hr.mono (by omega)) (bd_TooMany D.too) .nil pass0 (by rfl) D.too.gC (pa_cons (pe_glob (v := .int 40) (by rfl) T.g_MOST_DEGREE ⟨_, rfl⟩) pa_nil))))
   pss_nil))))), ?_⟩
    clear G_are_factors G_trimmed
    rcases h with ⟨t, hy, few, q1, q2, q3⟩ | ⟨ty, hty, keep, hk, q⟩
    · refine ⟨_, rfl, ⟨y, rfl, .inl ⟨t, hy, few, fun H1 s1 => ?_⟩⟩⟩
      refine ⟨_, rfl, ?_⟩
      cases e : okF t with
      | false =>
        refine iteT ?_
        exact q1 e H1 (kp_of s1)
      | true =>
        refine iteF ?_
        obtain ⟨a, rfl, ia⟩ := hy.ints e
        generalize hns : intsD t = ns at q2 q3 ia
        have lns : ns.length ≤ 1000 := by
          rw [← hns]
          exact Nat.le_trans (ints_len t) few
        refine ⟨_, rfl, ⟨a, ns, rfl, ia.same s1, lns, fun r H2 s2 er => ?_⟩⟩
        have k2 : Kp x H H2 := kp_of (s1.trans s2)
        have hx2 := s2 _ _ (s1 _ _ hx)
        refine ⟨_, rfl, x, d.lay, dx, _, rfl, hx2, D.lay, D.naF, by decide, ?_⟩
        have rx : r ≠ x := by
          rintro rfl
          rcases er with z | ⟨o, z⟩ <;> (rw [hx2] at z; cases z)
        have er3 : Rd (upd H2 x (.ins d.lay dx [("factors", .ref r)])) r (.tup ((trimN ns).map V.int)) := by
          rcases er with z | ⟨o, z⟩
          · exact .inl (by rw [upd_ne rx]; exact z)
          · exact .inr ⟨o, by rw [upd_ne rx]; exact z⟩
        have k3 : Kp x H (upd H2 x (.ins d.lay dx [("factors", .ref r)])) := fun b o eb nb => by
          rw [upd_ne nb]
          exact k2 b o eb nb
        have hx3 : (upd H2 x (.ins d.lay dx [("factors", .ref r)])) x = some (.ins d.lay dx [("factors", .ref r)]) := upd_same
        have e3 : upd H2 x (.ins d.lay dx (putF "factors" (.ref r) [])) = upd H2 x (.ins d.lay dx [("factors", .ref r)]) := rfl
        rw [e3]
        generalize upd H2 x (.ins d.lay dx [("factors", .ref r)]) = H3 at hx3 er3 k3 ⊢
        refine ⟨_, rfl, x, d.lay, dx, _, .ref r, rfl, hx3, D.lay, D.naF, rfl, r, _, rfl, .inr (.inl er3), ?_⟩
        refine ⟨_, _, rfl, rfl, _, rfl, x, d.lay, dx, _, rfl, hx3, D.lay, D.naD, by show 1 < 1000; decide, ?_⟩
        rw [List.length_map]
        have e4 : ∀ v, upd H3 x (.ins d.lay dx (putF "degree" v [("factors", .ref r)])) = upd H3 x (.ins d.lay dx [("factors", .ref r), ("degree", v)]) := fun v => rfl
        rw [e4]
        have hx4 : ∀ v, (upd H3 x (.ins d.lay dx [("factors", .ref r), ("degree", v)])) x = some (.ins d.lay dx [("factors", .ref r), ("degree", v)]) := fun v => upd_same
        have k4 : ∀ v, Kp x H (upd H3 x (.ins d.lay dx [("factors", .ref r), ("degree", v)])) := fun v b o eb nb => by
          rw [upd_ne nb]
          exact k3 b o eb nb
        have er4 : ∀ v, Rd (upd H3 x (.ins d.lay dx [("factors", .ref r), ("degree", v)])) r (.tup ((trimN ns).map V.int)) := fun v => by
          rcases er3 with z | ⟨o, z⟩
          · exact .inl (by rw [upd_ne rx]; exact z)
          · exact .inr ⟨o, by rw [upd_ne rx]; exact z⟩
        generalize trimN ns = ts at q2 q3 er4 ⊢
        specialize hx4 (.int ((ts.length : Nat) - 1))
        specialize k4 (.int ((ts.length : Nat) - 1))
        specialize er4 (.int ((ts.length : Nat) - 1))
        generalize upd H3 x (.ins d.lay dx [("factors", .ref r), ("degree", .int ((ts.length : Nat) - 1))]) = H4 at hx4 k4 er4 ⊢
        refine ⟨_, rfl, x, d.lay, dx, _, .int ((ts.length : Nat) - 1), rfl, hx4, D.lay, D.naD, rfl, _, _, rfl, rfl, _, rfl, ?_⟩
        by_cases big : 41 < ts.length
        · rw [decide_eq_true (show (40 : Int) < (ts.length : Nat) - 1 by omega)]
          refine iteT ?_
          refine ⟨by show 1 ≤ 1000; decide, fun a0 na => ?_⟩
          refine ⟨a0, .int 40, rfl, upd_same, ⟨40, rfl, by decide⟩, fun e0 ne0 nea => ?_⟩
          have n4 : H4 e0 = none := by
            rw [upd_ne nea] at ne0
            exact ne0
          refine ⟨rfl, e0, [("limit", .int 40)], upd_same, ?_, n4, ?_⟩
          · rw [upd_ne nea, upd_same]
          · refine q2 e big _ e0 (fun b o eb nb => ?_) upd_same
            have z := k4 b o eb nb
            have z1 := ne_of_none z n4
            have z2 := ne_of_none z na
            rw [upd_ne z1, del_ne z2, upd_ne z2, upd_ne z1, upd_ne z2]
            exact z
        · rw [decide_eq_false (show ¬ (40 : Int) < (ts.length : Nat) - 1 by omega)]
          refine iteF ?_
          exact q3 e (by omega) H4 r k4 hx4 er4
    · refine ⟨_, rfl, ⟨y, rfl, .inr ⟨ty, hty, keep, hk, fun H1 s1 => ?_⟩⟩⟩
      refine ⟨_, rfl, ?_⟩
      refine iteT ?_
      exact q H1 (kp_of s1)
end
end My

namespace My
open PySem PySem.Spec PyProof.Rows L2
/-! ### new lists that are not the table of modules; repr of such a list with {} in it -/
def rCatN : R2 := fun x y H Q => ∃ l b xs zs, x = .ref l ∧ y = .ref b ∧ H l = some (.lst xs) ∧ H b = some (.lst zs) ∧ xs.length + zs.length ≤ sizeLine ∧ ∀ p, H p = none → p ≠ sysModules → Q (.ref p) (upd H p (.lst (xs ++ zs)))
theorem op_catN {X : Cx} : OpR X (binaryOp .Add) rCatN := by
  rintro pins s σ H x y v u Q I rx ry ⟨l, b, xs, zs, rfl, rfl, hl, hb, fits, q⟩
  cases rx
  cases ry
  obtain ⟨_, i1, _, v1, n1, g1⟩ := I.lstM hl
  obtain ⟨_, i2, _, v2, n2, g2⟩ := I.lstM hb
  refine PySem.P.add_list g1 g2 ?_ ?_
  · rw [show i1.toArray ++ i2.toArray = (i1 ++ i2).toArray by simp]
    have far : s.heap.objs.size ≠ sysModules := Nat.ne_of_gt I.big
    refine ⟨.ref _, _, I.lnew (t' := s.toks) (v1.append v2) ?_, rfl, q _ I.fresh far⟩
    rw [List.length_append]
    exact fits
  · rw [List.size_toArray, List.size_toArray]
    omega
def tRevLN (K : PySem.W.Frag) (te : TE) : TE := fun σ H Q => te σ H fun x H1 => ∃ a xs, x = .ref a ∧ SqL K H1 a xs ∧ ∀ p, H1 p = none → p ≠ sysModules → Q (.ref p) (upd H1 p (.lst xs.reverse))
theorem pe_revLN {X : Cx} {e : Expr} {te : TE} {k : Nat} {p1 p2 p3 pos : Pos} (he : PE X e te) : PE X (.Subscript e (.Slice none none (some (.UnaryOp .USub (.Constant (.int 1) k p1) p2)) p3) pos) (tRevLN X.K te) := by
  refine ⟨fun pins s σ H Q I h => Subscript_ (thn (he.run pins s σ H _ I h) fun v s1 hv => ?_)⟩
  obtain ⟨x, H1, I1, r1, a, xs, rfl, hx, q⟩ := hv
  cases r1
  have part : PO X (some (.UnaryOp .USub (.Constant (.int 1) k p1) p2)) (tPart (tUn (rU fun i => .int (-i)) (tC (.int 1)))) := po_some (pe_un un_neg pe_int)
  refine wpAny_Slice (thn (po_none.run pins s1 σ H1 (fun o H2 => o = none ∧ H2 = H1) I1 ⟨rfl, rfl⟩) fun vl s2 h2 => ?_)
  obtain ⟨_, H2, I2, pl, rfl, rfl⟩ := h2
  refine thn (po_none.run pins s2 σ H2 (fun o H3 => o = none ∧ H3 = H2) I2 ⟨rfl, rfl⟩) fun vu s3 h3 => ?_
  obtain ⟨_, H3, I3, pu, rfl, rfl⟩ := h3
  refine thn (part.run pins s3 σ H3 (fun o H4 => o = some (-1) ∧ H4 = H3) I3 ⟨1, rfl, -1, rfl, rfl, rfl⟩) fun vs s4 h4 => ?_
  obtain ⟨_, H4, I4, ps, rfl, rfl⟩ := h4
  have I5 : Inv X pins σ H4 { s4 with heap := s4.heap.push { cls := .type "slice", data := .fields #[vl, vu, vs] } } := I4.kept (t' := s4.toks) fun b ob q => Heap.get?_push_of_some _ q
  obtain ⟨its, r, ht, hz⟩ := I5.list hx
  have hlen := r.length
  show wpAny (model X.prog X.w) X.A (subscriptTail e (.Slice none none (some (.UnaryOp .USub (.Constant (.int 1) k p1) p2)) p3) (.ref a) (.ref s4.heap.objs.size)) (EP X pins σ Q) X.xe { s4 with heap := s4.heap.push { cls := .type "slice", data := .fields #[vl, vu, vs] } }
  refine tail_any (ops := [.ref a, .ref s4.heap.objs.size]) (ht.isList.typeIs) (PySem.slot_list_getitem.lookup) ?_ (by with_unfolding_all rfl)
  refine wpAny_getItem_list_slice ht.isList (Heap.IsSliceOf.new _ vl vu vs) pl pu ps (by decide) ?_ (by rw [List.size_toArray]; omega)
  rw [PySem.W.krv_pick]
  have room : xs.reverse.length ≤ sizeLine := by rw [List.length_reverse]; exact hz
  exact ⟨.ref _, _, I5.laid (t' := s4.toks) (o := .lst xs.reverse) (fun b ob q => Heap.get?_push_of_some _ q) (Nat.le_refl _) ⟨room, _, 0, r.reverse, Heap.get?_push_size _ rfl⟩, rfl, q _ (I5.hok.fresh (Nat.le_refl _)) (Nat.ne_of_gt I5.big)⟩
/-- a list at an address of its own: its items hold no other list -/
structure rReprL (xs : List V) (H : Hp) (Q : VK) : Prop where
  ex : ∃ a ys ds, xs = [.ref a] ∧ a ≠ sysModules ∧ H a = some (.lst ys) ∧ DaAll H ys ds ∧ noLs ds = true ∧ (PyData.list ds).showable = true ∧ (PyData.list ds).depth ≤ 60 ∧ (PyData.list ds).shown.length ≤ sizeLine ∧ Q (.str (PyData.list ds).shown) H
def rReprE (xs : List V) (H : Hp) (Q : VK) : Prop := rReprD xs H Q ∨ rReprL xs H Q
theorem call_reprE {X : Cx} (quiet : X.A.guards = some []) (hu : X.A.units + 64 < cLine) : CallR X (.builtin "repr") rReprE := by
  rintro pins s σ H xs us Q I r (h | ⟨a, ys, ds, rfl, far, ha, hall, no, h1, h3, h4, q⟩)
  · exact call_reprD quiet hu pins s σ H xs us Q I r h
  · obtain ⟨u, rfl, ru⟩ := vals1 r
    cases (show u = Value.ref a from ru)
    obtain ⟨_, its, n, rv, ho⟩ := I.hok _ _ ha
    obtain ⟨as, ra, nas⟩ := Da.readsAll I ds _ its hall rv
    have rd : Reads s.heap (.ref a) (.list ds) (a :: as) := .list ho rfl rfl (by simpa using ra)
    have off : (PyData.list ds).hasDict = true → sysModules ∉ a :: as := fun _ m => by
      rcases List.mem_cons.mp m with m | m
      · exact far m.symm
      · exact nas no m
    exact PySem.repr_of_reads' rd h1 off quiet (by omega) (fun _ _ z => z) (fun h' v tk k => ⟨.str (PyData.list ds).shown, H, I.kept k, ⟨_, rfl⟩, q⟩) h4
end My

namespace My
open PySem PySem.Spec PyProof.Rows L2
/-! ### small data, and how long their repr is (ints below 10 ^ 50) -/
mutual
/-- how many tuples and lists there are -/
def nodes : PyData → Nat
  | .tuple ds => 1 + nodesL ds
  | .list ds => 1 + nodesL ds
  | .none | .bool _ | .int _ | .str _ | .dict _ => 1
def nodesL : List PyData → Nat
  | [] => 0
  | d :: r => nodes d + nodesL r
end
theorem nodesL_app : ∀ a b : List PyData, nodesL (a ++ b) = nodesL a + nodesL b
  | [], b => by simp [nodesL]
  | d :: r, b => by
    rw [List.cons_append]
    simp only [nodesL]
    rw [nodesL_app r b, Nat.add_assoc]
mutual
def smB : PyData → Bool
  | .str z => decide (z.length ≤ 100) && z.cps.toList.all fun c => decide (c < 1114112)
  | .int i => decide (i.natAbs < 10 ^ 50)
  | .tuple ds => smL ds
  | .list ds => smL ds
  | .dict kvs => kvs.isEmpty
  | .none | .bool _ => true
def smL : List PyData → Bool
  | [] => true
  | d :: r => smB d && smL r
end
theorem sm_str {z : Str} (h : smB (.str z) = true) : z.length ≤ 100 ∧ ∀ c ∈ z.cps.toList, c < 1114112 := by
  simp only [smB, Bool.and_eq_true, decide_eq_true_eq, List.all_eq_true] at h
  exact h
theorem textFrom_piled : ∀ (ts : List Str) (k : Nat) (acc : Str), (textFrom k acc ts).length ≤ acc.length + piled ts
  | [], k, acc => by
    show acc.length ≤ acc.length + _
    omega
  | t :: r, k, acc => by
    have ih := textFrom_piled r (k + 1) (acc ++ (if k > 0 then ", " else "" : String) ++ t)
    have e : (acc ++ (if k > 0 then ", " else "" : String) ++ t : Str).length ≤ acc.length + 2 + t.length := by
      rw [strLen_append, strLen_append]
      have z : ((if k > 0 then ", " else "" : String) : Str).length ≤ 2 := by
        split
        · exact Nat.le_refl 2
        · exact Nat.zero_le 2
      omega
    rw [piled_cons]
    show (textFrom (k + 1) _ r).length ≤ _
    omega
theorem listText_piled (ts : List Str) : (listText ts).length ≤ 2 + piled ts := by
  have z := textFrom_piled ts 0 "["
  unfold listText
  rw [strLen_append]
  have e1 : ("[" : Str).length = 1 := rfl
  have e2 : ("]" : Str).length = 1 := rfl
  omega
theorem tupleText_piled (ts : List Str) : (tupleText ts).length ≤ 3 + piled ts := by
  unfold tupleText
  rw [strLen_append, strLen_append]
  have e1 : ("(" : Str).length = 1 := rfl
  have e2 : ((if ts.length == 1 then ",)" else ")" : String) : Str).length ≤ 2 := by
    split
    · exact Nat.le_refl 2
    · exact Nat.le_succ 1
  cases ts with
  | nil =>
    have e3 : (Str.join ", " []).length = 0 := rfl
    omega
  | cons t r =>
    have y := join_length_add (t :: r) (fun z => nomatch z)
    omega
theorem int_log {i : Int} (h : i.natAbs < 10 ^ 50) : i.natAbs.log2 < 1920 := by
  by_cases z : i.natAbs = 0
  · rw [z]
    decide
  · have y := (Nat.log2_lt z (k := 1920)).mpr (Nat.lt_trans h (by decide))
    exact y
mutual
theorem sm_show : ∀ d : PyData, smB d = true → d.showable = true ∧ d.shown.length + 5 ≤ 2010 * nodes d
  | .none, _ => by
    refine ⟨by simp only [PyData.showable], ?_⟩
    simp only [nodes]
    exact Nat.le_trans (show (PyData.none).shown.length + 5 ≤ 100 by decide +kernel) (by decide)
  | .bool b, _ => by
    refine ⟨by simp only [PyData.showable], ?_⟩
    simp only [nodes]
    cases b
    · exact Nat.le_trans (show (PyData.bool false).shown.length + 5 ≤ 100 by decide +kernel) (by decide)
    · exact Nat.le_trans (show (PyData.bool true).shown.length + 5 ≤ 100 by decide +kernel) (by decide)
  | .int i, h => by
    simp only [smB, decide_eq_true_eq] at h
    have l := int_log h
    refine ⟨by simp only [PyData.showable, decide_eq_true_eq]; exact l, ?_⟩
    simp only [nodes, PyData.shown]
    have z : (Str.ofString (toString i)).length ≤ 1921 := by
      rw [PySem.ofString_length]
      exact int_text_length_le (by decide) l
    omega
  | .str z, h => by
    obtain ⟨h1, h2⟩ := sm_str h
    refine ⟨by simp only [PyData.showable], ?_⟩
    have rt := PySem.StrLaws.reprText_len z fun c hc => Nat.lt_trans (h2 c hc) (by decide)
    simp only [nodes]
    rw [PyData.shown]
    omega
  | .list ds, h => by
    simp only [smB] at h
    obtain ⟨a, b⟩ := sm_shows ds h
    refine ⟨by simp only [PyData.showable]; exact a, ?_⟩
    rw [PyData.shown]
    have y := listText_piled (PyData.shownAll ds)
    simp only [nodes]
    omega
  | .tuple ds, h => by
    simp only [smB] at h
    obtain ⟨a, b⟩ := sm_shows ds h
    refine ⟨by simp only [PyData.showable]; exact a, ?_⟩
    rw [PyData.shown]
    have y := tupleText_piled (PyData.shownAll ds)
    simp only [nodes]
    omega
  | .dict kvs, h => by
    simp only [smB, List.isEmpty_iff] at h
    subst h
    refine ⟨by simp only [PyData.showable, PyData.showableKv], ?_⟩
    simp only [nodes]
    exact Nat.le_trans (show (PyData.dict []).shown.length + 5 ≤ 100 by decide +kernel) (by decide)
theorem sm_shows : ∀ ds : List PyData, smL ds = true → PyData.showableAll ds = true ∧ piled (PyData.shownAll ds) ≤ 2010 * nodesL ds
  | [], _ => ⟨by simp only [PyData.showableAll], by simp [PyData.shownAll, piled]⟩
  | d :: r, h => by
    simp only [smL, Bool.and_eq_true] at h
    obtain ⟨a, b⟩ := sm_show d h.1
    obtain ⟨a', b'⟩ := sm_shows r h.2
    refine ⟨by simp only [PyData.showableAll, a, a', Bool.and_self], ?_⟩
    simp only [PyData.shownAll, nodesL]
    rw [piled_cons]
    omega
end
theorem smL_app : ∀ a b : List PyData, smL (a ++ b) = (smL a && smL b)
  | [], b => by simp [smL]
  | d :: r, b => by
    rw [List.cons_append]
    simp only [smL]
    rw [smL_app r b, Bool.and_assoc]
theorem smL_all (ds : List PyData) : smL ds = ds.all smB := by
  induction ds with
  | nil => simp [smL]
  | cons d r ih => simp only [smL, List.all_cons, ih]
theorem ne_self (x : V) : V.bl (!decide (x = x)) = V.bl false := by simp
end My

namespace My
open PySem PySem.Spec PyProof.Rows L2
/-! ### an instance's own special methods: len(o), bool(o), o[i], x in o, o + y; static methods; properties -/
/-- the class (or one above it) has a plain def of this name -/
structure OwnM (K : PySem.W.Frag) (C : Addr) (m : Str) (g : Addr) : Prop where
  at_ : PySem.W.findIn K (.ref C) m = some (some (.ref g))
  fn : PySem.W.isFn K (.ref g) = true
  fi : PySem.W.fnIn K g = true
  kp : PySem.W.keepIn K (.ref g) = true
theorem OwnM.meth {K : PySem.W.Frag} {C g : Addr} {m : Str} (M : OwnM K C m g) : Meth K C m g := ⟨M.at_, M.fn, M.kp⟩
/-- what is raised is never: a def whose promise wishes nothing of what it raises -/
theorem passE {P : Program} {w : World} {X : Cx} : Passes (L2.CX P w) X E0 := fun _ _ _ _ _ _ _ h => by
  obtain ⟨_, _, _, _, _, _, _, _, _, _, _, _, he⟩ := h
  exact False.elim he
section
variable {X : Cx} {CX : CXT} {k : Nat} {C g : Addr} {sp : Sp} {E : XK}
def rLenO (C : Addr) (sp : Sp) (E : XK) : List V → Hp → VK → Prop := fun xs H Q => ∃ a dx fs, xs = [V.ref a] ∧ H a = some (.ins C dx fs) ∧ sp [.ref a] H (fun v H' => ∃ n : Int, v = .int n ∧ 0 ≤ n ∧ n < 2 ^ 63 ∧ Q (.int n) H') E
theorem call_lenO (M : OwnM X.K C "__len__" g) (F : FnR X.prog X.w X.K X.mg X.base CX k g sp) (hr : Room (k + 1) X.A) (hx : Passes CX X E) : CallR X (.builtin "len") (rLenO C sp E) := by
  intro pins s σ H xs us Q I r h
  obtain ⟨a, dx, fs, rfl, ha, q⟩ := h
  obtain ⟨u, rfl, ru⟩ := vals1 r
  cases (show u = Value.ref a from ru)
  obtain ⟨mA, O, _⟩ := ins_get I.hok ha
  obtain ⟨od, J, _⟩ := O.look
  obtain ⟨m, hF⟩ := I.fr
  refine PySem.W.len_K hF I.ok.mod.kin J M.at_ M.fn (wpAny_mono (wpAny_call (SlX.run_at (us := [.ref a]) (ws := [.ref a]) F hr.in1 I.env0.in1 hx I (.cons rfl .nil) q)) (fun v s' z => ?_) fun _ _ x => x)
  obtain ⟨z', H', I', rz, n, ez, h0, h1, qz⟩ := z
  subst ez
  obtain ⟨t, e⟩ := (show ∃ t, v = Value.int n t from rz)
  cases e
  exact ⟨⟨h0, h1⟩, .int n, H', I'.tok _, ⟨_, rfl⟩, qz⟩
/-- an instance's truth -/
def rTruO (C : Addr) (sp : Sp) (E : XK) : V → Hp → (Bool → Hp → Prop) → Prop := fun x H Q => ∃ a dx fs, x = V.ref a ∧ H a = some (.ins C dx fs) ∧ sp [.ref a] H (fun v H' => ∃ b, v = .bl b ∧ Q b H') E
theorem truO {A : Around} {pins : List (Addr × Obj)} {s : Shared} {σ : L2.St} {H : Hp} {x : V} {v : Value} {Q : Bool → Hp → Prop} (M : OwnM X.K C "__bool__" g) (F : FnR X.prog X.w X.K X.mg X.base CX k g sp) (hr : Room k A)
    (e0 : Env0 X.prog X.w X.K X.mg X.base A X.stack s H) (hx : Passes CX X E) (I : Inv X pins σ H s) (rx : RelV x v) (h : rTruO C sp E x H Q) : wpAny (model X.prog X.w) A (truthy v) (TP X pins σ Q) X.xe s := by
  obtain ⟨a, dx, fs, rfl, ha, q⟩ := h
  cases (show v = Value.ref a from rx)
  obtain ⟨mA, O, _⟩ := ins_get I.hok ha
  obtain ⟨od, J, _⟩ := O.look
  obtain ⟨m, hF⟩ := I.fr
  refine PySem.W.truthy_K hF I.ok.mod.kin J M.at_ M.fn (wpAny_mono (wpAny_call (SlX.run_at (us := [.ref a]) (ws := [.ref a]) F hr e0 hx I (.cons rfl .nil) q)) (fun v s' z => ?_) fun _ _ x => x)
  obtain ⟨z', H', I', rz, b, ez, qz⟩ := z
  subst ez
  cases (show v = Value.bool b from rz)
  exact ⟨H', I', qz⟩
/-- bool(x), by what truthy says -/
theorem bool_new {prog : Program} {w : World} {A : Around} {R : Result → Shared → Prop} {s : Shared} {x : Value} {E : Value → Shared → Prop} (h : wpAny (model prog w) A.in1 (truthy x) (fun b s' => R (.ok (.ret (.bool b))) s') (fun e s' => R (.error e) s') s) :
    wpAny (model prog w) A.in1 (Builtin.«bool.__new__» ⟨[.type "bool", x], []⟩) (fun fin s' => match fin with | .done f => R (.ok f) s' | .again c' => c'.quiet = true ∧ codeAny (model prog w) A c' R s') (fun e s' => R (.error e) s') s := by
  have f1 := PySem.F.conv_sub_bool
  repeat (any_goals (first | assumption | (refine wpAny_bind (wpAny_mono h (fun _ _ z => ?_) fun _ _ z => z)) | wp_step))
theorem call_boolV {prog : Program} {w : World} {A : Around} {s : Shared} {x : Value} {Q E : Value → Shared → Prop} (h : wpAny (model prog w) A.in1.in1 (truthy x) (fun b s' => Q (.bool b) s') E s) : wpAny (model prog w) A (call (.type "bool") [x]) Q E s := by
  refine callType_codes (T := "bool") (Bi := Builtin.«object.__init__») (Q₁ := fun obj s₁ => s₁.TypeIs obj "bool" ∧ Q obj s₁) PySem.F.called_bool (PySem.F.typeCall_bool_1 x) PySem.F.entry_object_init ?_ ?_
  · refine codeAny_of_tree ?_
    show wpAny _ A.in1.in1 (do checkBuiltinCall "bool.__new__" ⟨[.type "bool", x], []⟩; again (.builtin "bool.__new__" ⟨[.type "bool", x], []⟩)) _ _ s
    refine wpAny_bind (wpAny_of_eq (PySem.F.newCall_bool_1 x) (wpAny_pure ⟨plainId_quiet (by decide +kernel) _, codeAny_builtin PySem.F.entry_bool_new ?_⟩))
    rw [Around.under_plainId (by decide +kernel) _]
    refine bool_new (A := A.in1) (R := PySem.wants (fun obj s₁ => s₁.TypeIs obj "bool" ∧ Q obj s₁) E) (E := E) (wpAny_mono h (fun b s' q => ?_) fun _ _ z => z)
    exact ⟨rfl, q⟩
  · rintro obj s₁ ⟨ht, hq⟩
    exact ⟨ht, PySem.F.args_object_init_2 _ _, object_init_meets PySem.F.called_bool.init.lookup PySem.F.called_bool.made (by decide) prog w A.in1 _ s₁ ⟨ht, rfl, hq⟩⟩
def rBoolO (C : Addr) (sp : Sp) (E : XK) : List V → Hp → VK → Prop := fun xs H Q => ∃ x, xs = [x] ∧ rTruO C sp E x H fun b H' => Q (.bl b) H'
theorem call_boolO (M : OwnM X.K C "__bool__" g) (F : FnR X.prog X.w X.K X.mg X.base CX k g sp) (hr : Room (k + 2) X.A) (hx : Passes CX X E) : CallR X (.type "bool") (rBoolO C sp E) := by
  intro pins s σ H xs us Q I r h
  obtain ⟨x, rfl, h⟩ := h
  obtain ⟨u, rfl, ru⟩ := vals1 r
  have hr2 : Room k X.A.in1.in1 := (show Room (k + 1) X.A.in1 from Room.in1 hr).in1
  refine call_boolV (wpAny_mono (truO M F hr2 I.env0.in1.in1 hx I ru h) (fun b s' z => ?_) fun _ _ z => z)
  obtain ⟨H', I', q⟩ := z
  exact ⟨.bl b, H', I', rfl, q⟩
/-- bool(a tuple) -/
def rBoolT (K : PySem.W.Frag) : List V → Hp → VK → Prop := fun xs H Q => ∃ a ys, xs = [V.ref a] ∧ SqT K H a ys ∧ Q (.bl (!ys.isEmpty)) H
theorem call_boolT : CallR X (.type "bool") (rBoolT X.K) := by
  intro pins s σ H xs us Q I r h
  obtain ⟨a, ys, rfl, hs, q⟩ := h
  obtain ⟨u, rfl, ru⟩ := vals1 r
  cases (show u = Value.ref a from ru)
  obtain ⟨its, rv, pl, hz⟩ := I.tuple hs
  have hl := line63
  have hlen := rv.length
  refine call_boolV (truthy_tuple pl (by simp only [List.size_toArray]; omega) ?_)
  exact ⟨.bl (!ys.isEmpty), H, I.tok _, by rw [isEmpty_of rv]; rfl, q⟩
/-- sum(a tuple of ints) -/
def rSumT (K : PySem.W.Frag) : List V → Hp → VK → Prop := fun vs H Q => ∃ (a : Addr) (ns : List Int), vs = [V.ref a] ∧ SqT K H a (ns.map V.int) ∧ Q (.int ns.sum) H
theorem call_sumT (hc : X.calm = true) : CallR X (.builtin "sum") (rSumT X.K) := by
  intro pins s σ H vs us Q I r h
  obtain ⟨a, ns, rfl, hs, q⟩ := h
  obtain ⟨its, rv, pl, _⟩ := I.tuple hs
  obtain ⟨u, rfl, ru⟩ := vals1 r
  cases (show u = Value.ref a from ru)
  have hi := rv.ints
  obtain ⟨xs, hx⟩ := hi.allInts.items
  have hn : numsOf its.toArray.toList = ns := by rw [show its.toArray.toList = its from rfl, hi.numsOf]
  have pl' : s.heap.IsTuple a its.toArray := pl
  rw [hx] at pl' hn
  rw [nums_intItems] at hn
  refine PySem.W.ktm_sumG (I.ok.hd hc) pl' fun h' tk t' hk => ?_
  rw [preSum_eq, List.take_of_length_le (by simp), hn]
  exact ⟨.int _, H, I.kept hk, ⟨_, rfl⟩, q⟩
/-- o[i] of an instance -/
def rIxO (C : Addr) (sp : Sp) (E : XK) : R2 := fun x y H Q => ∃ a dx fs, x = .ref a ∧ H a = some (.ins C dx fs) ∧ sp [.ref a, y] H Q E
def OwnIx (b : Expr) : Prop := ∀ o i, subscripted b true o i = runValue (.builtin "lifetime.subscript" ⟨[o, i], []⟩)
theorem pe_ixO {a b : Expr} {ta tb : TE} {pos : Pos} (M : OwnM X.K C "__getitem__" g) (F : FnR X.prog X.w X.K X.mg X.base CX k g sp) (hr : Room (k + 1) X.A) (hx : Passes CX X E) (ha : PE X a ta) (hb : PE X b tb) (hs : OwnIx b) :
    PE X (.Subscript a b pos) (tOp (rIxO C sp E) ta tb) := by
  refine ⟨fun pins s σ H Q I h => ?_⟩
  refine Subscript_ (binT ha hb I h fun v u s2 x y H2 I2 rx ry q => ?_)
  obtain ⟨a', dx, fs, rfl, ea, q⟩ := q
  cases (show v = Value.ref a' from rx)
  obtain ⟨mA, O, _⟩ := ins_get I2.hok ea
  obtain ⟨od, J, _⟩ := O.look
  obtain ⟨m, hF⟩ := I2.fr
  exact PySem.W.sub_K hF I2.ok.mod.kin J M.at_ M.fi M.fn (wpAny_call (SlX.run_at (us := [.ref a', u]) (ws := [.ref a', y]) F hr.in1 I2.env0.in1 hx I2 (.cons rfl (.cons ry .nil)) q)) (hs _ _)
/-- x in o of an instance: its __contains__ hands back a bool -/
def rInO (C : Addr) (sp : Sp) (E : XK) (f : Bool → Bool) : R2 := fun x y H Q => ∃ a dx fs, y = .ref a ∧ H a = some (.ins C dx fs) ∧ sp [.ref a, x] H (fun v H' => ∃ b, v = .bl b ∧ Q (.bl (f b)) H') E
theorem op_inO (M : OwnM X.K C "__contains__" g) (F : FnR X.prog X.w X.K X.mg X.base CX k g sp) (hr : Room k X.A) (hx : Passes CX X E) : OpR X (compareOp .In) (rInO C sp E id) := by
  intro pins s σ H x y v u Q I rx ry h
  obtain ⟨a, dx, fs, rfl, ea, q⟩ := h
  cases (show u = Value.ref a from ry)
  obtain ⟨mA, O, _⟩ := ins_get I.hok ea
  obtain ⟨od, J, _⟩ := O.look
  obtain ⟨m, hF⟩ := I.fr
  refine PySem.W.in_K hF I.ok.mod.kin J M.at_ M.fn (wpAny_mono (wpAny_call (run_fnR (us := [.ref a, v]) (vs := [.ref a, x]) F hr hx I (.cons rfl (.cons rx .nil)) q)) (fun z s' hz => ?_) fun _ _ z => z)
  obtain ⟨z', H', I', rz, b, ez, qz⟩ := hz
  subst ez
  cases (show z = Value.bool b from rz)
  exact wpAny_truthy_bool ⟨.bl b, H', I', rfl, qz⟩
/-- x op y by x's own method, y of the same class -/
def rBinO (C : Addr) (sp : Sp) (E : XK) : R2 := fun x y H Q => ∃ a dx fs b dy gs, x = .ref a ∧ H a = some (.ins C dx fs) ∧ y = .ref b ∧ H b = some (.ins C dy gs) ∧ sp [.ref a, .ref b] H Q E
theorem op_binO {op : Operator} {m : Str} (hm : PySem.dunder op.info.2 = m) (first : PySem.W.selfFirst X.K C = true) (M : OwnM X.K C m g) (F : FnR X.prog X.w X.K X.mg X.base CX k g sp) (hr : Room k X.A) (hx : Passes CX X E) : OpR X (binaryOp op) (rBinO C sp E) := by
  intro pins s σ H x y v u Q I rx ry h
  obtain ⟨a, dx, fs, b, dy, gs, rfl, ea, rfl, eb, q⟩ := h
  cases (show v = Value.ref a from rx)
  cases (show u = Value.ref b from ry)
  obtain ⟨mA, O, _⟩ := ins_get I.hok ea
  obtain ⟨od, J, _⟩ := O.look
  obtain ⟨mB, O2, _⟩ := ins_get I.hok eb
  obtain ⟨od2, J2, _⟩ := O2.look
  obtain ⟨m', hF⟩ := I.fr
  refine PySem.W.binop_K hF I.ok.mod.kin J J2.type first (by rw [hm]; exact M.at_) M.fn (wpAny_mono (wpAny_call (run_fnR (us := [.ref a, .ref b]) (vs := [.ref a, .ref b]) F hr hx I (.cons rfl (.cons rfl .nil)) q)) (fun z s' hz => ?_) fun _ _ z => z)
  obtain ⟨z', H', I', rz, qz⟩ := hz
  exact SlX.cmpback rz ⟨z', H', I', rz, qz⟩
/-- what the model's binary operators ask of the class and of int -/
structure BinI (K : PySem.W.Frag) (C : Addr) (m rm : Str) (T : String) : Prop where
  r : ∃ rc, PySem.W.findIn K (.ref C) rm = some rc ∧ (rc = none ∨ ∃ g : Addr, rc = some (.ref g))
  t1 : ∃ fo, PySem.W.findIn K (.type T) m = some fo
  t2 : ∃ ro, PySem.W.findIn K (.type T) rm = some ro
  sub : PySem.W.subIn K (.type T) (.ref C) = some false
/-- x op i by x's own method, i an int -/
def rBinI (C : Addr) (sp : Sp) (E : XK) : R2 := fun x y H Q => ∃ a dx fs i, x = .ref a ∧ H a = some (.ins C dx fs) ∧ y = .int i ∧ sp [.ref a, .int i] H Q E
theorem op_binI {op : Operator} {m rm : Str} (hm : PySem.dunder op.info.2 = m) (hrm : PySem.dunderR op.info.2 = rm) (first : PySem.W.selfFirst X.K C = true) (B : BinI X.K C m rm "int") (M : OwnM X.K C m g) (F : FnR X.prog X.w X.K X.mg X.base CX k g sp) (hr : Room k X.A) (hx : Passes CX X E) :
    OpR X (binaryOp op) (rBinI C sp E) := by
  intro pins s σ H x y v u Q I rx ry h
  obtain ⟨a, dx, fs, i, rfl, ea, rfl, q⟩ := h
  cases (show v = Value.ref a from rx)
  obtain ⟨t, rfl⟩ := (show ∃ t, u = Value.int i t from ry)
  obtain ⟨mA, O, _⟩ := ins_get I.hok ea
  obtain ⟨od, J, _⟩ := O.look
  obtain ⟨m', hF⟩ := I.fr
  obtain ⟨rc, hrc, hp⟩ := B.r
  obtain ⟨fo, h1⟩ := B.t1
  obtain ⟨ro, h2⟩ := B.t2
  refine PySem.W.ksp_binT hF I.ok.mod.kin J (T := "int") (by rfl) first (by rw [hm]; exact M.at_) M.fn (by rw [hrm]; exact hrc) hp (by rw [hm]; exact h1) (by rw [hrm]; exact h2) B.sub (wpAny_mono (wpAny_call (run_fnR (us := [.ref a, .int i t]) (vs := [.ref a, .int i]) F hr hx I (.cons rfl (.cons ⟨t, rfl⟩ .nil)) q)) (fun z s' hz => ?_) fun _ _ z => z)
  obtain ⟨z', H', I', rz, qz⟩ := hz
  exact SlX.cmpback rz ⟨z', H', I', rz, qz⟩
/-- C.m(e, ..), m a static method -/
structure SMet (K : PySem.W.Frag) (C : Addr) (mc : Value) (m : Str) (p g : Addr) : Prop where
  at_ : PySem.W.findCls K (.ref C) mc m = some (.get (.builtin "staticmethod.__get__") (.ref p) .none (.ref C))
  rc : ∃ rest, PySem.W.recIn K p "staticmethod" = some (.ref g :: rest)
  kp : PySem.W.keepIn K (.ref g) = true
theorem getsm_ok {pins : List (Addr × Obj)} {σ : L2.St} {H : Hp} {s : Shared} {mc : Value} {m : Str} {p : Addr} {pl : Sem Bool} {Q : Value × List Value → Shared → Prop} {A : Around} {E' : Value → Shared → Prop} (I : Inv X pins σ H s) (r : ClX.CRead X.K C mc) (c : SMet X.K C mc m p g)
    (h : ∀ s', Inv X pins σ H s' → Q (.ref g, []) s') : wpAny (model X.prog X.w) A (getMethod (.ref C) m pl) Q E' s := by
  obtain ⟨rest, hp⟩ := c.rc
  refine PySem.W.method_cls I.kIn r.ga ?_
  refine PySem.W.cls_bind I.kIn r.rd c.at_ (wpAny_call (PySem.W.sm_get (s := { s with toks := s.toks + 1 }) I.kIn hp (PySem.W.handed_on rfl ?_)))
  exact h _ (I.tok _)
def tSMeth (C : Addr) (sp : Sp) (E : XK) (ta : TE) (t : TA) : TE := fun σ H Q => ta σ H fun x H1 => x = .ref C ∧ t σ H1 fun vs H2 => sp vs H2 Q E
theorem pe_smeth {mc : Value} {m : Str} {p : Addr} {o e : Expr} {es : List Expr} {pos apos : Pos} {ta : TE} {t : TA} {pl : Sem Bool} (he : PE X o ta) (r : ClX.CRead X.K C mc) (c : SMet X.K C mc m p g) (F : FnR X.prog X.w X.K X.mg X.base CX k g sp) (hr : Room k X.A) (hx : Passes CX X E) (ha : PA X (e :: es) t)
    (hst : starEach (e :: es) X.env = (false, eval e X.env) :: starEach es X.env := by rfl) (hpl : (backTo pos (starEach es X.env)).any (·.1) = false := by rfl)
    (ht : eval (.Call (.Attribute o m apos) (e :: es) [] pos) X.env = (do
      let ov ← eval o X.env
      standAt apos.atName
      let (f, first) ← holding [ov] (getMethod ov m pl)
      callWith pos f first (backTo pos (starEach (e :: es) X.env)) (backToKw pos (keywordEach [] X.env))) := by rfl) :
    PE X (.Call (.Attribute o m apos) (e :: es) [] pos) (tSMeth C sp E ta t) := by
  refine ⟨fun pins s σ H Q I h => ?_⟩
  refine PySem.W.methodCall_KW (pl := pl) (thn (he.run pins s σ H _ I h) fun u s1 ⟨x, H1, I1, rx, ex, q⟩ => ?_) ht
  subst ex
  obtain rfl : u = Value.ref C := rx
  refine getsm_ok I1 r c fun s2 I2 => ?_
  refine PySem.W.callWith_K (first := []) (h₀ := X.base) I.ok.mod.kin c.kp (thn (ha.run pos pins s2 σ H1 _ I2 q) fun us s3 ⟨vs, H2, I3, rv, q2⟩ => ⟨I3.kIn, ?_⟩) hst hpl
  exact wpAny_call (run_fnR F hr hx I3 rv q2)
theorem pe_smeth0 {mc : Value} {m : Str} {p : Addr} {o : Expr} {pos apos : Pos} {ta : TE} {pl : Sem Bool} (he : PE X o ta) (r : ClX.CRead X.K C mc) (c : SMet X.K C mc m p g) (F : FnR X.prog X.w X.K X.mg X.base CX k g sp) (hr : Room k X.A) (hx : Passes CX X E)
    (ht : eval (.Call (.Attribute o m apos) [] [] pos) X.env = (do
      let ov ← eval o X.env
      standAt apos.atName
      let (f, first) ← holding [ov] (getMethod ov m pl)
      callWith pos f first (backTo pos (starEach [] X.env)) (backToKw pos (keywordEach [] X.env))) := by rfl) :
    PE X (.Call (.Attribute o m apos) [] [] pos) (tSMeth C sp E ta tNil) := by
  refine ⟨fun pins s σ H Q I h => ?_⟩
  refine PySem.W.methodCall_KW (pl := pl) (thn (he.run pins s σ H _ I h) fun u s1 ⟨x, H1, I1, rx, ex, q⟩ => ?_) ht
  subst ex
  obtain rfl : u = Value.ref C := rx
  refine getsm_ok I1 r c fun s2 I2 => ?_
  exact PySem.W.callWith_K0 (first := []) I2.kIn c.kp (wpAny_call (run_fnR (us := []) F hr hx I2 .nil q))
end
end My

namespace My
open PySem PySem.Spec PyProof.Rows L2
/-! ### a layout -/
/-- nothing can be read there (a way that is never gone) -/
theorem pe_dead {X : Cx} {e : Expr} : PE X e (fun _ _ _ => False) := ⟨fun _ _ _ _ _ _ h => h.elim⟩
structure TxtL (mg : Str → Option Value) : Prop where
  n_len : mg "len" = none
  n_bool : mg "bool" = none
  n_sum : mg "sum" = none
  n_max : mg "max" = none
  n_range : mg "range" = none
  n_isinstance : mg "isinstance" = none
  n_list : mg "list" = none
  n_tuple : mg "tuple" = none
  n_repr : mg "repr" = none
/-- an instance of the class at C with the factors ns -/
def LayAt (C : Addr) (H : Hp) (a : Addr) (ns : List Int) : Prop := ∃ dx r, H a = some (.ins C dx [("factors", .ref r), ("degree", .int (ns.length - 1 : Int))]) ∧ Rd H r (.tup (ns.map V.int)) ∧ ns.length ≤ 41 ∧ ∀ n ∈ ns, 0 ≤ n
theorem LayAt.same {C a : Addr} {H H' : Hp} {ns : List Int} (h : LayAt C H a ns) (s : Same H H') : LayAt C H' a ns := by
  obtain ⟨dx, r, h1, h2, h3, h4⟩ := h
  exact ⟨dx, r, s _ _ h1, rd_same h2 s, h3, h4⟩
/-- what isinstance and the operators ask of the class -/
structure LayG (K : PySem.W.Frag) (C : Addr) (mc : Value) : Prop where
  isL : PySem.W.kitOne K (.ref C) (.ref C) = some true
  isI : PySem.W.kitOne K (.type "int") (.ref C) = some false
  ca : PySem.W.findIn K (.ref C) "__class__" = some (some (.builtin "object.__class__"))
  cn : PySem.W.specialIn K (.builtin "object.__class__") "__get__" = some (some (.builtin "getset_descriptor.__get__"))
  ct : PySem.W.takesIn K (.builtin "object.__class__") = some true
  cm : PySem.W.mroIn K C (.type "object") = some true
  rd : ClX.CRead K C mc
  first : PySem.W.selfFirst K C = true
  addI : BinI K C "__add__" "__radd__" "int"
theorem da_ints {H : Hp} : ∀ ns : List Int, DaAll H (ns.map V.int) (ns.map PyData.int)
  | [] => .nil
  | n :: r => .cons (.int n) (da_ints r)
theorem ints_map (ns : List Int) : ((ns.map PyData.int).filterMap fun | .int i => some i | _ => none) = ns := by
  induction ns with
  | nil => rfl
  | cons n r ih =>
    rw [List.map_cons, List.filterMap_cons]
    show n :: _ = n :: r
    rw [ih]
theorem fac_map {ns : List Int} (h : ∀ n ∈ ns, 0 ≤ n) : (ns.map PyData.int).all facD = true := by
  rw [List.all_map, List.all_eq_true]
  intro n hn
  exact decide_eq_true (h n hn)
theorem intsD_pos {d : PyData} (h : okF d = true) : ∀ n ∈ intsD d, 0 ≤ n := by
  intro n hn
  unfold intsD at hn
  obtain ⟨e, he, hf⟩ := List.mem_filterMap.mp hn
  unfold okF at h
  rw [Bool.and_eq_true] at h
  have z := List.all_eq_true.mp h.2 e he
  cases e <;> simp only [reduceCtorEq, Option.some.injEq] at hf
  subst hf
  exact of_decide_eq_true z
def spMk (C : Addr) : Sp := fun vs H Q _ => ∃ x dx y d, vs = [.ref x, y] ∧ H x = some (.ins C dx []) ∧ Da H y d ∧ (itemsD d).length ≤ 1000 ∧ okF d = true ∧ (trimN (intsD d)).length ≤ 41 ∧ ∀ H', Kp x H H' → LayAt C H' x (trimN (intsD d)) → Q .non H'
/-- C(y) -/
theorem lay_new {C : Addr} {H : Hp} {y : V} {d : PyData} {Q : VK} {E : XK} (hy : Da H y d) (few : (itemsD d).length ≤ 1000) (ok : okF d = true) (le : (trimN (intsD d)).length ≤ 41) (q : ∀ x H', Same H H' → H x = none → LayAt C H' x (trimN (intsD d)) → Q (.ref x) H') :
    ∀ x dx, H x = none → H dx = none → dx ≠ x → spMk C [.ref x, y] (upd (upd H dx (.own x)) x (.ins C dx [])) (fun v H2 => v = .non ∧ Q (.ref x) H2) E := by
  intro x dx nx ndx dxx
  have s0 : Same H (upd (upd H dx (.own x)) x (.ins C dx [])) := fun b o e => by
    rw [upd_ne (ne_of_none e nx), upd_ne (ne_of_none e ndx)]
    exact e
  exact ⟨x, dx, y, d, rfl, upd_same, hy.same s0, few, ok, le, fun H' k l => ⟨rfl, q x H' (fun b o e => k b o (s0 b o e) (ne_of_none e nx)) nx l⟩⟩
theorem lay_newI {C : Addr} {H : Hp} {a : Addr} {ns : List Int} {Q : VK} {E : XK} (ia : IntsAt H a ns) (few : ns.length ≤ 1000) (pos : ∀ n ∈ ns, 0 ≤ n) (le : (trimN ns).length ≤ 41) (q : ∀ x H', Same H H' → H x = none → LayAt C H' x (trimN ns) → Q (.ref x) H') :
    ∀ x dx, H x = none → H dx = none → dx ≠ x → spMk C [.ref x, .ref a] (upd (upd H dx (.own x)) x (.ins C dx [])) (fun v H2 => v = .non ∧ Q (.ref x) H2) E := by
  rcases ia with e | e
  · have i : intsD (.list (ns.map PyData.int)) = ns := ints_map ns
    exact lay_new (d := .list (ns.map PyData.int)) (.lst e (da_ints ns)) (by show (ns.map PyData.int).length ≤ 1000; rw [List.length_map]; exact few) (by unfold okF; rw [show itemsD (.list (ns.map PyData.int)) = ns.map PyData.int from rfl, fac_map pos]; rfl) (by rw [i]; exact le) (by rw [i]; exact q)
  · have i : intsD (.tuple (ns.map PyData.int)) = ns := ints_map ns
    exact lay_new (d := .tuple (ns.map PyData.int)) (.tup e (da_ints ns)) (by show (ns.map PyData.int).length ≤ 1000; rw [List.length_map]; exact few) (by unfold okF; rw [show itemsD (.tuple (ns.map PyData.int)) = ns.map PyData.int from rfl, fac_map pos]; rfl) (by rw [i]; exact le) (by rw [i]; exact q)
/-- C(a list or a tuple of ints) -/
def tMakeI (C : Addr) (t : TA) : TE := fun σ H Q => t σ H fun vs H1 => ∃ a ns, vs = [V.ref a] ∧ IntsAt H1 a ns ∧ ns.length ≤ 1000 ∧ (∀ n ∈ ns, 0 ≤ n) ∧ (trimN ns).length ≤ 41 ∧ ∀ x H', Same H1 H' → H1 x = none → LayAt C H' x (trimN ns) → Q (.ref x) H'
theorem pe_makeI {X : Cx} {k : Nat} {f C : Addr} {x : Str} {e : Expr} {es : List Expr} {t : TA} {p pos : Pos} (M : Mk X.K C f) (F : FnR X.prog X.w X.K X.mg X.base (L2.CX X.prog X.w) k f (spMk C)) (hr : Room (k + 1) X.A) (hg : Gl X x) (hm : X.mg x = some (.ref C)) (ha : PA X (e :: es) t) (hdb : (x == ("__debug__" : Str)) = false := by decide)
    (he : starEach (e :: es) X.env = (false, eval e X.env) :: starEach es X.env := by rfl) (hpl : (backTo pos (starEach es X.env)).any (·.1) = false := by rfl) : PE X (.Call (.Name x p) (e :: es) [] pos) (tMakeI C t) := by
  refine ⟨fun pins s σ H Q I h => ?_⟩
  refine wpAny_Call_Name_kw (ld_glob I hg hm ?_ hdb)
  refine PySem.W.callWith_K (h₀ := X.base) I.ok.mod.kin M.kp (thn (ha.run pos pins s σ H _ I h) fun us s1 ⟨vs, H1, I1, r, q⟩ => ⟨I1.kIn, ?_⟩) he hpl
  obtain ⟨a, ns, rfl, ia, few, ps, le, q⟩ := q
  exact StX.run_makeR M F hr (passE (X := X)) I1 r (lay_newI ia few ps le q)
/-- the factor of t^i -/
def getI (ns : List Int) (i : Int) : Int := if 0 ≤ i ∧ i < ns.length then ns.getD i.toNat 0 else 0
def hornI (ns : List Int) (n : Int) : Int := ns.reverse.foldl (fun v f => v * n + f) 0
theorem bl_int {a b : Int} : V.bl (!decide (V.int a = V.int b)) = V.bl (!decide (a = b)) := by
  have z := eqI a b
  cases z' : decide (V.int a = V.int b) <;> rw [z'] at z <;> cases z2 : decide (a = b) <;> rw [z2] at z <;> first | rfl | (cases z)
theorem trim_len1 (ns : List Int) {m : Nat} (h : ns.length ≤ m) : (trimN ns).length ≤ m := Nat.le_trans (trimN_len ns) h
theorem lastN_last (ns : List Int) : ∀ m, ns[lastN ns m - 1]? = some 0 → lastN ns m = 0
  | 0, _ => rfl
  | m + 1, h => by
    by_cases z : ns[m]? = some 0
    · rw [last_go z] at h ⊢
      exact lastN_last ns m h
    · rw [last_stay z] at h
      exact absurd h z
theorem trim_trim (ns : List Int) : trimN (trimN ns) = trimN ns := by
  have hl := lastN_le ns ns.length
  generalize hm : lastN ns ns.length = m at hl
  have e : trimN ns = ns.take m := by unfold trimN; rw [hm]
  rw [e]
  cases m with
  | zero => rfl
  | succ k =>
    have len : (ns.take (k + 1)).length = k + 1 := by rw [List.length_take]; omega
    have st : (ns.take (k + 1))[k]? ≠ some 0 := by
      rw [List.getElem?_take_of_lt (Nat.lt_succ_self k)]
      intro z
      have y := lastN_last ns ns.length (by rw [hm]; exact z)
      omega
    unfold trimN
    rw [len, last_stay st, List.take_take, Nat.min_self]
section
variable {P : Program} {w : World} {K : PySem.W.Frag} {mg : Str → Option Value} {base : Heap}
theorem mk_of_lay {d : LayD} {f : Addr} {fd : FuncData} (G : FnOk P w K mg base (L2.CX P w) 3 f fd ["self", "factors"] (spLay K d)) (b : Binds K fd ["self", "factors"] []) : FnR P w K mg base (L2.CX P w) 3 f (spMk d.lay) := by
  refine (G.raw b .nil).imp (fun vs H Q E h => ?_)
  obtain ⟨x, dx, y, t, rfl, hx, hy, few, ok, le, q⟩ := h
  rw [List.append_nil]
  exact ⟨⟨x, dx, y, rfl, hx, .inl ⟨t, hy, few, fun e => (by rw [ok] at e; cases e), fun _ big => absurd big (by omega), fun _ _ H' r k h1 h2 => q H' k ⟨dx, r, h1, h2, le, fun n hn => intsD_pos ok n (List.mem_of_mem_take hn)⟩⟩⟩⟩
end
end My

namespace My
open PySem PySem.Spec PyProof.Rows L2
abbrev s_factor_at : Stmt := topS 27
theorem sc_factor_at : FnScope ["factors", "k"] ["factors", "k"] (defScope s_factor_at) := ⟨rfl, rfl, rfl, by decide +kernel, rfl, by decide +kernel, by decide +kernel⟩
abbrev s_added : Stmt := topS 29
theorem sc_added : FnScope ["one", "other", "many", "k"] ["one", "other"] (defScope s_added) := ⟨rfl, rfl, rfl, by decide +kernel, rfl, by decide +kernel, by decide +kernel⟩
/-! ### sums -/
def addL (as bs : List Int) : List Int := (List.range (max as.length bs.length)).map fun k => as.getD k 0 + bs.getD k 0
theorem addL_len (as bs : List Int) : (addL as bs).length = max as.length bs.length := by unfold addL; simp
theorem getD_pos {as : List Int} (h : ∀ n ∈ as, 0 ≤ n) (k : Nat) : 0 ≤ as.getD k 0 := by
  rw [List.getD_eq_getElem?_getD]
  by_cases hk : k < as.length
  · rw [List.getElem?_eq_getElem hk]
    exact h _ (List.getElem_mem hk)
  · rw [List.getElem?_eq_none (by omega)]
    exact Int.le_refl _
theorem addL_pos {as bs : List Int} (h1 : ∀ n ∈ as, 0 ≤ n) (h2 : ∀ n ∈ bs, 0 ≤ n) : ∀ n ∈ addL as bs, 0 ≤ n := by
  intro n hn
  unfold addL at hn
  obtain ⟨k, _, rfl⟩ := List.mem_map.mp hn
  exact Int.add_nonneg (getD_pos h1 k) (getD_pos h2 k)
structure spFactorAt (vs : List V) (H : Hp) (Q : VK) (E : XK) : Prop where
  ex : ∃ (a : Addr) (as : List Int) (k : Nat), vs = [.ref a, .int (k : Nat)] ∧ Rd H a (.tup (as.map V.int)) ∧ Q (.int (as.getD k 0)) H
structure spAdded (vs : List V) (H : Hp) (Q : VK) (E : XK) : Prop where
  ex : ∃ a b as bs, vs = [.ref a, .ref b] ∧ Rd H a (.tup (as.map V.int)) ∧ Rd H b (.tup (bs.map V.int)) ∧ as.length ≤ 900 ∧ bs.length ≤ 900 ∧ ∀ r H', Same H H' → Rd H' r (.tup ((trimN (addL as bs)).map V.int)) → Q (.ref r) H'
section
variable {P : Program} {w : World} {K : PySem.W.Frag} {mg : Str → Option Value} {base : Heap}
theorem ok_factor_at {f : Addr} {fd : FuncData} {k : Nat} (F : Fun K "factor_at" "factor_at" s_factor_at f fd) (T : TxtL mg) : FnOk P w K mg base CX0 (k + 1) f fd ["factors", "k"] spFactorAt := by
  refine F.ok sc_factor_at (fun vs H Q E h => ?_) (fun cdv A outer s H vs Q E hr h => ?_)
  · obtain ⟨a, as, i, rfl, _⟩ := h
    rfl
  · obtain ⟨a, as, i, rfl, ha, q⟩ := h
    refine ⟨_, (pss_one (ps_ret (pe_ifExp (pt_cmpR op_lt (pv 1) (pe_callB call_len_seq (by rfl) T.n_len (by decide +kernel) (pa_cons (pv 0) pa_nil)) (nomark _)) (pe_ix ix_tup (pv 0) (pv 1) (fun _ _ => rfl)) pe_int))), ?_⟩
    refine ⟨_, rfl, _, rfl, a, _, rfl, .inr (.inl ha), _, _, rfl, rfl, _, rfl, ?_⟩
    rw [List.length_map]
    by_cases z : i < as.length
    · rw [decide_eq_true (show ((i : Nat) : Int) < (as.length : Int) by omega)]
      refine iteT ?_
      refine ⟨_, rfl, _, rfl, a, _, _, V.int as[i], rfl, rfl, .inl ha, atI_nat (by rw [List.getElem?_map, List.getElem?_eq_getElem z]; rfl), ?_⟩
      rw [List.getD_eq_getElem?_getD, List.getElem?_eq_getElem z] at q
      exact q
    · rw [decide_eq_false (show ¬ ((i : Nat) : Int) < (as.length : Int) by omega)]
      refine iteF ?_
      rw [List.getD_eq_getElem?_getD, List.getElem?_eq_none (by omega)] at q
      exact q
theorem ok_added {f f1 f2 : Addr} {fd fd1 fd2 : FuncData} {k : Nat} (F : Fun K "added" "added" s_added f fd) (T : TxtL mg) (F_trimmed : Fun K "trimmed" "trimmed" s_trimmed f1 fd1) (b_trimmed : Binds K fd1 ["factors"] []) (g_trimmed : mg "trimmed" = some (.ref f1)) (G_trimmed : FnOk P w K mg base CX0 1 f1 fd1 ["factors"] spTrim)
    (F_factor_at : Fun K "factor_at" "factor_at" s_factor_at f2 fd2) (b_factor_at : Binds K fd2 ["factors", "k"] []) (g_factor_at : mg "factor_at" = some (.ref f2)) (G_factor_at : FnOk P w K mg base CX0 1 f2 fd2 ["factors", "k"] spFactorAt) : FnOk P w K mg base CX0 (k + 2) f fd ["one", "other"] spAdded := by
  refine F.ok sc_added (fun vs H Q E h => ?_) (fun cdv A outer s H vs Q E hr h => ?_)
  · obtain ⟨a, b, as, bs, rfl, _⟩ := h
    rfl
  · obtain ⟨a, b, as, bs, rfl, ha, hb, la, lb, q⟩ := h
    refine ⟨_, (pss_cons (ps_set (i := 2) sc_added.nd rfl (.inl rfl) (pe_callB (call_max2 (by rfl)) (by rfl) T.n_max (by decide +kernel) (pa_cons (pe_callB call_len_seq (by rfl) T.n_len (by decide +kernel) (pa_cons (pv 0) pa_nil)) (pa_cons (pe_callB call_len_seq (by rfl) T.n_len (by decide +kernel) (pa_cons (pv 1) pa_nil)) pa_nil))))
  (pss_one (ps_ret (pe_call G_trimmed (hr.mono (by omega)) (by rfl) g_trimmed F_trimmed.kp b_trimmed .nil pass0 (pa_cons (pe_lc (own := [("k", 3)]) (g := gName 3) rfl sc_added.nd (pi_range1 (by rfl) T.n_range (pa_cons (pv 2) pa_nil)) (blkOk_by (own := [("k", 3)]) (N := ["one", "other", "many", "k"]) (sc := defScope s_added) (by decide +kernel)) (fun _ _ _ _ _ => (pg_name (i := 3) sc_added.nd rfl (.inl rfl))) (fun _ _ _ _ _ => pts_nil) (fun _ _ _ _ _ => (pe_op op_add (pe_call G_factor_at (hr.mono (by omega)) (by rfl) g_factor_at F_factor_at.kp b_factor_at .nil pass0 (pa_cons (pv 0) (pa_cons (pv 3) pa_nil))) (pe_call G_factor_at (hr.mono (by omega)) (by rfl) g_factor_at F_factor_at.kp b_factor_at .nil pass0 (pa_cons (pv 1) (pa_cons (pv 3) pa_nil)))))) pa_nil))))), ?_⟩
    clear G_trimmed G_factor_at
    refine ⟨_, rfl, a, _, rfl, .inr (.inl ha), _, rfl, b, _, rfl, .inr (.inl hb), _, _, rfl, ?_⟩
    rw [List.length_map, List.length_map]
    have em : (if (bs.length : Int) > (as.length : Int) then (bs.length : Int) else (as.length : Int)) = ((max as.length bs.length : Nat) : Int) := by
      split <;> omega
    rw [em]
    generalize hm : max as.length bs.length = m
    have lm : m ≤ 900 := by omega
    refine ⟨_, rfl, _, rfl, by omega, by omega, fun L nL => ?_⟩
    refine lc_it (walk_range (n := m)) (fun i H5 => Same H H5 ∧ H5 L = some (.lst (((List.range i).map fun k => as.getD k 0 + bs.getD k 0).map V.int))) ⟨same_upd nL, upd_same⟩ (fun _ _ _ _ => True.intro) ?_ ?_
    · rintro i z H5 H6 hi ⟨s5, hL⟩ ⟨rfl, ez⟩
      have hi' : i < m := by omega
      have ez' : z = V.int (0 + (i : Nat)) := ez
      subst ez'
      rw [Int.zero_add]
      refine ⟨rfl, ?_⟩
      unfold tYes
      dsimp only
      rw [if_pos rfl]
      refine ⟨_, rfl, _, rfl, ⟨a, as, i, rfl, rd_same ha s5, ?_⟩⟩
      refine ⟨_, rfl, _, rfl, ⟨b, bs, i, rfl, rd_same hb s5, ?_⟩⟩
      refine ⟨_, _, rfl, rfl, _, hL, ?_, same_at s5 nL, ?_⟩
      · rw [List.length_map, List.length_map, List.length_range]
        exact small1000 (by omega)
      · rw [upd_same, List.range_succ, List.map_append, List.map_append]
        rfl
    · rintro H5 ⟨s5, hL⟩
      have hz : (((m : Nat) : Int) - 0).toNat = m ∨ True := .inr True.intro
      refine ⟨L, addL as bs, rfl, .inl (by unfold addL; rw [hm]; exact hL), by rw [addL_len]; omega, fun r H' s6 er => q r H' (s5.trans s6) er⟩
end
end My

namespace My
open PySem PySem.Spec PyProof.Rows L2
abbrev s_law_trimmed : Stmt := topS 61
theorem sc_law_trimmed : FnScope ["factors", "some"] ["factors"] (defScope s_law_trimmed) := ⟨rfl, rfl, rfl, by decide +kernel, rfl, by decide +kernel, by decide +kernel⟩
theorem at_last (l : List V) (x : V) : atI (l ++ [x]) (-1) = some x := by
  unfold atI ixN
  rw [List.length_append, List.length_cons, List.length_nil, if_neg (by decide), if_pos (by omega), Option.bind_some]
  rw [show (-1 + ((l.length + (0 + 1) : Nat) : Int)).toNat = l.length by omega]
  simp
theorem last_get (l : List V) (x : V) : (l ++ [x])[(l ++ [x]).length - 1]? = some x := by simp
structure spLTrim (K : PySem.W.Frag) (vs : List V) (H : Hp) (Q : VK) (E : XK) : Prop where
  ex : ∃ a ns, vs = [.ref a] ∧ SqL K H a (ns.map V.int) ∧ ns.length ≤ 900 ∧ ∀ l H', Same H H' → H l = none → H' l = some (.lst ((trimN ns).map V.int)) → Q (.ref l) H'
section
variable {P : Program} {w : World} {K : PySem.W.Frag} {mg : Str → Option Value} {base : Heap}
theorem ok_law_trimmed {f : Addr} {fd : FuncData} {k : Nat} (F : Fun K "_law_trimmed" "_law_trimmed" s_law_trimmed f fd) (T : TxtL mg) : FnOk P w K mg base CX0 (k + 1) f fd ["factors"] (spLTrim K) := by
  refine F.ok sc_law_trimmed (fun vs H Q E h => ?_) (fun cdv A outer s H vs Q E hr h => ?_)
  · obtain ⟨a, ns, rfl, _⟩ := h
    rfl
  · obtain ⟨a, ns, rfl, ha, hl9, q⟩ := h
    refine ⟨_, (pss_cons (ps_set (i := 1) sc_law_trimmed.nd rfl (.inl rfl) (pe_callTy call_list_of (by rfl) T.n_list (by decide +kernel) (pa_cons (pv 0) pa_nil)))
  (pss_cons (ps_while PassesOwn.never (PW.pt (pw_and (pt_cmpR (op_neNil hr.units) (pv 1) (pe_lst pa_nil) (nomark _)) (pw_and1 (pt_cmpR op_eq (pe_ix ix_list (pv 1) (pe_un un_neg pe_int) (fun _ _ => rfl)) pe_int (nomark _)))))
   (pss_one (ps_expr (pe_bm0 PySem.F.plainAttrs_list PySem.F.slot_list_pop PySem.F.type_list_pop mt_pop (pv 1)))))
  (pss_one (ps_ret (pv 1))))), ?_⟩
    refine ⟨_, rfl, a, _, rfl, .inl ha, fun l nl => ?_⟩
    have hl : (upd H l (.lst (ns.map V.int))) l = some (.lst (ns.map V.int)) := upd_same
    have s7 := same_upd (o := .lst (ns.map V.int)) nl
    generalize upd H l (.lst (ns.map V.int)) = H7 at hl s7 ⊢
    refine ⟨fun j σ H8 => j ≤ ns.length ∧ lastN ns j = lastN ns ns.length ∧ Same H H8 ∧ H8 l = some (.lst ((ns.take j).map V.int)) ∧ σ = [some (.ref a), some (.ref l)], ⟨ns.length, Nat.le_refl _, rfl, s7, by rw [hl, List.take_length], rfl⟩, ?_⟩
    rintro j σ H8 ⟨hj, hlast, s8, hl8, rfl⟩
    refine ⟨_, rfl, by show 0 ≤ sizeLine; decide, fun b2 nb2 => ?_⟩
    have hl9 : (upd H8 b2 (.lst [])) l = some (.lst ((ns.take j).map V.int)) := by
      rw [upd_ne (ne_of_none hl8 nb2)]
      exact hl8
    refine ⟨l, b2, _, rfl, rfl, hl9, upd_same, _, rfl, ?_⟩
    have s9 := s8.trans (same_upd (o := .lst []) nb2)
    generalize upd H8 b2 (.lst []) = H9 at s9 hl9 ⊢
    cases j with
    | zero =>
      refine iteF ?_
      refine iteF ?_
      have tm : trimN ns = ns.take 0 := by
        unfold trimN
        rw [← hlast, show lastN ns 0 = 0 from rfl]
      exact ⟨_, rfl, q l H9 s9 nl (by rw [hl9, tm])⟩
    | succ i =>
      have hi : i < ns.length := hj
      have ts : (ns.take (i + 1)).map V.int = (ns.take i).map V.int ++ [V.int ns[i]] := by
        rw [List.take_add_one, List.getElem?_eq_getElem hi, List.map_append]
        rfl
      have ne : (!((ns.take (i + 1)).map V.int).isEmpty) = true := by
        rw [ts]
        simp
      rw [ne]
      refine iteT ?_
      have hl10 := hl9
      rw [ts] at hl10
      refine ⟨_, rfl, _, rfl, l, _, _, _, rfl, rfl, .inl (.inl hl10), at_last _ _, rfl, decide (ns[i] = 0), eqI _ 0, ?_⟩
      by_cases hz : ns[i] = 0
      · rw [decide_eq_true hz]
        refine iteT ?_
        have gz : ns[i]? = some 0 := by rw [List.getElem?_eq_getElem hi, hz]
        refine ⟨fun σ' H' => i ≤ ns.length ∧ lastN ns i = lastN ns ns.length ∧ Same H H' ∧ H' l = some (.lst ((ns.take i).map V.int)) ∧ σ' = [some (.ref a), some (.ref l)], fun σ' H' h => ⟨i, by omega, h⟩, ?_⟩
        refine ⟨_, rfl, .inl ⟨rfl, _, .inl (.inl hl10)⟩, l, _, _, rfl, rfl, hl10, last_get _ _, Nat.le_of_lt hi, by rw [← hlast, last_go gz], same_at s9 nl, ?_, rfl⟩
        rw [upd_same, List.dropLast_concat]
      · rw [decide_eq_false hz]
        refine iteF ?_
        have z0 : ns[i]? ≠ some 0 := fun z => by
          rw [List.getElem?_eq_getElem hi] at z
          exact hz (Option.some.inj z)
        have tm : trimN ns = ns.take (i + 1) := by
          unfold trimN
          rw [← hlast, last_stay z0]
        exact ⟨_, rfl, q l H9 s9 nl (by rw [hl9, tm])⟩
end
end My

namespace My
open PySem PySem.Spec PyProof.Rows L2
/-! ### products of polynomials, as the loops make them -/
def mulRow (j : Nat) (x : Int) : Nat → List Int → List Int → List Int
  | _, [], L => L
  | k, y :: r, L => mulRow j x (k + 1) r (L.set (j + k) (L.getD (j + k) 0 + x * y))
def mulAll (bs : List Int) : Nat → List Int → List Int → List Int
  | _, [], L => L
  | j, x :: r, L => mulAll bs (j + 1) r (mulRow j x 0 bs L)
def mulL (as bs : List Int) : List Int := mulAll bs 0 as (List.replicate (as.length + bs.length) 0)
theorem row_len (j : Nat) (x : Int) : ∀ (bs : List Int) (k : Nat) (L : List Int), (mulRow j x k bs L).length = L.length
  | [], _, _ => rfl
  | y :: r, k, L => by
    show (mulRow j x (k + 1) r (L.set (j + k) _)).length = _
    rw [row_len j x r, List.length_set]
theorem all_len (bs : List Int) : ∀ (as : List Int) (j : Nat) (L : List Int), (mulAll bs j as L).length = L.length
  | [], _, _ => rfl
  | x :: r, j, L => by
    show (mulAll bs (j + 1) r _).length = _
    rw [all_len bs r, row_len]
theorem mul_len (as bs : List Int) : (mulL as bs).length = as.length + bs.length := by
  unfold mulL
  rw [all_len, List.length_replicate]
theorem getD_set (L : List Int) (i j : Nat) (v : Int) : (L.set i v).getD j 0 = if i = j ∧ i < L.length then v else L.getD j 0 := by
  rw [List.getD_eq_getElem?_getD, List.getD_eq_getElem?_getD, List.getElem?_set]
  by_cases e : i = j
  · subst e
    by_cases h : i < L.length
    · rw [if_pos rfl, if_pos h, if_pos ⟨rfl, h⟩]
      rfl
    · rw [if_pos rfl, if_neg h, if_neg (fun z => h z.2), List.getElem?_eq_none (by omega)]
  · rw [if_neg e, if_neg (fun z => e z.1)]
theorem row_hi (j : Nat) (x : Int) : ∀ (bs : List Int) (k : Nat) (L : List Int) (m : Nat), j + k + bs.length ≤ m → (mulRow j x k bs L).getD m 0 = L.getD m 0
  | [], _, _, _, _ => rfl
  | y :: r, k, L, m, h => by
    rw [List.length_cons] at h
    show (mulRow j x (k + 1) r (L.set (j + k) _)).getD m 0 = _
    rw [row_hi j x r (k + 1) _ m (by omega), getD_set, if_neg (by omega)]
theorem row_top (j : Nat) (x : Int) : ∀ (bs : List Int) (y : Int) (k : Nat) (L : List Int), j + k + bs.length < L.length → (mulRow j x k (bs ++ [y]) L).getD (j + k + bs.length) 0 = L.getD (j + k + bs.length) 0 + x * y
  | [], y, k, L, h => by
    show (L.set (j + k) (L.getD (j + k) 0 + x * y)).getD (j + k) 0 = _
    rw [getD_set, if_pos ⟨rfl, h⟩]
    rfl
  | z :: r, y, k, L, h => by
    rw [List.length_cons] at h ⊢
    show (mulRow j x (k + 1) (r ++ [y]) (L.set (j + k) _)).getD (j + k + (r.length + 1)) 0 = _
    have e : j + k + (r.length + 1) = j + (k + 1) + r.length := by omega
    rw [e, row_top j x r y (k + 1) _ (by rw [List.length_set]; omega), getD_set, if_neg (by omega)]
theorem all_hi (bs : List Int) : ∀ (as : List Int) (j : Nat) (L : List Int) (m : Nat), j + as.length + bs.length ≤ m + 1 → (mulAll bs j as L).getD m 0 = L.getD m 0
  | [], _, _, _, _ => rfl
  | x :: r, j, L, m, h => by
    rw [List.length_cons] at h
    show (mulAll bs (j + 1) r _).getD m 0 = _
    rw [all_hi bs r (j + 1) _ m (by omega), row_hi j x bs 0 L m (by omega)]
theorem all_top (bs : List Int) (y : Int) : ∀ (as : List Int) (x : Int) (j : Nat) (L : List Int), j + as.length + bs.length < L.length → (mulAll (bs ++ [y]) j (as ++ [x]) L).getD (j + as.length + bs.length) 0 = L.getD (j + as.length + bs.length) 0 + x * y
  | [], x, j, L, h => by
    show (mulRow j x 0 (bs ++ [y]) L).getD (j + 0 + bs.length) 0 = _
    exact row_top j x bs y 0 L h
  | z :: r, x, j, L, h => by
    rw [List.length_cons] at h ⊢
    show (mulAll (bs ++ [y]) (j + 1) (r ++ [x]) _).getD (j + (r.length + 1) + bs.length) 0 = _
    have e : j + (r.length + 1) + bs.length = j + 1 + r.length + bs.length := by omega
    rw [e, all_top bs y r x (j + 1) _ (by rw [row_len]; omega), row_hi j z (bs ++ [y]) 0 L _ (by rw [List.length_append, List.length_singleton]; omega)]
theorem getD_rep (n m : Nat) : (List.replicate n (0 : Int)).getD m 0 = 0 := by
  rw [List.getD_eq_getElem?_getD, List.getElem?_replicate]
  split <;> rfl
theorem mul_hi {as bs : List Int} {m : Nat} (h : as.length + bs.length ≤ m + 1) : (mulL as bs).getD m 0 = 0 := by
  unfold mulL
  rw [all_hi bs as 0 _ m (by omega), getD_rep]
theorem mul_top (as bs : List Int) (x y : Int) : (mulL (as ++ [x]) (bs ++ [y])).getD (as.length + bs.length) 0 = x * y := by
  unfold mulL
  have h := all_top bs y as x 0 (List.replicate ((as ++ [x]).length + (bs ++ [y]).length) 0) (by rw [List.length_replicate, List.length_append, List.length_append]; simp; omega)
  rw [Nat.zero_add] at h
  rw [h, getD_rep, Int.zero_add]
/-! ### from 0 on -/
theorem set_nn {L : List Int} (h : ∀ n ∈ L, 0 ≤ n) {i : Nat} {v : Int} (hv : 0 ≤ v) : ∀ n ∈ L.set i v, 0 ≤ n := fun n hn => by
  rcases List.mem_or_eq_of_mem_set hn with e | e
  · exact h n e
  · rw [e]
    exact hv
theorem getD_nn {L : List Int} (h : ∀ n ∈ L, 0 ≤ n) (k : Nat) : 0 ≤ L.getD k 0 := by
  rw [List.getD_eq_getElem?_getD]
  by_cases hk : k < L.length
  · rw [List.getElem?_eq_getElem hk]
    exact h _ (List.getElem_mem hk)
  · rw [List.getElem?_eq_none (by omega)]
    exact Int.le_refl _
theorem row_nn (j : Nat) {x : Int} (hx : 0 ≤ x) : ∀ (bs : List Int) (k : Nat) (L : List Int), (∀ n ∈ bs, 0 ≤ n) → (∀ n ∈ L, 0 ≤ n) → ∀ n ∈ mulRow j x k bs L, 0 ≤ n
  | [], _, _, _, h => h
  | y :: r, k, L, hb, h => row_nn j hx r (k + 1) _ (fun n hn => hb n (List.mem_cons_of_mem _ hn)) (set_nn h (Int.add_nonneg (getD_nn h _) (Int.mul_nonneg hx (hb y List.mem_cons_self))))
theorem all_nn {bs : List Int} (hb : ∀ n ∈ bs, 0 ≤ n) : ∀ (as : List Int) (j : Nat) (L : List Int), (∀ n ∈ as, 0 ≤ n) → (∀ n ∈ L, 0 ≤ n) → ∀ n ∈ mulAll bs j as L, 0 ≤ n
  | [], _, _, _, h => h
  | x :: r, j, L, ha, h => all_nn hb r (j + 1) _ (fun n hn => ha n (List.mem_cons_of_mem _ hn)) (row_nn j (ha x List.mem_cons_self) bs 0 L hb h)
theorem mul_nn {as bs : List Int} (ha : ∀ n ∈ as, 0 ≤ n) (hb : ∀ n ∈ bs, 0 ≤ n) : ∀ n ∈ mulL as bs, 0 ≤ n := all_nn hb as 0 _ ha fun n hn => by
  rw [(List.mem_replicate.mp hn).2]
  exact Int.le_refl _
/-! ### the sum of all factors -/
theorem sum_set : ∀ {L : List Int} {i : Nat} {d : Int}, i < L.length → (L.set i (L.getD i 0 + d)).sum = L.sum + d
  | [], i, d, h => by simp at h
  | n :: r, 0, d, _ => by
    show ((n + d) :: r).sum = _
    rw [List.sum_cons, List.sum_cons]
    omega
  | n :: r, i + 1, d, h => by
    have ih := sum_set (L := r) (i := i) (d := d) (by simpa using h)
    show (n :: r.set i (r.getD i 0 + d)).sum = _
    rw [List.sum_cons, List.sum_cons, ih]
    omega
theorem row_sum (j : Nat) (x : Int) : ∀ (bs : List Int) (k : Nat) (L : List Int), j + k + bs.length ≤ L.length → (mulRow j x k bs L).sum = L.sum + x * bs.sum
  | [], _, L, _ => by
    show L.sum = L.sum + x * 0
    omega
  | y :: r, k, L, h => by
    rw [List.length_cons] at h
    show (mulRow j x (k + 1) r (L.set (j + k) _)).sum = _
    rw [row_sum j x r (k + 1) _ (by rw [List.length_set]; omega), sum_set (by omega), List.sum_cons, Int.mul_add]
    omega
theorem all_sum (bs : List Int) : ∀ (as : List Int) (j : Nat) (L : List Int), j + as.length + bs.length ≤ L.length → (mulAll bs j as L).sum = L.sum + as.sum * bs.sum
  | [], _, L, _ => by
    show L.sum = L.sum + 0 * bs.sum
    omega
  | x :: r, j, L, h => by
    rw [List.length_cons] at h
    show (mulAll bs (j + 1) r _).sum = _
    rw [all_sum bs r (j + 1) _ (by rw [row_len]; omega), row_sum j x bs 0 L (by omega), List.sum_cons, Int.add_mul]
    omega
theorem rep_sum : ∀ n : Nat, (List.replicate n (0 : Int)).sum = 0
  | 0 => rfl
  | n + 1 => by
    rw [List.replicate_succ, List.sum_cons, rep_sum n]
    rfl
theorem mul_sum (as bs : List Int) : (mulL as bs).sum = as.sum * bs.sum := by
  unfold mulL
  rw [all_sum bs as 0 _ (by rw [List.length_replicate]; omega), rep_sum, Int.zero_add]
theorem le_sum : ∀ {L : List Int}, (∀ n ∈ L, 0 ≤ n) → 0 ≤ L.sum ∧ ∀ n ∈ L, n ≤ L.sum
  | [], _ => ⟨Int.le_refl _, fun _ z => nomatch z⟩
  | x :: r, h => by
    obtain ⟨a, b⟩ := le_sum (L := r) fun n hn => h n (List.mem_cons_of_mem _ hn)
    have hx := h x List.mem_cons_self
    rw [List.sum_cons]
    refine ⟨by omega, fun n hn => ?_⟩
    rcases List.mem_cons.mp hn with e | e
    · rw [e]
      omega
    · have := b n e
      omega
end My

namespace My
open PySem PySem.Spec PyProof.Rows L2
/-! ### an instance compared by its own methods; != by object.__ne__; str(o) -/
section
open PySem.W
variable {prog : Program} {w : World} {A : Around} {E : Value → Shared → Prop} {s : Shared} {K : PySem.W.Frag} {x C L f : Addr} {h₀ : Heap} {m : Str → Option Value} {ox : Obj} {od : Option Obj} {tb b : Value}
theorem ifBound_B {M : Model} {name : Str} {id : String} {args : List Value} {Q : Option Value → Shared → Prop} (X : K.In s.heap) (I : PySem.W.InstAt s.heap x ox C od) (hs : PySem.W.findIn K (.ref C) name = some (some (.builtin id))) (hb : ∀ self, bindSpecial (.builtin id) self = pure (.builtin id, [self]))
    (h : wpAny M A (call (.builtin id) (.ref x :: args)) (fun v => Q (some v)) E s) : wpAny M A (callSpecialIfBound? (.ref x) name args) Q E s := by
  simp only [callSpecialIfBound?, bindSpecialIfBound?]
  refine wpAny_holding (wpAny_bind (wpAny_bind (wpAny_bind (I.type.here ((PySem.W.looks_findIn X hs).here ?_)))))
  refine wpAny_bind (wpAny_askSetting (wpAny_ite ?_))
  have fin : wpAny M A (call (.builtin id) ([.ref x] ++ args) >>= fun v => pure (some v)) Q E s := wpAny_bind (wpAny_mono h (fun v s' h' => wpAny_pure h') fun _ _ h' => h')
  split
  · exact wpAny_bind ((PySem.W.Looks.of_pure (hb _)).here (wpAny_pure (by exact fin)))
  · exact wpAny_tryCatch (wpAny_bind ((PySem.W.Looks.of_pure (hb _)).here (wpAny_pure (by exact fin))))
theorem ne_K {Q : Value → Shared → Prop} (hu : A.units + 1 < cLine) (F : Fr h₀ L s.heap m) (X₀ : K.In h₀) (I : PySem.W.InstAt s.heap x ox C od) (hb : PySem.W.Looks (model prog w) s.heap (typeOf b) tb) (hn : PySem.W.notFirst K C tb = true)
    (hs : PySem.W.findIn K (.ref C) "__eq__" = some (some (.ref f))) (hf : PySem.W.isFn K (.ref f) = true) (hne : PySem.W.findIn K (.ref C) "__ne__" = some (some (.builtin "object.__ne__"))) (hm : PySem.W.mroIn K C (.type "object") = some true)
    (h : wpAny (model prog w) A.in1 (call (.ref f) [.ref x, b]) (fun v s' => ∃ k, v = .bool k ∧ Q (.bool (!k)) s') E s) : wpAny (model prog w) A (richCompare .NotEq (.ref x) b) Q E s := by
  have X := X₀.keeps F.keep
  have one : wpAny (model prog w) A (tryCompare (.ref x) "__ne__" b) (fun r s' => ∃ v, r = some v ∧ Q v s') E s := by
    unfold tryCompare
    refine wpAny_bind (ifBound_B X I hne PySem.F.slot_object_ne.bind ?_)
    refine wpAny_call (codeAny_call_builtin PySem.F.slot_object_ne.plain PySem.F.cmpEntry_ne (PySem.W.check_slot PySem.F.cmpKind_ne PySem.F.cmpSplit_ne (I.type.andThen (PySem.W.looks_mroIn X hm)) (PySem.F.cmpArgs_ne _ _) ?_))
    unfold Builtin.«object.__ne__»
    refine wpAny_bind (m := slotArgs "__ne__" 1 _) (wpAny_pure ?_)
    refine wpAny_bind (wpAny_cRoomFor (by show A.units + 1 < cLine; exact hu) ?_)
    refine wpAny_bind (m := callSpecialIfBound? (.ref x) (Str.ofString "__eq__") _) (PySem.W.ifBound_K X I hs hf (wpAny_mono h (fun v s' hv => ?_) fun _ _ e => e))
    obtain ⟨k, rfl, hq⟩ := hv
    refine wpAny_bind (m := truthy (.bool k)) (wpAny_truthy_bool ?_)
    exact wpAny_pure (wpAny_pure ⟨_, rfl, hq⟩)
  unfold richCompare
  simp only [oneThing_ref]
  refine wpAny_holding (wpAny_bind (wpAny_cRoomFor (Nat.lt_of_succ_lt hu) ?_))
  rw [cmpInfo_NotEq]
  dsimp only
  refine wpAny_bind (I.type.here (wpAny_bind (hb.here ?_)))
  split
  · rename_i q
    have e : PySem.W.subIn K tb (.ref C) = some false := by
      rcases Bool.or_eq_true_iff.mp hn with e | e
      · rw [beq_iff_eq.mp e] at q; simp at q
      · exact beq_iff_eq.mp e
    refine wpAny_bind ((PySem.W.looks_subIn X e).here ?_)
    simp only [Bool.false_eq_true, if_false]
    refine wpAny_bind (wpAny_mono one (fun r s' z => ?_) fun _ _ e => e)
    obtain ⟨v, rfl, hq⟩ := z
    exact wpAny_pure hq
  · refine wpAny_bind (wpAny_pure ?_)
    simp only [Bool.false_eq_true, if_false]
    refine wpAny_bind (wpAny_mono one (fun r s' z => ?_) fun _ _ e => e)
    obtain ⟨v, rfl, hq⟩ := z
    exact wpAny_pure hq
end
section
variable {X : Cx} {CX : CXT} {k : Nat} {C g : Addr} {sp : Sp} {E : XK}
/-- o op y by o's own method, y of any type that is not below o's -/
def rCmpO (K : PySem.W.Frag) (C : Addr) (sp : Sp) (E : XK) : R2 := fun x y H Q => ∃ a dx fs ty, x = .ref a ∧ H a = some (.ins C dx fs) ∧ TyX K H y ty ∧ PySem.W.notFirst K C ty = true ∧ sp [x, y] H Q E
theorem op_cmpO {op : CmpOp} (hop : ∀ a b, compareOp op a b = richCompare op a b) (M : OwnM X.K C (cmpInfo op).2.1 g) (F : FnR X.prog X.w X.K X.mg X.base CX k g sp) (hr : Room k X.A) (hx : Passes CX X E) : OpR X (compareOp op) (rCmpO X.K C sp E) := by
  intro pins s σ H x y v u Q I rx ry h
  obtain ⟨a, dx, fs, ty, rfl, ea, hty, hn, q⟩ := h
  cases (show v = Value.ref a from rx)
  obtain ⟨mA, O, _⟩ := ins_get I.hok ea
  obtain ⟨od, J, _⟩ := O.look
  obtain ⟨m', hF⟩ := I.fr
  obtain ⟨PP, Z, pp, _⟩ := kit_of I ry hty
  rw [hop]
  refine PySem.W.cmp_K (op := op) (tb := ty) hr.units0 hF I.ok.mod.kin J (Z.ty _ _ I.kIn pp) hn M.at_ M.fn (wpAny_mono (wpAny_call (run_fnR (us := [.ref a, u]) (vs := [.ref a, y]) F hr hx I (.cons rfl (.cons ry .nil)) q)) (fun z s' hz => ?_) fun _ _ z => z)
  obtain ⟨z', H', I', rz, qz⟩ := hz
  exact SlX.cmpback rz ⟨z', H', I', rz, qz⟩
/-- o != y where o has its own __eq__ alone -/
def rNeO (K : PySem.W.Frag) (C : Addr) (sp : Sp) (E : XK) : R2 := fun x y H Q => ∃ a dx fs ty, x = .ref a ∧ H a = some (.ins C dx fs) ∧ TyX K H y ty ∧ PySem.W.notFirst K C ty = true ∧ sp [x, y] H (fun v H' => ∃ b, v = .bl b ∧ Q (.bl (!b)) H') E
theorem op_neO (M : OwnM X.K C "__eq__" g) (hne : PySem.W.findIn X.K (.ref C) "__ne__" = some (some (.builtin "object.__ne__"))) (hm : PySem.W.mroIn X.K C (.type "object") = some true) (F : FnR X.prog X.w X.K X.mg X.base CX k g sp) (hr : Room (k + 1) X.A) (hx : Passes CX X E) : OpR X (compareOp .NotEq) (rNeO X.K C sp E) := by
  intro pins s σ H x y v u Q I rx ry h
  obtain ⟨a, dx, fs, ty, rfl, ea, hty, hn, q⟩ := h
  cases (show v = Value.ref a from rx)
  obtain ⟨mA, O, _⟩ := ins_get I.hok ea
  obtain ⟨od, J, _⟩ := O.look
  obtain ⟨m', hF⟩ := I.fr
  obtain ⟨PP, Z, pp, _⟩ := kit_of I ry hty
  have hu : X.A.units + 1 < cLine := by have := hr.units; omega
  refine ne_K (tb := ty) hu hF I.ok.mod.kin J (Z.ty _ _ I.kIn pp) hn M.at_ M.fn hne hm (wpAny_mono (wpAny_call (SlX.run_at (us := [.ref a, u]) (ws := [.ref a, y]) F hr.in1 I.env0.in1 hx I (.cons rfl (.cons ry .nil)) q)) (fun z s' hz => ?_) fun _ _ z => z)
  obtain ⟨z', H', I', rz, b, ez, qz⟩ := hz
  subst ez
  cases (show z = Value.bool b from rz)
  exact ⟨b, rfl, .bl (!b), H', I', rfl, qz⟩
/-- str(o) by its own __str__ -/
def rStrO (C : Addr) (sp : Sp) (E : XK) : List V → Hp → VK → Prop := fun xs H Q => ∃ a dx fs, xs = [V.ref a] ∧ H a = some (.ins C dx fs) ∧ sp [.ref a] H (fun v H' => ∃ z, v = .str z ∧ Q (.str z) H') E
theorem call_strO (M : OwnM X.K C "__str__" g) (F : FnR X.prog X.w X.K X.mg X.base CX k g sp) (hr : Room (k + 2) X.A) (hx : Passes CX X E) : CallR X (.type "str") (rStrO C sp E) := by
  intro pins s σ H xs us Q I r h
  obtain ⟨a, dx, fs, rfl, ha, q⟩ := h
  obtain ⟨u, rfl, ru⟩ := vals1 r
  cases (show u = Value.ref a from ru)
  obtain ⟨mA, O, _⟩ := ins_get I.hok ha
  obtain ⟨od, J, _⟩ := O.look
  have hr2 : Room k X.A.in1.in1 := (show Room (k + 1) X.A.in1 from Room.in1 hr).in1
  refine PySem.W.kso_call hr2.units0 I.kIn J M.at_ M.fn (wpAny_mono (wpAny_call (SlX.run_at (us := [.ref a]) (ws := [.ref a]) F hr2 I.env0.in1.in1 hx I (.cons rfl .nil) q)) (fun v s' z => ?_) fun _ _ x => x)
  obtain ⟨z', H', I', rz, y, ez, qz⟩ := z
  subst ez
  obtain ⟨t, e⟩ := (show ∃ t, v = Value.str y t from rz)
  cases e
  exact ⟨.str y, H', I', ⟨_, rfl⟩, qz⟩
/-! ### the order of data -/
def rLtDa (K : PySem.W.Frag) (f : PyData → PyData → Bool) : R2 := fun x y H Q => ∃ d e, Dp K H x d ∧ Dp K H y e ∧ PySem.W.alike d e = true ∧ d ≠ .none ∧ d.depth ≤ 60 ∧ Q (.bl (f d e)) H
theorem min_fit {a b : Nat} {A : Around} (hu : A.units + 64 < cLine) (h : a ≤ 60) : A.units + min a b < cLine := by omega
theorem op_ltDa (hu : X.A.units + 64 < cLine) : OpR X (compareOp .Lt) (rLtDa X.K PySem.W.dataLt) := by
  intro pins s σ H x y v u Q I rx ry ⟨d, e, hd, he, al, hn, dep, q⟩
  obtain ⟨as, r1⟩ := Dp.reads I d x v hd rx
  obtain ⟨bs, r2⟩ := Dp.reads I e y u he ry
  exact PySem.W.lt_data r1 r2 al hn (min_fit hu dep) ⟨.bl _, H, I, rfl, q⟩
theorem op_gtDa (hu : X.A.units + 64 < cLine) : OpR X (compareOp .Gt) (rLtDa X.K fun d e => PySem.W.dataLt e d) := by
  intro pins s σ H x y v u Q I rx ry ⟨d, e, hd, he, al, hn, dep, q⟩
  obtain ⟨as, r1⟩ := Dp.reads I d x v hd rx
  obtain ⟨bs, r2⟩ := Dp.reads I e y u he ry
  exact PySem.W.gt_data r1 r2 al hn (min_fit hu dep) ⟨.bl _, H, I, rfl, q⟩
theorem op_leDa (hu : X.A.units + 64 < cLine) : OpR X (compareOp .LtE) (rLtDa X.K fun d e => !PySem.W.dataLt e d) := by
  intro pins s σ H x y v u Q I rx ry ⟨d, e, hd, he, al, hn, dep, q⟩
  obtain ⟨as, r1⟩ := Dp.reads I d x v hd rx
  obtain ⟨bs, r2⟩ := Dp.reads I e y u he ry
  exact PySem.W.le_data r1 r2 al hn (min_fit hu dep) ⟨.bl _, H, I, rfl, q⟩
theorem op_geDa (hu : X.A.units + 64 < cLine) : OpR X (compareOp .GtE) (rLtDa X.K fun d e => !PySem.W.dataLt d e) := by
  intro pins s σ H x y v u Q I rx ry ⟨d, e, hd, he, al, hn, dep, q⟩
  obtain ⟨as, r1⟩ := Dp.reads I d x v hd rx
  obtain ⟨bs, r2⟩ := Dp.reads I e y u he ry
  exact PySem.W.ge_data r1 r2 al hn (min_fit hu dep) ⟨.bl _, H, I, rfl, q⟩
end
end My

/-! ### enumerate(a tuple) -/
namespace My
open PySem PySem.Spec PyProof.Rows L2
theorem meets_enumerate_newT (l : Addr) (items : Array Value) (n : Nat) (dct : Option Addr) (sl : Array (Option Value)) :
    Meets (Builtin.«enumerate.__new__» ⟨[.type "enumerate", .ref l], []⟩) (fun _ R s => s.heap.get? l = some { cls := .type "tuple", dict := dct, data := .seq items n, slots := sl } ∧
      R (.ok (.ret (.ref (s.heap.push { cls := .type "tuple_iterator", data := .fields #[.ref l, .int 0 0] }).objs.size)))
        { s with heap := (s.heap.push { cls := .type "tuple_iterator", data := .fields #[.ref l, .int 0 0] }).push { cls := .type "enumerate", data := .fields #[.none, .bool false, .ref s.heap.objs.size, rawInt 0, .none, .none] } }) :=
  .of_wp fun prog w A R s h => by
    obtain ⟨hp, g, d, tk, os⟩ := s
    obtain ⟨hl, h⟩ := h
    have hL : hp.IsTuple l items := ⟨_, hl, rfl, n, rfl⟩
    have hsub := sub_enumerate
    wp_walk
    refine wpAny_stack_any fun st => wpAny_pure ?_
    split
    · rename_i c _ _ _ _ _
      cases (c == Value.type "enumerate")
      · wp_walk using wpAny_loadPart' hl, wpAny_pyIter_tuple hL
        exact ⟨_, rfl, h⟩
      · wp_walk using wpAny_loadPart' hl, wpAny_pyIter_tuple hL
        exact ⟨_, rfl, h⟩
    · wp_walk using wpAny_loadPart' hl, wpAny_pyIter_tuple hL
      exact ⟨_, rfl, h⟩
section
variable {prog : Program} {w : World} {A : Around} {E : Value → Shared → Prop} {s : Shared}
theorem call_enumerate_tuple {l : Addr} {items : Array Value} {Q : Value → Shared → Prop} (hL : s.heap.IsTuple l items)
    (h : ∀ h', IsEnum h' (s.heap.objs.size + 1) s.heap.objs.size 0 .none → h'.IsTupleIter s.heap.objs.size l 0 → h'.objs.size = s.heap.objs.size + 2 →
      (∀ b o, s.heap.get? b = some o → h'.get? b = some o) → Q (.ref (s.heap.objs.size + 1)) { s with heap := h' }) :
    wpAny (model prog w) A (call (.type "enumerate") [.ref l]) Q E s := by
  obtain ⟨⟨c, dct, dt, sl⟩, hl, hc, n, hd⟩ := hL
  replace hc : c = .type "tuple" := hc
  replace hd : dt = .seq items n := hd
  subst hc hd
  refine callType_new F.called_enumerate (by decide) (F.typeCall_enumerate_1 _) (F.newCall_enumerate_1 _) (fun obj => F.args_object_init_2 obj _) F.entry_enumerate_new
    (meets_enumerate_newT l items n dct sl) ⟨hl, ?_⟩
  have hz : (s.heap.push { cls := .type "tuple_iterator", data := .fields #[.ref l, .int 0 0] }).objs.size = s.heap.objs.size + 1 := Heap.size_push ..
  show _ ∧ _
  rw [hz]
  have he : IsEnum ((s.heap.push { cls := .type "tuple_iterator", data := .fields #[.ref l, .int 0 0] }).push
      { cls := .type "enumerate", data := .fields #[.none, .bool false, .ref s.heap.objs.size, rawInt 0, .none, .none] }) (s.heap.objs.size + 1) s.heap.objs.size 0 .none := by
    have := Heap.get?_push_size (s.heap.push { cls := .type "tuple_iterator", data := .fields #[.ref l, .int 0 0] })
      (o := { cls := .type "enumerate", data := .fields #[.none, .bool false, .ref s.heap.objs.size, rawInt 0, .none, .none] }) rfl
    rw [hz] at this; exact this
  refine ⟨⟨_, he, rfl⟩, h _ he ⟨_, Heap.get?_push_of_some _ (Heap.get?_push_size _ rfl), rfl, rfl⟩ (by rw [Heap.size_push, hz]) fun b o x => Heap.get?_push_of_some _ (Heap.get?_push_of_some _ x)⟩
theorem enum_endT {e it l : Addr} {i : Nat} {items : Array Value} {old : Value} {Q : Option Value → Shared → Prop} (hh : A.in1.handled = none)
    (he : IsEnum s.heap e it i old) (hit : s.heap.IsTupleIter it l i) (hl : s.heap.IsTuple l items) (hx : items[i]? = none)
    (hQ : ∀ h', Heap.ExtBut it s.heap h' → Q none { s with heap := h' }) : wpAny (model prog w) A (pyNext (.ref e)) Q E s := by
  have hT : s.TypeIs (.ref e) "enumerate" := ⟨_, he, rfl⟩
  unfold pyNext
  refine wpAny_bind (wpAny_attempt (wpAny_callSpecial?_slot (name := Str.ofString "__next__") hT F.slot_enumerate_next
    (wpAny_call_entry F.slot_enumerate_next hT F.entry_enumerate_next ?_ (F.args_enumerate_next_1 _))))
  show wpAny _ _ (field (.ref e) 2 >>= _) _ _ _
  refine wpAny_bind (wpAny_field he rfl (x := .ref it) rfl ?_)
  refine wpAny_bind (wpAny_nextOf_tuple_end hh hit hl hx fun h' x he' hx' => ?_)
  obtain ⟨o, ho, hc⟩ := hx'
  refine wpAny_bind (wpAny_isInstance (T := "StopIteration") (b := true) ⟨o, ho, hc⟩ isSubtype_stop ?_)
  exact wpAny_pure (hQ _ he')
end
/-- the tuple at a, each item in a new pair -/
def IteT (K : PySem.W.Frag) (a : Addr) : It :=
  ⟨fun i H => ∃ (xs : List V) (x : V), SqT K H a xs ∧ xs[i]? = some x, fun i H v H' => ∃ T x, v = .ref T ∧ H T = none ∧ H' = upd H T (.tup [.int (i : Nat), x]) ∧ ∀ xs, SqT K H a xs → xs[i]? = some x, fun i H => ∃ xs : List V, SqT K H a xs ∧ xs.length ≤ i⟩
theorem turn_enumT {P : Program} {w : World} {K : PySem.W.Frag} {elts : List Expr} {kk : Nat} {tpos : Pos} (a e it : Addr) (ea : e ≠ a) (ia : a ≠ it) :
    Turn P w K (.Tuple elts kk tpos) (IteT K a) [e, it] e (fun i h => (∃ old, IsEnum h e it ((i : Nat) : Int) old) ∧ h.IsTupleIter it a i ∧ e ≠ it) where
  mem := by simp
  obj := fun i h st b hb => by
    obtain ⟨⟨old, he⟩, ⟨o, ho, hc, hd⟩, _⟩ := st
    have e' : b = e ∨ b = it := by simpa using hb
    rcases e' with z | z
    · rw [z]; exact ⟨_, he, fun v q => nomatch q⟩
    · rw [z]; exact ⟨o, ho, fun v q => by rw [hd] at q; cases q⟩
  keep := fun i h h' st k => let ⟨⟨old, he⟩, hi, hne⟩ := st; ⟨⟨old, k e (by simp) _ he⟩, hi.at fun o q => k it (by simp) o q, hne⟩
  item := by
    intro X hP hw hK hc i pins s σ H E I hf st hg
    subst hP hw hK
    obtain ⟨⟨old, he⟩, hit, hne⟩ := st
    obtain ⟨xs, x, hq, hx⟩ := hg
    obtain ⟨its, rv, p, hz⟩ := I.tuple hq
    obtain ⟨u, hu, ru⟩ := rv.get hx
    have hel : e < s.heap.objs.size := Heap.lt_size he
    have hil : it < s.heap.objs.size := by obtain ⟨_, q, _⟩ := hit; exact Heap.lt_size q
    have hlt : i < its.toArray.size := by
      rw [List.size_toArray]
      exact (List.getElem?_eq_some_iff.mp hu).1
    refine wpAny_pyNext_enum_itemD (Draws.tuple (A := X.A.in1) (show X.A.in1.handled = none from I.ok.hd hc) it a ia its.toArray) he ⟨hit, p⟩ hlt hne (by simp [hne, ea]) fun x' h' tk hx' ho hst hT hsz hk => ?_
    obtain rfl : u = x' := by
      have z : its[i]? = some x' := by simpa using hx'
      rw [hu] at z
      exact Option.some.inj z
    obtain ⟨hit', _⟩ := hst
    refine ⟨_, rfl, wpAny_letOwnedTupleGo_enum (s := { s with heap := h', toks := tk + 1 }) ho fun h'' he' sb => ?_⟩
    have hT2 : h''.get? s.heap.objs.size = some { cls := .type "tuple", data := .seq #[.int i tk, u] } := (sb.2 _ (Nat.ne_of_gt hel)).trans hT
    have new : ObjOk X.prog X.w (upd H s.heap.objs.size (.tup [.int (i : Nat), x])) h'' s.heap.objs.size (.tup [.int (i : Nat), x]) :=
      ⟨by show 2 ≤ sizeLine; decide, [.int i tk, u], .cons ⟨_, rfl⟩ (.cons ru .nil), ⟨_, hT2, rfl, _, rfl⟩⟩
    have I1 : Inv X pins σ (upd H s.heap.objs.size (.tup [.int (i : Nat), x])) { s with heap := h'', toks := tk + 1 } :=
      I.turnedNew (ch := [e, it]) (fun b ob hb q => (sb.2 b (fun z => hb (by simp [z]))).trans (hk b ob (fun z => hb (by simp [z])) (fun z => hb (by simp [z])) q)) hf (Nat.le_refl _) new
    refine ⟨.ref s.heap.objs.size, _, I1, rfl, ⟨_, x, rfl, I.hok.fresh (Nat.le_refl _), rfl, fun ys hy => by rw [I.tuple_inj hy hq]; exact hx⟩, ⟨⟨u, ?_⟩, hit'.at fun o q => (sb.2 it (Ne.symm hne)).trans q, hne⟩, fun b hb => ?_⟩
    · have e1 : ((i + 1 : Nat) : Int) = (i : Int) + 1 := by omega
      rw [e1]; exact he'
    · have hb' : b < s.heap.objs.size := by
        have e' : b = e ∨ b = it := by simpa using hb
        rcases e' with z | z
        · rw [z]; exact hel
        · rw [z]; exact hil
      rw [upd_ne (Nat.ne_of_lt hb')]
      exact (hf b hb).1
  done := by
    intro X hP hw hK hc i pins s σ H E I hf st hg
    subst hP hw hK
    obtain ⟨⟨old, he⟩, hit, hne⟩ := st
    obtain ⟨xs, hq, hx⟩ := hg
    obtain ⟨its, rv, p, hz⟩ := I.tuple hq
    obtain ⟨f0, f1, f2, f3, f4, f5⟩ := hf it (by simp)
    have hl := rv.length
    exact enum_endT (show X.A.in1.handled = none from I.ok.hd hc) he hit p (by simp; omega) fun h' eb => ⟨rfl, I.turned (t' := s.toks) (fun b o hb q => eb b o hb q) f0 f1 f3 f4 f5⟩
  self := fun A i s Q E st h => let ⟨⟨_, he⟩, _⟩ := st; wpAny_pyIter_enum he h
def iEnumT (K : PySem.W.Frag) (ta : TA) : TI := fun σ H R => ta σ H fun vs H1 => ∃ a xs, vs = [.ref a] ∧ SqT K H1 a xs ∧ R (IteT K a) H1
theorem pi_enumT {X : Cx} {e : Expr} {ta : TA} {p pos tpos : Pos} {elts : List Expr} {kk : Nat} (hg : Gl X "enumerate") (hm : X.mg "enumerate" = none) (ha : PA X [e] ta) (hs : starEach [e] X.env = [(false, eval e X.env)] := by rfl) :
    PI X (.Tuple elts kk tpos) (.Call (.Name "enumerate" p) [e] [] pos) (iEnumT X.K ta) := by
  refine ⟨fun pins s σ H R I h => ?_⟩
  refine Call_ (ld_blt I hg hm boot_enumerate (PyProof.Rows.callWith_type1 (thn (ha.run pos pins s σ H _ I h) fun us s1 ⟨vs, H1, I1, r1, q1⟩ => ?_) hs rfl))
  obtain ⟨a, xs, ex, hq, q⟩ := q1
  subst ex
  cases r1 with
  | cons r rr =>
    cases rr
    cases r
    obtain ⟨its, rv, p', hz⟩ := I1.tuple hq
    have al : a < s1.heap.objs.size := by
      obtain ⟨o, ho, _⟩ := p'
      exact Heap.lt_size ho
    refine call_enumerate_tuple p' fun h' he hit hsz hk => wpAny_pyIter_enum he ?_
    have I2 : Inv X pins σ H1 { s1 with heap := h' } := I1.kept (t' := s1.toks) hk
    refine ⟨s1.heap.objs.size + 1, [s1.heap.objs.size + 1, s1.heap.objs.size], _, _, H1, rfl, I2, turn_enumT a (s1.heap.objs.size + 1) s1.heap.objs.size (Nat.ne_of_gt (Nat.lt_succ_of_lt al)) (Nat.ne_of_lt al), ⟨⟨.none, he⟩, hit, Nat.succ_ne_self _⟩, fun b hb => ?_, q⟩
    have e' : b = s1.heap.objs.size + 1 ∨ b = s1.heap.objs.size := by simpa using hb
    have hle : s1.heap.objs.size ≤ b := by
      rcases e' with z | z
      · rw [z]; exact Nat.le_add_right _ _
      · rw [z]; exact Nat.le_refl _
    exact I1.fpOk hle (I1.hok.fresh hle)
theorem walk_enumT {K : PySem.W.Frag} {a : Addr} {xs : List V} : Walk (IteT K a) xs.length (fun H => SqT K H a xs) (YPair (fun i => some (.int (i : Nat))) (fun i => xs[i]?)) := by
  refine ⟨fun i _ hi q => ⟨xs, xs[i], q, by simp [hi]⟩, fun _ q => ⟨xs, q, Nat.le_refl _⟩, fun i H v H' _ q y => ?_⟩
  obtain ⟨T, x, h1, h2, h3, h4⟩ := y
  exact ⟨T, .int (i : Nat), x, h1, h2, h3, rfl, h4 xs q⟩
end My

namespace My
open PySem PySem.Spec PyProof.Rows L2
abbrev s_multiplied : Stmt := topS 30
theorem sc_multiplied : FnScope ["one", "other", "factors", "j", "first", "k", "second", "_"] ["one", "other"] (defScope s_multiplied) := ⟨rfl, rfl, rfl, by decide +kernel, rfl, by decide +kernel, by decide +kernel⟩
abbrev s_law_times : Stmt := topS 63
theorem sc_law_times : FnScope ["one", "other", "some", "spot", "factor", "place", "share"] ["one", "other"] (defScope s_law_times) := ⟨rfl, rfl, rfl, by decide +kernel, rfl, by decide +kernel, by decide +kernel⟩
structure TxtQ (mg : Str → Option Value) : Prop where
  n_len : mg "len" = none
  n_range : mg "range" = none
  n_enumerate : mg "enumerate" = none
  n_max : mg "max" = none
/-- factors that may be multiplied -/
def Big (ns : List Int) : Prop := ns.length ≤ 300 ∧ ∀ n ∈ ns, n.natAbs < 2 ^ 400000
theorem Big.mul {as bs : List Int} (ha : Big as) (hb : Big bs) {i j : Nat} (hi : i < as.length) (hj : j < bs.length) : CMulW as[i] bs[j] := wide_mul (a := 400000) (b := 400000) (ha.2 _ (List.getElem_mem hi)) (hb.2 _ (List.getElem_mem hj)) (by decide) (by decide) (by decide)
structure spMulT (vs : List V) (H : Hp) (Q : VK) (E : XK) : Prop where
  ex : ∃ a b as bs, vs = [.ref a, .ref b] ∧ Rd H a (.tup (as.map V.int)) ∧ Rd H b (.tup (bs.map V.int)) ∧ Big as ∧ Big bs ∧ ∀ r H', Same H H' → Rd H' r (.tup ((trimN (mulL as bs)).map V.int)) → Q (.ref r) H'
structure spMulX (vs : List V) (H : Hp) (Q : VK) (E : XK) : Prop where
  ex : ∃ a b as bs, vs = [.ref a, .ref b] ∧ H a = some (.lst (as.map V.int)) ∧ H b = some (.lst (bs.map V.int)) ∧ Big as ∧ Big bs ∧ ∀ l H', Same H H' → H l = none → H' l = some (.lst ((trimN (mulL as bs)).map V.int)) → Q (.ref l) H'
theorem ix_nat {n i : Nat} (h : i < n) : ixN n (i : Int) = some i := by
  unfold ixN
  rw [if_pos (by omega), if_pos (by omega), Int.toNat_natCast]
theorem get_nat {L : List Int} {i : Nat} (h : i < L.length) : atI (L.map V.int) (i : Int) = some (V.int (L.getD i 0)) := atI_nat (by rw [List.getElem?_map, List.getD_eq_getElem?_getD, List.getElem?_eq_getElem h]; rfl)
section
variable {P : Program} {w : World} {K : PySem.W.Frag} {mg : Str → Option Value} {base : Heap}
theorem ok_law_times {f f1 : Addr} {fd fd1 : FuncData} {k : Nat} (F : Fun K "_law_times" "_law_times" s_law_times f fd) (T : TxtQ mg) (F__law_trimmed : Fun K "_law_trimmed" "_law_trimmed" s_law_trimmed f1 fd1) (b__law_trimmed : Binds K fd1 ["factors"] []) (g__law_trimmed : mg "_law_trimmed" = some (.ref f1)) (G__law_trimmed : FnOk P w K mg base CX0 1 f1 fd1 ["factors"] (spLTrim K)) : FnOk P w K mg base CX0 (k + 2) f fd ["one", "other"] spMulX := by
  refine F.ok sc_law_times (fun vs H Q E h => ?_) (fun cdv A outer s H vs Q E hr h => ?_)
  · obtain ⟨a, b, as, bs, rfl, _⟩ := h
    rfl
  · obtain ⟨a, b, as, bs, rfl, ha, hb, ba, bb, q⟩ := h
    refine ⟨_, (pss_cons (ps_set (i := 2) sc_law_times.nd rfl (.inl rfl) (pe_op op_rep (pe_lst (pa_cons pe_int pa_nil)) (pe_op op_add (pe_callB call_len_seq (by rfl) T.n_len (by decide +kernel) (pa_cons (pv 0) pa_nil)) (pe_callB call_len_seq (by rfl) T.n_len (by decide +kernel) (pa_cons (pv 1) pa_nil)))))
  (pss_cons (ps_for PassesOwn.never rfl (pi_enum (by rfl) T.n_enumerate (pa_cons (pv 0) pa_nil)) (pg_tup rfl (pgs_cons (pg_name (i := 3) sc_law_times.nd rfl (.inl rfl)) (pgs_cons (pg_name (i := 4) sc_law_times.nd rfl (.inl rfl)) pgs_nil)))
   (pss_one (ps_for PassesOwn.never rfl (pi_enum (by rfl) T.n_enumerate (pa_cons (pv 1) pa_nil)) (pg_tup rfl (pgs_cons (pg_name (i := 5) sc_law_times.nd rfl (.inl rfl)) (pgs_cons (pg_name (i := 6) sc_law_times.nd rfl (.inl rfl)) pgs_nil)))
   (pss_one (ps_asg (pe_op op_add (pe_ix ix_list (pv 2) (pe_op op_add (pv 3) (pv 5)) (fun _ _ => rfl)) (pe_op op_mulW (pv 4) (pv 6))) (pg_sub (pv 2) (pe_op op_add (pv 3) (pv 5)) set_list))))))
  (pss_one (ps_ret (pe_call G__law_trimmed (hr.mono (by omega)) (by rfl) g__law_trimmed F__law_trimmed.kp b__law_trimmed .nil pass0 (pa_cons (pv 2) pa_nil)))))), ?_⟩
    clear G__law_trimmed
    have la := ba.1
    have lb := bb.1
    refine ⟨by show 1 ≤ sizeLine; decide, fun b1 nb1 => ?_⟩
    have s1 := same_upd (o := .lst [V.int 0]) nb1
    have e1 : (upd H b1 (.lst [V.int 0])) b1 = some (.lst [V.int 0]) := upd_same
    generalize upd H b1 (.lst [V.int 0]) = H1 at s1 e1 ⊢
    refine ⟨_, rfl, a, _, rfl, .inl (.inl (.inl (s1 _ _ ha))), _, rfl, b, _, rfl, .inl (.inl (.inl (s1 _ _ hb))), _, _, rfl, rfl, ?_⟩
    rw [List.length_map, List.length_map]
    refine ⟨b1, ((as.length + bs.length : Nat) : Int), _, rfl, rfl, e1, by omega, by omega, by rw [Int.toNat_natCast]; exact Nat.le_of_lt (small1000 (show 1 * (as.length + bs.length) ≤ 1000 by omega)), fun L nL => ?_⟩
    have nLH : H L = none := s1.free nL
    have e2 : (upd H1 L (.lst (List.replicate (Int.toNat ((as.length + bs.length : Nat) : Int)) [V.int 0]).flatten)) L = some (.lst ((List.replicate (as.length + bs.length) (0 : Int)).map V.int)) := by
      rw [upd_same, Int.toNat_natCast]
      simp
    have s2 := s1.trans (same_upd (o := .lst (List.replicate (Int.toNat ((as.length + bs.length : Nat) : Int)) [V.int 0]).flatten) nL)
    generalize upd H1 L (.lst (List.replicate (Int.toNat ((as.length + bs.length : Nat) : Int)) [V.int 0]).flatten) = H2 at s2 e2 ⊢
    refine ⟨_, rfl, a, _, rfl, .inl (.inl (s2 _ _ ha)), ?_⟩
    refine for_it (walk_enum (xs := as.map V.int)) (fun i σ H5 => Same H H5 ∧ ∃ (M : List Int) (v3 v4 v5 v6 : Option V), σ = [some (.ref a), some (.ref b), some (.ref L), v3, v4, v5, v6] ∧ H5 L = some (.lst (M.map V.int)) ∧ M.length = as.length + bs.length ∧ mulAll bs i (as.drop i) M = mulL as bs) ⟨s2, _, none, none, none, none, rfl, e2, List.length_replicate, rfl⟩ (fun i σ H5 _ h => .inl (.inl (h.1 _ _ ha))) ?_ ?_
    · rintro i x σ H5 H6 hi ⟨s5, M, v3, v4, v5, v6, rfl, eL, lM, inv⟩ ⟨T5, x5, y5, rfl, nT, rfl, ex, ey⟩
      rw [List.length_map] at hi
      have ey : (as.map V.int)[i]? = some y5 := ey
      rw [List.getElem?_map, List.getElem?_eq_getElem hi] at ey
      obtain rfl : V.int as[i] = y5 := Option.some.inj ey
      obtain rfl : V.int (i : Nat) = x5 := Option.some.inj ex
      rw [List.drop_eq_getElem_cons hi] at inv
      have s6 := s5.trans (same_upd (o := .tup [V.int (i : Nat), V.int as[i]]) nT)
      have eL6 := (same_upd (o := .tup [V.int (i : Nat), V.int as[i]]) nT) _ _ eL
      refine ⟨T5, _, rfl, .inl (.inl upd_same), rfl, _, _, rfl, _, _, rfl, rfl, ?_⟩
      generalize upd H5 T5 (.tup [V.int (i : Nat), V.int as[i]]) = H6 at s6 eL6 ⊢
      refine ⟨_, rfl, b, _, rfl, .inl (.inl (s6 _ _ hb)), ?_⟩
      refine for_it (walk_enum (xs := bs.map V.int)) (fun j σ H7 => Same H H7 ∧ ∃ (N : List Int) (v5 v6 : Option V), σ = [some (.ref a), some (.ref b), some (.ref L), some (.int (i : Nat)), some (.int as[i]), v5, v6] ∧ H7 L = some (.lst (N.map V.int)) ∧ N.length = as.length + bs.length ∧ mulRow i as[i] j (bs.drop j) N = mulRow i as[i] 0 bs M) ⟨s6, M, _, _, rfl, eL6, lM, rfl⟩ (fun j σ H7 _ h => .inl (.inl (h.1 _ _ hb))) ?_ ?_
      · rintro j x σ H7 H8 hj ⟨s7, N, v5, v6, rfl, eN, lN, inv2⟩ ⟨T8, x8, y8, rfl, nT8, rfl, ex8, ey8⟩
        rw [List.length_map] at hj
        have ey8 : (bs.map V.int)[j]? = some y8 := ey8
        rw [List.getElem?_map, List.getElem?_eq_getElem hj] at ey8
        obtain rfl : V.int bs[j] = y8 := Option.some.inj ey8
        obtain rfl : V.int (j : Nat) = x8 := Option.some.inj ex8
        rw [List.drop_eq_getElem_cons hj] at inv2
        have s8 := s7.trans (same_upd (o := .tup [V.int (j : Nat), V.int bs[j]]) nT8)
        have eN8 := (same_upd (o := .tup [V.int (j : Nat), V.int bs[j]]) nT8) _ _ eN
        refine ⟨T8, _, rfl, .inl (.inl upd_same), rfl, _, _, rfl, _, _, rfl, rfl, ?_⟩
        generalize upd H7 T8 (.tup [V.int (j : Nat), V.int bs[j]]) = H8 at s8 eN8 ⊢
        have lt : i + j < N.length := by omega
        refine ⟨_, rfl, _, rfl, _, rfl, _, _, rfl, rfl, L, _, ((i + j : Nat) : Int), _, rfl, rfl, .inl (.inl eN8), get_nat lt, _, rfl, _, rfl, _, _, rfl, rfl, ba.mul bb hi hj, _, _, rfl, rfl, _, rfl, _, rfl, _, rfl, _, _, rfl, rfl, L, _, ((i + j : Nat) : Int), i + j, rfl, rfl, eN8, ?_, ?_⟩
        · rw [List.length_map]
          exact ix_nat lt
        · rw [← List.map_set]
          exact ⟨same_at s8 nLH, _, _, _, rfl, upd_same, by rw [List.length_set]; exact lN, inv2⟩
      · rintro σ H7 ⟨s7, N, v5, v6, rfl, eN, lN, inv2⟩
        rw [List.length_map, List.drop_length] at inv2
        have e : N = mulRow i as[i] 0 bs M := inv2
        refine ⟨s7, N, _, _, _, _, rfl, eN, lN, ?_⟩
        rw [e]
        exact inv
    · rintro σ H5 ⟨s5, M, v3, v4, v5, v6, rfl, eL, lM, inv⟩
      rw [List.length_map, List.drop_length] at inv
      have e : M = mulL as bs := inv
      subst e
      refine ⟨_, rfl, ⟨L, _, rfl, .inl (.inl eL), by omega, fun l H6 s6 nl e6 => ?_⟩⟩
      exact q l H6 (s5.trans s6) (s5.free nl) e6
theorem ok_multiplied {f f1 : Addr} {fd fd1 : FuncData} {k : Nat} (F : Fun K "multiplied" "multiplied" s_multiplied f fd) (T : TxtQ mg) (F_trimmed : Fun K "trimmed" "trimmed" s_trimmed f1 fd1) (b_trimmed : Binds K fd1 ["factors"] []) (g_trimmed : mg "trimmed" = some (.ref f1)) (G_trimmed : FnOk P w K mg base CX0 1 f1 fd1 ["factors"] spTrim) : FnOk P w K mg base CX0 (k + 2) f fd ["one", "other"] spMulT := by
  refine F.ok sc_multiplied (fun vs H Q E h => ?_) (fun cdv A outer s H vs Q E hr h => ?_)
  · obtain ⟨a, b, as, bs, rfl, _⟩ := h
    rfl
  · obtain ⟨a, b, as, bs, rfl, ha, hb, ba, bb, q⟩ := h
    refine ⟨_, (pss_cons (ps_setLc (i := 2) (own := [("_", 7)]) (g := gName 7) rfl sc_multiplied.nd rfl rfl (sw_true rfl rfl rfl (by decide +kernel)) (pi_range1 (by rfl) T.n_range (pa_cons (pe_op op_add (pe_callB call_len_seq (by rfl) T.n_len (by decide +kernel) (pa_cons (pv 0) pa_nil)) (pe_callB call_len_seq (by rfl) T.n_len (by decide +kernel) (pa_cons (pv 1) pa_nil))) pa_nil)) (blkOk_by (own := [("_", 7)]) (N := ["one", "other", "factors", "j", "first", "k", "second", "_"]) (sc := defScope s_multiplied) (by decide +kernel)) (fun _ _ _ _ _ => (pg_name (i := 7) sc_multiplied.nd rfl (.inl rfl))) (fun _ _ _ _ _ => pts_nil) (fun _ _ _ _ _ => pe_int))
  (pss_cons (ps_for PassesOwn.never rfl (pi_enumT (by rfl) T.n_enumerate (pa_cons (pv 0) pa_nil)) (pg_tup rfl (pgs_cons (pg_name (i := 3) sc_multiplied.nd rfl (.inl rfl)) (pgs_cons (pg_name (i := 4) sc_multiplied.nd rfl (.inl rfl)) pgs_nil)))
   (pss_one (ps_for PassesOwn.never rfl (pi_enumT (by rfl) T.n_enumerate (pa_cons (pv 1) pa_nil)) (pg_tup rfl (pgs_cons (pg_name (i := 5) sc_multiplied.nd rfl (.inl rfl)) (pgs_cons (pg_name (i := 6) sc_multiplied.nd rfl (.inl rfl)) pgs_nil)))
   (pss_one (ps_asg (pe_op op_add (pe_ix ix_list (pv 2) (pe_op op_add (pv 3) (pv 5)) (fun _ _ => rfl)) (pe_op op_mulW (pv 4) (pv 6))) (pg_sub (pv 2) (pe_op op_add (pv 3) (pv 5)) set_list))))))
  (pss_one (ps_ret (pe_call G_trimmed (hr.mono (by omega)) (by rfl) g_trimmed F_trimmed.kp b_trimmed .nil pass0 (pa_cons (pv 2) pa_nil)))))), ?_⟩
    clear G_trimmed
    have la := ba.1
    have lb := bb.1
    refine ⟨_, rfl, a, _, rfl, .inr (.inl ha), _, rfl, b, _, rfl, .inr (.inl hb), _, _, rfl, rfl, ?_⟩
    rw [List.length_map, List.length_map]
    refine ⟨((as.length + bs.length : Nat) : Int), rfl, by omega, by omega, fun L nL => ?_⟩
    have nLH : H L = none := nL
    refine lc_range (n := Int.toNat ((as.length + bs.length : Nat) : Int)) (fun j H3 => Same H H3 ∧ H3 L = some (.lst ((List.replicate j (0 : Int)).map V.int))) ⟨same_upd nL, upd_same⟩ ?_ ?_
    · rintro j H3 hj ⟨s3, e3⟩
      refine ⟨rfl, ?_⟩
      unfold tYes
      dsimp only
      rw [if_pos rfl]
      refine ⟨_, e3, ?_, same_at s3 nL, ?_⟩
      · rw [List.length_map, List.length_replicate]
        exact small1000 (by omega)
      · rw [upd_same, List.replicate_succ', List.map_append]
        rfl
    rintro H2 ⟨s2, e2⟩
    rw [Int.toNat_natCast] at e2
    refine ⟨_, rfl, a, _, rfl, .inl (rd_same ha s2), ?_⟩
    refine for_it (walk_enumT (xs := as.map V.int)) (fun i σ H5 => Same H H5 ∧ ∃ (M : List Int) (v3 v4 v5 v6 : Option V), σ = [some (.ref a), some (.ref b), some (.ref L), v3, v4, v5, v6, none] ∧ H5 L = some (.lst (M.map V.int)) ∧ M.length = as.length + bs.length ∧ mulAll bs i (as.drop i) M = mulL as bs) ⟨s2, _, none, none, none, none, rfl, e2, List.length_replicate, rfl⟩ (fun i σ H5 _ h => .inl (rd_same ha h.1)) ?_ ?_
    · rintro i x σ H5 H6 hi ⟨s5, M, v3, v4, v5, v6, rfl, eL, lM, inv⟩ ⟨T5, x5, y5, rfl, nT, rfl, ex, ey⟩
      rw [List.length_map] at hi
      have ey : (as.map V.int)[i]? = some y5 := ey
      rw [List.getElem?_map, List.getElem?_eq_getElem hi] at ey
      obtain rfl : V.int as[i] = y5 := Option.some.inj ey
      obtain rfl : V.int (i : Nat) = x5 := Option.some.inj ex
      rw [List.drop_eq_getElem_cons hi] at inv
      have s6 := s5.trans (same_upd (o := .tup [V.int (i : Nat), V.int as[i]]) nT)
      have eL6 := (same_upd (o := .tup [V.int (i : Nat), V.int as[i]]) nT) _ _ eL
      refine ⟨T5, _, rfl, .inl (.inl upd_same), rfl, _, _, rfl, _, _, rfl, rfl, ?_⟩
      generalize upd H5 T5 (.tup [V.int (i : Nat), V.int as[i]]) = H6 at s6 eL6 ⊢
      refine ⟨_, rfl, b, _, rfl, .inl (rd_same hb s6), ?_⟩
      refine for_it (walk_enumT (xs := bs.map V.int)) (fun j σ H7 => Same H H7 ∧ ∃ (N : List Int) (v5 v6 : Option V), σ = [some (.ref a), some (.ref b), some (.ref L), some (.int (i : Nat)), some (.int as[i]), v5, v6, none] ∧ H7 L = some (.lst (N.map V.int)) ∧ N.length = as.length + bs.length ∧ mulRow i as[i] j (bs.drop j) N = mulRow i as[i] 0 bs M) ⟨s6, M, _, _, rfl, eL6, lM, rfl⟩ (fun j σ H7 _ h => .inl (rd_same hb h.1)) ?_ ?_
      · rintro j x σ H7 H8 hj ⟨s7, N, v5, v6, rfl, eN, lN, inv2⟩ ⟨T8, x8, y8, rfl, nT8, rfl, ex8, ey8⟩
        rw [List.length_map] at hj
        have ey8 : (bs.map V.int)[j]? = some y8 := ey8
        rw [List.getElem?_map, List.getElem?_eq_getElem hj] at ey8
        obtain rfl : V.int bs[j] = y8 := Option.some.inj ey8
        obtain rfl : V.int (j : Nat) = x8 := Option.some.inj ex8
        rw [List.drop_eq_getElem_cons hj] at inv2
        have s8 := s7.trans (same_upd (o := .tup [V.int (j : Nat), V.int bs[j]]) nT8)
        have eN8 := (same_upd (o := .tup [V.int (j : Nat), V.int bs[j]]) nT8) _ _ eN
        refine ⟨T8, _, rfl, .inl (.inl upd_same), rfl, _, _, rfl, _, _, rfl, rfl, ?_⟩
        generalize upd H7 T8 (.tup [V.int (j : Nat), V.int bs[j]]) = H8 at s8 eN8 ⊢
        have lt : i + j < N.length := by omega
        refine ⟨_, rfl, _, rfl, _, rfl, _, _, rfl, rfl, L, _, ((i + j : Nat) : Int), _, rfl, rfl, .inl (.inl eN8), get_nat lt, _, rfl, _, rfl, _, _, rfl, rfl, ba.mul bb hi hj, _, _, rfl, rfl, _, rfl, _, rfl, _, rfl, _, _, rfl, rfl, L, _, ((i + j : Nat) : Int), i + j, rfl, rfl, eN8, ?_, ?_⟩
        · rw [List.length_map]
          exact ix_nat lt
        · rw [← List.map_set]
          exact ⟨same_at s8 nLH, _, _, _, rfl, upd_same, by rw [List.length_set]; exact lN, inv2⟩
      · rintro σ H7 ⟨s7, N, v5, v6, rfl, eN, lN, inv2⟩
        rw [List.length_map, List.drop_length] at inv2
        have e : N = mulRow i as[i] 0 bs M := inv2
        refine ⟨s7, N, _, _, _, _, rfl, eN, lN, ?_⟩
        rw [e]
        exact inv
    · rintro σ H5 ⟨s5, M, v3, v4, v5, v6, rfl, eL, lM, inv⟩
      rw [List.length_map, List.drop_length] at inv
      have e : M = mulL as bs := inv
      subst e
      refine ⟨_, rfl, ⟨L, _, rfl, .inl eL, by omega, fun r H6 s6 er => ?_⟩⟩
      exact q r H6 (s5.trans s6) er
end
end My

namespace My
open PySem PySem.Spec PyProof.Rows L2
/-! ### degrees -/
theorem getD_cut (ns : List Int) : ∀ m, (∀ k, m ≤ k → ns.getD k 0 = 0) → ∀ k, (ns.take (lastN ns m)).getD k 0 = ns.getD k 0
  | 0, h, k => by
    show ([] : List Int).getD k 0 = _
    rw [h k (Nat.zero_le k)]
    rfl
  | m + 1, h, k => by
    by_cases z : ns[m]? = some 0
    · rw [last_go z]
      refine getD_cut ns m (fun j hj => ?_) k
      rcases Nat.eq_or_lt_of_le hj with e | e
      · subst e
        rw [List.getD_eq_getElem?_getD, z]
        rfl
      · exact h j e
    · rw [last_stay z, List.getD_eq_getElem?_getD, List.getElem?_take]
      by_cases hk : k < m + 1
      · rw [if_pos hk, List.getD_eq_getElem?_getD]
      · rw [if_neg hk, h k (by omega)]
        rfl
theorem getD_trim (ns : List Int) (k : Nat) : (trimN ns).getD k 0 = ns.getD k 0 := by
  unfold trimN
  refine getD_cut ns ns.length (fun j hj => ?_) k
  rw [List.getD_eq_getElem?_getD, List.getElem?_eq_none hj]
  rfl
theorem trim_end {ns : List Int} (h : trimN ns ≠ []) : (trimN ns).getD ((trimN ns).length - 1) 0 ≠ 0 := by
  intro z
  have hl := lastN_le ns ns.length
  have len : (trimN ns).length = lastN ns ns.length := by
    unfold trimN
    rw [List.length_take]
    omega
  have pos : 0 < (trimN ns).length := List.length_pos_iff.mpr h
  rw [getD_trim, len, List.getD_eq_getElem?_getD] at z
  have lt : lastN ns ns.length - 1 < ns.length := by omega
  rw [List.getElem?_eq_getElem lt] at z
  have e := lastN_last ns ns.length (by rw [List.getElem?_eq_getElem lt]; exact congrArg some z)
  omega
theorem trim_top {ns : List Int} {n : Nat} (h : ns.getD n 0 ≠ 0) (hi : ∀ k, n < k → ns.getD k 0 = 0) : (trimN ns).length = n + 1 := by
  have a : n < (trimN ns).length := by
    rcases Nat.lt_or_ge n (trimN ns).length with g | g
    · exact g
    · rw [← getD_trim, List.getD_eq_getElem?_getD, List.getElem?_eq_none g] at h
      exact absurd rfl h
  rcases Nat.lt_or_ge (n + 1) (trimN ns).length with g | g
  · have z := trim_end (ns := ns) (fun e => by rw [e] at a; simp at a)
    rw [getD_trim, hi _ (by omega)] at z
    exact absurd rfl z
  · omega
theorem trim_zero {ns : List Int} (h : ∀ k, ns.getD k 0 = 0) : trimN ns = [] := by
  cases e : trimN ns with
  | nil => rfl
  | cons a r =>
    have z := trim_end (ns := ns) (by rw [e]; simp)
    rw [getD_trim, h] at z
    exact absurd rfl z
/-- factors without zeros at the end, from 0 on -/
def Trim (as : List Int) : Prop := (∀ n ∈ as, 0 ≤ n) ∧ (as ≠ [] → as.getD (as.length - 1) 0 ≠ 0)
theorem trim_is {ns : List Int} (h : ∀ n ∈ ns, 0 ≤ n) : Trim (trimN ns) := ⟨fun n hn => h n (List.mem_of_mem_take hn), trim_end⟩
theorem snoc_of {as : List Int} (h : Trim as) (ne : as ≠ []) : ∃ r x, as = r ++ [x] ∧ 0 < x := by
  refine ⟨as.dropLast, as.getLast ne, (List.dropLast_concat_getLast ne).symm, ?_⟩
  have a := h.1 _ (List.getLast_mem ne)
  have b := h.2 ne
  have e : as.getD (as.length - 1) 0 = as.getLast ne := by
    rw [List.getD_eq_getElem?_getD, List.getLast_eq_getElem, List.getElem?_eq_getElem (by have := List.length_pos_iff.mpr ne; omega)]
    rfl
  rw [e] at b
  omega
/-- the degrees are added -/
theorem mul_deg {as bs : List Int} (ha : Trim as) (hb : Trim bs) (na : as ≠ []) (nb : bs ≠ []) : (trimN (mulL as bs)).length = as.length + bs.length - 1 := by
  obtain ⟨r, x, rfl, hx⟩ := snoc_of ha na
  obtain ⟨t, y, rfl, hy⟩ := snoc_of hb nb
  have e := trim_top (ns := mulL (r ++ [x]) (t ++ [y])) (n := r.length + t.length) (by rw [mul_top]; exact Int.ne_of_gt (Int.mul_pos hx hy)) (fun k hk => mul_hi (by rw [List.length_append, List.length_append]; simp; omega))
  rw [e, List.length_append, List.length_append]
  simp
  omega
theorem row_zero (j : Nat) (x : Int) : ∀ (bs : List Int) (k : Nat) (L : List Int), (∀ n ∈ bs, n = 0) → ∀ m, (mulRow j x k bs L).getD m 0 = L.getD m 0
  | [], _, _, _, _ => rfl
  | y :: r, k, L, h, m => by
    show (mulRow j x (k + 1) r (L.set (j + k) _)).getD m 0 = _
    rw [row_zero j x r (k + 1) _ (fun n hn => h n (List.mem_cons_of_mem _ hn)) m, getD_set, h y List.mem_cons_self]
    split
    · rename_i e
      rw [← e.1]
      omega
    · rfl
theorem all_zero {bs : List Int} (h : ∀ n ∈ bs, n = 0) : ∀ (as : List Int) (j : Nat) (L : List Int) (m : Nat), (mulAll bs j as L).getD m 0 = L.getD m 0
  | [], _, _, _ => rfl
  | x :: r, j, L, m => by
    show (mulAll bs (j + 1) r _).getD m 0 = _
    rw [all_zero h r (j + 1) _ m, row_zero j x bs 0 L h m]
/-- nothing times anything -/
theorem mul_none {as bs : List Int} (h : ∀ n ∈ bs, n = 0) : trimN (mulL as bs) = [] := trim_zero fun k => by
  unfold mulL
  rw [all_zero h as 0 _ k, getD_rep]
theorem mul_nil (bs : List Int) : trimN (mulL [] bs) = [] := trim_zero fun k => getD_rep _ k
end My

namespace My
open PySem PySem.Spec PyProof.Rows L2
abbrev s_law_sum : Stmt := topS 62
theorem sc_law_sum : FnScope ["one", "other", "size", "some", "spot", "factor"] ["one", "other"] (defScope s_law_sum) := ⟨rfl, rfl, rfl, by decide +kernel, rfl, by decide +kernel, by decide +kernel⟩
theorem trim_le {as bs : List Int} (e : ∀ k, as.getD k 0 = bs.getD k 0) : (trimN bs).length ≤ (trimN as).length := by
  rcases Nat.lt_or_ge (trimN as).length (trimN bs).length with g | g
  · have z := trim_end (ns := bs) (fun y => by rw [y] at g; simp at g)
    rw [getD_trim, ← e, ← getD_trim, List.getD_eq_getElem?_getD, List.getElem?_eq_none (by omega)] at z
    exact absurd rfl z
  · exact g
theorem trim_ext {as bs : List Int} (e : ∀ k, as.getD k 0 = bs.getD k 0) : trimN as = trimN bs := by
  have l1 := trim_le e
  have l2 := trim_le fun k => (e k).symm
  refine List.ext_getElem (by omega) fun k h1 h2 => ?_
  have ek := e k
  rw [← getD_trim as, ← getD_trim bs, List.getD_eq_getElem?_getD, List.getD_eq_getElem?_getD, List.getElem?_eq_getElem h1, List.getElem?_eq_getElem h2] at ek
  exact ek
theorem getD_addL (as bs : List Int) (k : Nat) : (addL as bs).getD k 0 = as.getD k 0 + bs.getD k 0 := by
  unfold addL
  rw [List.getD_eq_getElem?_getD, List.getElem?_map]
  by_cases h : k < max as.length bs.length
  · rw [List.getElem?_range h]
    rfl
  · rw [List.getElem?_eq_none (by rw [List.length_range]; omega), List.getD_eq_getElem?_getD, List.getD_eq_getElem?_getD, List.getElem?_eq_none (by omega), List.getElem?_eq_none (by omega)]
    rfl
theorem getD_takeS {as : List Int} {i : Nat} (h : i < as.length) (k : Nat) : (as.take (i + 1)).getD k 0 = (as.take i).getD k 0 + if k = i then as[i] else 0 := by
  rw [List.getD_eq_getElem?_getD, List.getD_eq_getElem?_getD, List.getElem?_take, List.getElem?_take]
  by_cases e : k = i
  · subst e
    rw [if_pos (Nat.lt_succ_self _), if_neg (Nat.lt_irrefl _), if_pos rfl, List.getElem?_eq_getElem h]
    show as[k] = 0 + as[k]
    omega
  · rw [if_neg e, Int.add_zero]
    by_cases g : k < i
    · rw [if_pos (by omega), if_pos g]
    · rw [if_neg (by omega), if_neg g]
structure spSumX (vs : List V) (H : Hp) (Q : VK) (E : XK) : Prop where
  ex : ∃ a b as bs, vs = [.ref a, .ref b] ∧ H a = some (.lst (as.map V.int)) ∧ H b = some (.lst (bs.map V.int)) ∧ as.length ≤ 300 ∧ bs.length ≤ 300 ∧ ∀ l H', Same H H' → H l = none → H' l = some (.lst ((trimN (addL as bs)).map V.int)) → Q (.ref l) H'
section
variable {P : Program} {w : World} {K : PySem.W.Frag} {mg : Str → Option Value} {base : Heap}
theorem ok_law_sum {f f1 : Addr} {fd fd1 : FuncData} {k : Nat} (F : Fun K "_law_sum" "_law_sum" s_law_sum f fd) (T : TxtQ mg) (F__law_trimmed : Fun K "_law_trimmed" "_law_trimmed" s_law_trimmed f1 fd1) (b__law_trimmed : Binds K fd1 ["factors"] []) (g__law_trimmed : mg "_law_trimmed" = some (.ref f1)) (G__law_trimmed : FnOk P w K mg base CX0 1 f1 fd1 ["factors"] (spLTrim K)) : FnOk P w K mg base CX0 (k + 2) f fd ["one", "other"] spSumX := by
  refine F.ok sc_law_sum (fun vs H Q E h => ?_) (fun cdv A outer s H vs Q E hr h => ?_)
  · obtain ⟨a, b, as, bs, rfl, _⟩ := h
    rfl
  · obtain ⟨a, b, as, bs, rfl, ha, hb, la, lb, q⟩ := h
    refine ⟨_, (pss_cons (ps_set (i := 2) sc_law_sum.nd rfl (.inl rfl) (pe_callB (call_max2 (by rfl)) (by rfl) T.n_max (by decide +kernel) (pa_cons (pe_callB call_len_seq (by rfl) T.n_len (by decide +kernel) (pa_cons (pv 0) pa_nil)) (pa_cons (pe_callB call_len_seq (by rfl) T.n_len (by decide +kernel) (pa_cons (pv 1) pa_nil)) pa_nil))))
  (pss_cons (ps_set (i := 3) sc_law_sum.nd rfl (.inl rfl) (pe_op op_rep (pe_lst (pa_cons pe_int pa_nil)) (pv 2)))
  (pss_cons (ps_for PassesOwn.never rfl (pi_enum (by rfl) T.n_enumerate (pa_cons (pv 0) pa_nil)) (pg_tup rfl (pgs_cons (pg_name (i := 4) sc_law_sum.nd rfl (.inl rfl)) (pgs_cons (pg_name (i := 5) sc_law_sum.nd rfl (.inl rfl)) pgs_nil)))
   (pss_one (ps_asg (pe_op op_add (pe_ix ix_list (pv 3) (pv 4) (fun _ _ => rfl)) (pv 5)) (pg_sub (pv 3) (pv 4) set_list))))
  (pss_cons (ps_for PassesOwn.never rfl (pi_enum (by rfl) T.n_enumerate (pa_cons (pv 1) pa_nil)) (pg_tup rfl (pgs_cons (pg_name (i := 4) sc_law_sum.nd rfl (.inl rfl)) (pgs_cons (pg_name (i := 5) sc_law_sum.nd rfl (.inl rfl)) pgs_nil)))
   (pss_one (ps_asg (pe_op op_add (pe_ix ix_list (pv 3) (pv 4) (fun _ _ => rfl)) (pv 5)) (pg_sub (pv 3) (pv 4) set_list))))
  (pss_one (ps_ret (pe_call G__law_trimmed (hr.mono (by omega)) (by rfl) g__law_trimmed F__law_trimmed.kp b__law_trimmed .nil pass0 (pa_cons (pv 3) pa_nil)))))))), ?_⟩
    clear G__law_trimmed
    refine ⟨_, rfl, a, _, rfl, .inl (.inl (.inl ha)), _, rfl, b, _, rfl, .inl (.inl (.inl hb)), _, _, rfl, ?_⟩
    rw [List.length_map, List.length_map]
    have em : (if (bs.length : Int) > (as.length : Int) then (bs.length : Int) else (as.length : Int)) = ((max as.length bs.length : Nat) : Int) := by
      split <;> omega
    rw [em]
    generalize hm : max as.length bs.length = m
    refine ⟨by show 1 ≤ sizeLine; decide, fun b1 nb1 => ?_⟩
    have s1 := same_upd (o := .lst [V.int 0]) nb1
    have e1 : (upd H b1 (.lst [V.int 0])) b1 = some (.lst [V.int 0]) := upd_same
    generalize upd H b1 (.lst [V.int 0]) = H1 at s1 e1 ⊢
    refine ⟨_, rfl, b1, (m : Nat), _, rfl, rfl, e1, by omega, by omega, by rw [Int.toNat_natCast]; exact Nat.le_of_lt (small1000 (show 1 * m ≤ 1000 by omega)), fun L nL => ?_⟩
    have nLH : H L = none := s1.free nL
    have e2 : (upd H1 L (.lst (List.replicate (Int.toNat (m : Nat)) [V.int 0]).flatten)) L = some (.lst ((List.replicate m (0 : Int)).map V.int)) := by
      rw [upd_same, Int.toNat_natCast]
      simp
    have s2 := s1.trans (same_upd (o := .lst (List.replicate (Int.toNat (m : Nat)) [V.int 0]).flatten) nL)
    generalize upd H1 L (.lst (List.replicate (Int.toNat (m : Nat)) [V.int 0]).flatten) = H2 at s2 e2 ⊢
    refine ⟨_, rfl, a, _, rfl, .inl (.inl (s2 _ _ ha)), ?_⟩
    refine for_it (walk_enum (xs := as.map V.int)) (fun i σ H5 => Same H H5 ∧ ∃ (M : List Int) (v4 v5 : Option V), σ = [some (.ref a), some (.ref b), some (.int (m : Nat)), some (.ref L), v4, v5] ∧ H5 L = some (.lst (M.map V.int)) ∧ M.length = m ∧ ∀ k, M.getD k 0 = (as.take i).getD k 0) ⟨s2, _, none, none, rfl, e2, List.length_replicate, fun k => by rw [getD_rep]; simp⟩ (fun i σ H5 _ h => .inl (.inl (h.1 _ _ ha))) ?_ ?_
    · rintro i x σ H5 H6 hi ⟨s5, M, v4, v5, rfl, eL, lM, inv⟩ ⟨T5, x5, y5, rfl, nT, rfl, ex, ey⟩
      rw [List.length_map] at hi
      have ey : (as.map V.int)[i]? = some y5 := ey
      rw [List.getElem?_map, List.getElem?_eq_getElem hi] at ey
      obtain rfl : V.int as[i] = y5 := Option.some.inj ey
      obtain rfl : V.int (i : Nat) = x5 := Option.some.inj ex
      have s6 := s5.trans (same_upd (o := .tup [V.int (i : Nat), V.int as[i]]) nT)
      have eL6 := (same_upd (o := .tup [V.int (i : Nat), V.int as[i]]) nT) _ _ eL
      refine ⟨T5, _, rfl, .inl (.inl upd_same), rfl, _, _, rfl, _, _, rfl, rfl, ?_⟩
      generalize upd H5 T5 (.tup [V.int (i : Nat), V.int as[i]]) = H6 at s6 eL6 ⊢
      have lt : i < M.length := by omega
      refine ⟨_, rfl, _, rfl, L, _, (i : Nat), _, rfl, rfl, .inl (.inl eL6), get_nat lt, _, rfl, _, _, rfl, rfl, _, rfl, _, rfl, L, _, (i : Nat), i, rfl, rfl, eL6, ?_, ?_⟩
      · rw [List.length_map]
        exact ix_nat lt
      · rw [← List.map_set]
        refine ⟨same_at s6 nLH, _, _, _, rfl, upd_same, by rw [List.length_set]; exact lM, fun k => ?_⟩
        rw [getD_set, getD_takeS hi, ← inv k]
        by_cases e : i = k
        · rw [if_pos ⟨e, lt⟩, if_pos e.symm, show M.getD i 0 = M.getD k 0 by rw [e]]
        · rw [if_neg (fun z => e z.1), if_neg (fun z => e z.symm)]
          omega
    rintro σ H3 ⟨s3, M3, v4, v5, rfl, eL3, lM3, inv3⟩
    rw [List.length_map, List.take_length] at inv3
    refine ⟨_, rfl, b, _, rfl, .inl (.inl (s3 _ _ hb)), ?_⟩
    refine for_it (walk_enum (xs := bs.map V.int)) (fun i σ H5 => Same H H5 ∧ ∃ (M : List Int) (v4 v5 : Option V), σ = [some (.ref a), some (.ref b), some (.int (m : Nat)), some (.ref L), v4, v5] ∧ H5 L = some (.lst (M.map V.int)) ∧ M.length = m ∧ ∀ k, M.getD k 0 = as.getD k 0 + (bs.take i).getD k 0) ⟨s3, _, _, _, rfl, eL3, lM3, fun k => by rw [inv3 k]; simp⟩ (fun i σ H5 _ h => .inl (.inl (h.1 _ _ hb))) ?_ ?_
    · rintro i x σ H5 H6 hi ⟨s5, M, v4, v5, rfl, eL, lM, inv⟩ ⟨T5, x5, y5, rfl, nT, rfl, ex, ey⟩
      rw [List.length_map] at hi
      have ey : (bs.map V.int)[i]? = some y5 := ey
      rw [List.getElem?_map, List.getElem?_eq_getElem hi] at ey
      obtain rfl : V.int bs[i] = y5 := Option.some.inj ey
      obtain rfl : V.int (i : Nat) = x5 := Option.some.inj ex
      have s6 := s5.trans (same_upd (o := .tup [V.int (i : Nat), V.int bs[i]]) nT)
      have eL6 := (same_upd (o := .tup [V.int (i : Nat), V.int bs[i]]) nT) _ _ eL
      refine ⟨T5, _, rfl, .inl (.inl upd_same), rfl, _, _, rfl, _, _, rfl, rfl, ?_⟩
      generalize upd H5 T5 (.tup [V.int (i : Nat), V.int bs[i]]) = H6 at s6 eL6 ⊢
      have lt : i < M.length := by omega
      refine ⟨_, rfl, _, rfl, L, _, (i : Nat), _, rfl, rfl, .inl (.inl eL6), get_nat lt, _, rfl, _, _, rfl, rfl, _, rfl, _, rfl, L, _, (i : Nat), i, rfl, rfl, eL6, ?_, ?_⟩
      · rw [List.length_map]
        exact ix_nat lt
      · rw [← List.map_set]
        refine ⟨same_at s6 nLH, _, _, _, rfl, upd_same, by rw [List.length_set]; exact lM, fun k => ?_⟩
        have iv := inv k
        rw [getD_set, getD_takeS hi]
        by_cases e : i = k
        · rw [if_pos ⟨e, lt⟩, if_pos e.symm, show M.getD i 0 = M.getD k 0 by rw [e], iv]
          omega
        · rw [if_neg (fun z => e z.1), if_neg (fun z => e z.symm), iv]
          omega
    rintro σ H5 ⟨s5, M, v4, v5, rfl, eL, lM, inv⟩
    rw [List.length_map, List.take_length] at inv
    refine ⟨_, rfl, ⟨L, _, rfl, .inl (.inl eL), by omega, fun l H6 s6 nl e6 => ?_⟩⟩
    rw [trim_ext (bs := addL as bs) fun k => by rw [inv k, getD_addL]] at e6
    exact q l H6 (s5.trans s6) (s5.free nl) e6
end
end My

namespace My.Kn
open PySem PySem.Spec PyProof.Rows L2
abbrev s_is_integer : Stmt := topS 13
theorem sc_is_integer : FnScope ["thing"] ["thing"] (defScope s_is_integer) := ⟨rfl, rfl, rfl, by decide +kernel, rfl, by decide +kernel, by decide +kernel⟩
abbrev s_is_name : Stmt := topS 14
theorem sc_is_name : FnScope ["thing", "sign"] ["thing"] (defScope s_is_name) := ⟨rfl, rfl, rfl, by decide +kernel, rfl, by decide +kernel, by decide +kernel⟩

/-! ### names -/
abbrev c_LETTERS : Str := "abcdefghijklmnopqrstuvwxyz"
abbrev c_DIGITS : Str := "0123456789"
abbrev isLet (c : Nat) : Bool := decide (c ∈ c_LETTERS.cps.toList)
abbrev isDig (c : Nat) : Bool := decide (c ∈ c_DIGITS.cps.toList)
abbrev isSign (c : Nat) : Bool := decide (c ∈ (c_LETTERS ++ c_DIGITS).cps.toList)
/-- what a name is -/
def isNm (z : Str) : Bool := match z.cps.toList with
  | [] => false
  | c :: r => decide (r.length < 8) && (isLet c && (c :: r).all isSign)
theorem sign_or (c : Nat) : isSign c = (isLet c || isDig c) := by
  have e : (c_LETTERS ++ c_DIGITS).cps.toList = c_LETTERS.cps.toList ++ c_DIGITS.cps.toList := by decide +kernel
  unfold isSign isLet isDig
  rw [e]
  simp only [List.mem_append, Bool.decide_or]
structure TxtN (mg : Str → Option Value) (tL tD : Tok) (tN : Tok) : Prop where
  n_isinstance : mg "isinstance" = none
  n_str : mg "str" = none
  n_int : mg "int" = none
  n_bool : mg "bool" = none
  n_len : mg "len" = none
  n_all : mg "all" = none
  g_LETTERS : mg "LETTERS" = some (.str c_LETTERS tL)
  g_DIGITS : mg "DIGITS" = some (.str c_DIGITS tD)
  g_LONGEST_NAME : mg "LONGEST_NAME" = some (.int 8 tN)
/-- a value of a built-in type T -/
def TyB (K : PySem.W.Frag) (H : Hp) (x : V) (T : String) : Prop := TyX K H x (.type T)
structure spIsName (K : PySem.W.Frag) (vs : List V) (H : Hp) (Q : VK) (E : XK) : Prop where
  ex : ∃ x, vs = [x] ∧ ((∃ z : Str, x = .str z ∧ z.length ≤ 1000 ∧ ∀ H', Same H H' → Q (.bl (isNm z)) H') ∨ (∃ T, TyX K H x (.type T) ∧ kitB T "str" = some false ∧ Q (.bl false) H))
structure spIsInt (K : PySem.W.Frag) (vs : List V) (H : Hp) (Q : VK) (E : XK) : Prop where
  ex : ∃ x T a b, vs = [x] ∧ TyX K H x (.type T) ∧ kitB T "int" = some a ∧ kitB T "bool" = some b ∧ Q (.bl (a && !b)) H

theorem dp_signs {K : PySem.W.Frag} {H : Hp} : ∀ cs : List Nat, DpAll K H (cs.map fun c => V.str (oneS c)) (cs.map fun c => PyData.str (oneS c))
  | [] => .nil
  | n :: r => .cons (.str _) (dp_signs r)
theorem lay_signs : ∀ cs : List Nat, (∀ c ∈ cs, c < 1114112) → PyData.canLayAll0 (cs.map fun c => PyData.str (oneS c)) = true
  | [], _ => by simp [PyData.canLayAll0]
  | n :: r, h => by
    have h1 : n < 1114112 := h n List.mem_cons_self
    have h2 := lay_signs r fun c hc => h c (List.mem_cons_of_mem _ hc)
    simp [PyData.canLayAll0, PyData.canLay0, PyData.strOk, h2, h1]
theorem dep_signs : ∀ cs : List Nat, PyData.depthAll (cs.map fun c => PyData.str (oneS c)) ≤ 1
  | [] => by simp [PyData.depthAll]
  | n :: r => by
    have h := dep_signs r
    simp only [List.map_cons, PyData.depthAll, PyData.depth]
    omega
theorem sh_signs {cs : List Nat} (h : ∀ c ∈ cs, c < 1114112) : SeqAt.shaped (.list (cs.map fun c => PyData.str (oneS c))) = true := by
  have h2 := dep_signs cs
  exact sh_of (by simp only [PyData.canLay0]; exact lay_signs cs h) (by simp only [PyData.depth]; omega)
def spIsNamed : Sp := fun vs H Q _ => ∃ z : Str, vs = [.str z] ∧ z.length ≤ 1000 ∧ (∀ c ∈ z.cps.toList, c < 1114112) ∧ ∀ H', Same H H' → Q (.bl (isNm z)) H'
section
variable {P : Program} {w : World} {K : PySem.W.Frag} {mg : Str → Option Value} {base : Heap}
theorem ok_is_integer {f : Addr} {fd : FuncData} {k : Nat} {tL tD tN : Tok} (F : Fun K "is_integer" "is_integer" s_is_integer f fd) (T : TxtN mg tL tD tN) : FnOk P w K mg base CX0 (k + 1) f fd ["thing"] (spIsInt K) := by
  refine F.ok sc_is_integer (fun vs H Q E h => ?_) (fun cdv A outer s H vs Q E hr h => ?_)
  · obtain ⟨x, Ty, a, b, rfl, _⟩ := h
    rfl
  · obtain ⟨x, Ty, a, b, rfl, ty, ha, hb, q⟩ := h
    refine ⟨_, (pss_one (ps_ret (pe_and (pe_callB call_isi (by rfl) T.n_isinstance (by decide +kernel) (pa_cons (pv 0) (pa_cons (pe_bltn (v := .ty "int") (by rfl) T.n_int (by decide +kernel) rfl) pa_nil))) (pe_one (pe_not (pe_callB call_isi (by rfl) T.n_isinstance (by decide +kernel) (pa_cons (pv 0) (pa_cons (pe_bltn (v := .ty "bool") (by rfl) T.n_bool (by decide +kernel) rfl) pa_nil)))))))), ?_⟩
    refine ⟨_, rfl, _, _, _, _, a, rfl, .ty "int", ty, kit_ty ha, a, rfl, ?_⟩
    cases a with
    | false => exact iteF q
    | true => exact iteT ⟨_, rfl, _, _, _, _, b, rfl, .ty "bool", ty, kit_ty hb, b, rfl, q⟩
theorem str_len (z : Str) : z.length = z.cps.toList.length := by simp [Str.length]
theorem all_take_all {α : Type} (p : α → Bool) (l : List α) : ((l.map p).all id) = l.all p := by
  rw [List.all_map]
  rfl
theorem ok_is_name {f : Addr} {fd : FuncData} {k : Nat} {tL tD tN : Tok} (F : Fun K "is_name" "is_name" s_is_name f fd) (T : TxtN mg tL tD tN) : FnOk P w K mg base CX0 (k + 1) f fd ["thing"] (spIsName K) := by
  refine F.ok sc_is_name (fun vs H Q E h => ?_) (fun cdv A outer s H vs Q E hr h => ?_)
  · obtain ⟨x, rfl, _⟩ := h
    rfl
  · obtain ⟨x, rfl, h⟩ := h
    refine ⟨_, (pss_cons (ps_if (PW.pt (pw_or (pt_not (pt_val (pe_callB call_isi (by rfl) T.n_isinstance (by decide +kernel) (pa_cons (pv 0) (pa_cons (pe_bltn (v := .ty "str") (by rfl) T.n_str (by decide +kernel) rfl) pa_nil))))) (pw_or1 (pt_not (pt_chain op_le op_le pe_int (pe_callB call_len_str (by rfl) T.n_len (by decide +kernel) (pa_cons (pv 0) pa_nil)) (pe_glob (v := .int 8) (by rfl) T.g_LONGEST_NAME ⟨_, rfl⟩))))))
   (pss_one (ps_ret pe_bl))
   pss_nil)
  (pss_one (ps_ret (pe_and (pe_cmpR op_in_sign (pe_ix ix_str (pv 0) pe_int (fun _ _ => rfl)) (pe_glob (v := .str c_LETTERS) (by rfl) T.g_LETTERS ⟨_, rfl⟩) rfl) (pe_one (pe_callB (cr_all (by rfl)) (by rfl) T.n_all (by decide +kernel) (pa_cons (pe_lc (own := [("sign", 1)]) (g := gName 1) rfl sc_is_name.nd (pi_str (pv 0)) (blkOk_by (own := [("sign", 1)]) (N := ["thing", "sign"]) (sc := defScope s_is_name) (by decide +kernel)) (fun _ _ _ _ _ => (pg_name (i := 1) sc_is_name.nd rfl (.inl rfl))) (fun _ _ _ _ _ => pts_nil) (fun _ _ _ _ _ => (pe_cmpR op_in_sign (pv 1) (pe_op op_add_str (pe_glob (v := .str c_LETTERS) (by rfl) T.g_LETTERS ⟨_, rfl⟩) (pe_glob (v := .str c_DIGITS) (by rfl) T.g_DIGITS ⟨_, rfl⟩)) rfl))) pa_nil))))))), ?_⟩
    rcases h with ⟨z, rfl, hz, q⟩ | ⟨Ty, ty, hk, q⟩
    · refine ⟨_, rfl, _, _, _, _, true, rfl, .ty "str", .base (.str z), kit_ty (by decide +kernel), true, rfl, ?_⟩
      refine iteF ?_
      have hzl : z.length ≤ sizeLine := Nat.le_of_lt (small1000 hz)
      refine ⟨_, rfl, _, rfl, hzl, _, _, rfl, rfl, _, rfl, ?_⟩
      cases hc : z.cps.toList with
      | nil =>
        have hl0 : z.length = 0 := by rw [str_len, hc]; rfl
        rw [hl0]
        refine iteF ?_
        refine ⟨_, rfl, ?_⟩
        refine iteT ?_
        have hn : isNm z = false := by unfold isNm; rw [hc]
        rw [hn] at q
        exact q H (Same.refl H)
      | cons c r =>
        have hl1 : z.length = r.length + 1 := by rw [str_len, hc]; rfl
        have h1 : decide ((1 : Int) ≤ ((z.length : Nat) : Int)) = true := decide_eq_true (by omega)
        rw [h1]
        refine iteT ?_
        refine ⟨_, _, rfl, rfl, _, rfl, ?_⟩
        by_cases h8 : r.length < 8
        · have h2 : decide (((z.length : Nat) : Int) ≤ 8) = true := decide_eq_true (by omega)
          rw [h2]
          refine iteF ?_
          have hat : atI z.cps.toList 0 = some c := by rw [hc]; exact atI_nat (j := 0) rfl
          refine ⟨_, rfl, z, 0, c, rfl, rfl, hzl, hat, c, c_LETTERS, rfl, rfl, isLet c, rfl, ?_⟩
          cases hL : isLet c with
          | false =>
            refine iteF ?_
            have hn : isNm z = false := by unfold isNm; rw [hc]; simp only [hL, Bool.false_and, Bool.and_false]
            rw [hn] at q
            exact q H (Same.refl H)
          | true =>
            refine iteT ?_
            refine ⟨_, rfl, z, rfl, fun D nD => ?_⟩
            refine lc_it walk_str (fun i H2 => Same H H2 ∧ H2 D = some (.lst (((z.cps.toList.take i).map isSign).map V.bl))) ⟨same_upd nD, upd_same⟩ (fun _ _ _ _ => True.intro) ?_ ?_
            · rintro i x H2 H3 hi ⟨s2, hD⟩ ⟨rfl, c2, hc2, rfl⟩
              refine ⟨rfl, ?_⟩
              unfold tYes
              dsimp only
              rw [if_pos rfl]
              refine ⟨_, rfl, _, _, rfl, rfl, by decide +kernel, c2, _, rfl, rfl, _, hD, ?_, ?_, ?_⟩
              · rw [List.length_map, List.length_map, List.length_take]
                exact small1000 (by rw [← str_len]; omega)
              · exact fun b o e => by
                  rw [upd_ne (ne_of_none e nD)]
                  exact s2 b o e
              · have e2 : z.cps.toList[i]? = some c2 := by rw [Array.getElem?_toList]; exact hc2
                rw [upd_same, List.take_add_one, e2, List.map_append, List.map_append]
                rfl
            · rintro H2 ⟨s2, hD⟩
              have et : z.cps.toList.take z.cps.size = z.cps.toList := List.take_of_length_le (by rw [Array.length_toList]; exact Nat.le_refl _)
              rw [et] at hD
              refine ⟨D, _, rfl, .inl (.inl hD), ?_⟩
              have hn : ((z.cps.toList.map isSign).all id) = isNm z := by
                rw [all_take_all]
                unfold isNm
                rw [hc]
                simp only [hL, decide_eq_true h8, Bool.true_and]
              rw [hn]
              exact q H2 s2
        · have h2 : decide (((z.length : Nat) : Int) ≤ 8) = false := decide_eq_false (by omega)
          rw [h2]
          refine iteT ?_
          have hn : isNm z = false := by unfold isNm; rw [hc]; simp only [decide_eq_false h8, Bool.false_and]
          rw [hn] at q
          exact q H (Same.refl H)
    · refine ⟨_, rfl, _, _, _, _, false, rfl, .ty "str", ty, kit_ty hk, false, rfl, ?_⟩
      refine iteT ?_
      refine iteT ?_
      exact q
theorem filter_no {l : List Nat} {i c : Nat} {p : Nat → Bool} (e : l[i]? = some c) (h : p c = false) : (l.take (i + 1)).filter p = (l.take i).filter p := by
  rw [List.take_add_one, e, List.filter_append]
  show _ ++ List.filter p [c] = _
  rw [List.filter_cons, if_neg (by rw [h]; decide)]
  exact List.append_nil _
theorem filter_yes {l : List Nat} {i c : Nat} {p : Nat → Bool} (e : l[i]? = some c) (h : p c = true) : (l.take (i + 1)).filter p = (l.take i).filter p ++ [c] := by
  rw [List.take_add_one, e, List.filter_append]
  show _ ++ List.filter p [c] = _
  rw [List.filter_cons, if_pos h]
  rfl
theorem none_bad : ∀ l : List Nat, decide (((l.filter fun c => !isLet c && !isDig c).map fun c => PyData.str (oneS c)) = []) = l.all isSign
  | [] => rfl
  | c :: r => by
    rw [List.filter_cons, List.all_cons, sign_or, ← none_bad r]
    cases isLet c <;> cases isDig c <;> simp
end
end My.Kn

namespace My.Kn
open PySem PySem.Spec PyProof.Rows L2
theorem _root_.L2.Rd.same {H H' : Hp} {a : Addr} {u : HO} (h : Rd H a u) (s : Same H H') : Rd H' a u := h.elim (fun e => .inl (s _ _ e)) fun ⟨o, e⟩ => .inr ⟨o, s _ _ e⟩
/-! ### things as data -/
mutual
/-- the value v is the thing d at the heap H; of a list or a dict only the sort is told -/
inductive Th (K : PySem.W.Frag) (H : Hp) : V → PyData → Prop
  | non : Th K H .non .none
  | bl (b : Bool) : Th K H (.bl b) (.bool b)
  | int (i : Int) : Th K H (.int i) (.int i)
  | str {z : Str} (h : z.length ≤ 1000) (hv : ∀ c ∈ z.cps.toList, c < 1114112) : Th K H (.str z) (.str z)
  | lst {a : Addr} {xs : List V} (e : H a = some (.lst xs)) : Th K H (.ref a) (.list [])
  | dct {a : Addr} {kvs : List (Key × V)} (e : H a = some (.dK kvs)) : Th K H (.ref a) (.dict [])
  | tup {a : Addr} {xs : List V} {ds : List PyData} (e : Rd H a (.tup xs)) (h : ThAll K H xs ds) : Th K H (.ref a) (.tuple ds)
inductive ThAll (K : PySem.W.Frag) (H : Hp) : List V → List PyData → Prop
  | nil : ThAll K H [] []
  | cons {v : V} {vs : List V} {d : PyData} {ds : List PyData} (h : Th K H v d) (t : ThAll K H vs ds) : ThAll K H (v :: vs) (d :: ds)
end
mutual
theorem Th.same {K : PySem.W.Frag} {H H' : Hp} (s : Same H H') : ∀ {d : PyData} {v : V}, Th K H v d → Th K H' v d
  | _, _, .non => .non
  | _, _, .bl b => .bl b
  | _, _, .int i => .int i
  | _, _, .str h hv => .str h hv
  | _, _, .lst e => .lst (s _ _ e)
  | _, _, .dct e => .dct (s _ _ e)
  | _, _, .tup e h => .tup (e.same s) (ThAll.same s h)
theorem ThAll.same {K : PySem.W.Frag} {H H' : Hp} (s : Same H H') : ∀ {ds : List PyData} {vs : List V}, ThAll K H vs ds → ThAll K H' vs ds
  | _, _, .nil => .nil
  | _, _, .cons h t => .cons (h.same s) (t.same s)
end
theorem ThAll.length {K : PySem.W.Frag} {H : Hp} : ∀ {ds : List PyData} {vs : List V}, ThAll K H vs ds → vs.length = ds.length
  | _, _, .nil => rfl
  | _, _, .cons _ t => by rw [List.length_cons, List.length_cons, t.length]
theorem ThAll.get {K : PySem.W.Frag} {H : Hp} : ∀ {ds : List PyData} {vs : List V} {i : Nat} {v : V}, ThAll K H vs ds → vs[i]? = some v → ∃ d, ds[i]? = some d ∧ Th K H v d
  | _, _, i, _, .nil, e => by cases i <;> cases e
  | _, _, 0, _, .cons h _, e => by
    cases e
    exact ⟨_, rfl, h⟩
  | _, _, i + 1, _, .cons _ t, e => t.get (i := i) e
/-- the built-in type of a thing -/
def tyD : PyData → String
  | .none => "NoneType"
  | .bool _ => "bool"
  | .int _ => "int"
  | .str _ => "str"
  | .list _ => "list"
  | .tuple _ => "tuple"
  | .dict _ => "dict"
theorem Th.ty {K : PySem.W.Frag} {H : Hp} {d : PyData} {v : V} (h : Th K H v d) : TyX K H v (.type (tyD d)) := by
  cases h with
  | non => exact .base .non
  | bl b => exact .base (.bl b)
  | int i => exact .base (.int i)
  | str h hv => exact .base (.str _)
  | lst e => exact .base (.lst e)
  | dct e => exact .base (.dK e)
  | tup e h =>
    rcases e with e | ⟨o, e⟩
    · exact .base (.tup e)
    · exact .fTuple e
def isT : PyData → Bool | .tuple _ => true | _ => false
def isS : PyData → Bool | .str _ => true | _ => false
def isI : PyData → Bool | .int _ => true | .bool _ => true | _ => false
def isB : PyData → Bool | .bool _ => true | _ => false
theorem ty_tup (d : PyData) : kitB (tyD d) "tuple" = some (isT d) := by cases d <;> (simp only [tyD, isT, isS, isI, isB]; decide +kernel)
theorem ty_str (d : PyData) : kitB (tyD d) "str" = some (isS d) := by cases d <;> (simp only [tyD, isT, isS, isI, isB]; decide +kernel)
theorem ty_int (d : PyData) : kitB (tyD d) "int" = some (isI d) := by cases d <;> (simp only [tyD, isT, isS, isI, isB]; decide +kernel)
theorem ty_bool (d : PyData) : kitB (tyD d) "bool" = some (isB d) := by cases d <;> (simp only [tyD, isT, isS, isI, isB]; decide +kernel)
/-- a variant, as a tag and a number -/
def asPair : PyData → Option (Str × Int)
  | .tuple [.str z, .int i] => if isNm z && (decide (0 ≤ i) && decide (i ≤ 4)) then some (z, i) else none
  | _ => none
def variantB (d : PyData) : Bool := (asPair d).isSome
def allPairs : List PyData → Option (List (Str × Int))
  | [] => some []
  | d :: r => match asPair d, allPairs r with
    | some p, some ps => some (p :: ps)
    | _, _ => none
theorem allPairs_cons (d : PyData) (r : List PyData) : allPairs (d :: r) = match asPair d, allPairs r with | some p, some ps => some (p :: ps) | _, _ => none := rfl
/-- what the law and the program ask of the variants together -/
def okK (ks : List (Str × Int)) : Bool := decide ((ks.map (·.1)).Nodup) && (decide ((0 : Int) ∈ ks.map (·.2)) && (ks.map (·.2)).any fun i => decide (2 ≤ i))
def asKind : PyData → Option (List (Str × Int))
  | .tuple ds => if 2 ≤ ds.length ∧ ds.length ≤ 8 then (match allPairs ds with | some ks => if okK ks then some ks else none | none => none) else none
  | _ => none
def kindB (d : PyData) : Bool := (asKind d).isSome
theorem all_pairs : ∀ ds : List PyData, (allPairs ds).isSome = ds.all variantB
  | [] => rfl
  | d :: r => by
    rw [List.all_cons, ← all_pairs r]
    rw [allPairs_cons]
    unfold variantB
    cases asPair d <;> cases allPairs r <;> rfl
theorem pairs_len : ∀ {ds : List PyData} {ks : List (Str × Int)}, allPairs ds = some ks → ks.length = ds.length
  | [], ks, h => by cases h; rfl
  | d :: r, ks, h => by
    rw [allPairs_cons] at h
    cases h1 : asPair d with
    | none => rw [h1] at h; cases h
    | some p =>
      cases h2 : allPairs r with
      | none => rw [h1, h2] at h; cases h
      | some ps =>
        rw [h1, h2] at h
        cases h
        rw [List.length_cons, List.length_cons, pairs_len h2]
/-- rs: the pairs ks, each a tuple of a tag and a number -/
inductive Prs (H : Hp) : List Addr → List (Str × Int) → Prop
  | nil : Prs H [] []
  | cons {r : Addr} {rs : List Addr} {p : Str × Int} {ks : List (Str × Int)} (e : Rd H r (.tup [.str p.1, .int p.2])) (t : Prs H rs ks) : Prs H (r :: rs) (p :: ks)
theorem Prs.length {H : Hp} {rs : List Addr} {ks : List (Str × Int)} (h : Prs H rs ks) : rs.length = ks.length := by
  induction h with
  | nil => rfl
  | cons _ _ ih => rw [List.length_cons, List.length_cons, ih]
theorem Prs.get {H : Hp} {rs : List Addr} {ks : List (Str × Int)} (h : Prs H rs ks) : ∀ {i : Nat} {r : Addr}, rs[i]? = some r → ∃ p, ks[i]? = some p ∧ Rd H r (.tup [.str p.1, .int p.2]) := by
  induction h with
  | nil =>
    intro i r e
    cases i <;> cases e
  | cons e _ ih =>
    intro i r h
    cases i with
    | zero =>
      cases h
      exact ⟨_, rfl, e⟩
    | succ i => exact ih h
theorem Prs.same {H H' : Hp} {rs : List Addr} {ks : List (Str × Int)} (h : Prs H rs ks) (s : Same H H') : Prs H' rs ks := by
  induction h with
  | nil => exact .nil
  | cons e _ ih => exact .cons (e.same s) ih
/-- a: a tuple of pairs -/
def KindAt (H : Hp) (a : Addr) (ks : List (Str × Int)) : Prop := ∃ rs, Rd H a (.tup (rs.map V.ref)) ∧ Prs H rs ks
theorem KindAt.same {H H' : Hp} {a : Addr} {ks : List (Str × Int)} (h : KindAt H a ks) (s : Same H H') : KindAt H' a ks := by
  obtain ⟨rs, e, p⟩ := h
  exact ⟨rs, e.same s, p.same s⟩
theorem pair_of {K : PySem.W.Frag} {H : Hp} {v : V} {d : PyData} {p : Str × Int} (h : Th K H v d) (e : asPair d = some p) : ∃ r, v = .ref r ∧ Rd H r (.tup [.str p.1, .int p.2]) ∧ isNm p.1 = true ∧ 0 ≤ p.2 ∧ p.2 ≤ 4 := by
  unfold asPair at e
  split at e
  · rename_i z i
    split at e
    · rename_i hc
      cases e
      rw [Bool.and_eq_true, Bool.and_eq_true, decide_eq_true_eq, decide_eq_true_eq] at hc
      cases h with
      | tup ea t =>
        cases t with
        | cons h1 t =>
          cases t with
          | cons h2 t =>
            cases t
            cases h1
            cases h2
            exact ⟨_, rfl, ea, hc.1, hc.2.1, hc.2.2⟩
    · cases e
  · cases e
theorem prs_of {K : PySem.W.Frag} {H : Hp} : ∀ {ds : List PyData} {vs : List V} {ks : List (Str × Int)}, ThAll K H vs ds → allPairs ds = some ks → ∃ rs : List Addr, vs = rs.map V.ref ∧ Prs H rs ks ∧ ∀ p ∈ ks, isNm p.1 = true ∧ 0 ≤ p.2 ∧ p.2 ≤ 4
  | [], _, ks, .nil, h => by
    cases h
    exact ⟨[], rfl, .nil, fun _ z => nomatch z⟩
  | d :: r, _, ks, .cons h1 t, h => by
    rw [allPairs_cons] at h
    cases e1 : asPair d with
    | none => rw [e1] at h; cases h
    | some p =>
      cases e2 : allPairs r with
      | none => rw [e1, e2] at h; cases h
      | some ps =>
        rw [e1, e2] at h
        cases h
        obtain ⟨a, rfl, ha, hp⟩ := pair_of h1 e1
        obtain ⟨rs, rfl, hrs, all⟩ := prs_of t e2
        refine ⟨a :: rs, rfl, .cons ha hrs, fun q hq => ?_⟩
        rcases List.mem_cons.mp hq with rfl | hq
        · exact hp
        · exact all q hq
end My.Kn

namespace My.Kn
open PySem PySem.Spec PyProof.Rows L2
structure spThing (f : PyData → Bool) (K : PySem.W.Frag) (vs : List V) (H : Hp) (Q : VK) (E : XK) : Prop where
  ex : ∃ x d, vs = [x] ∧ Th K H x d ∧ ∀ H', Same H H' → Q (.bl (f d)) H'
def namedB : PyData → Bool
  | .str z => isNm z
  | _ => false
def numIn : PyData → Bool
  | .int i => decide (0 ≤ i) && decide (i ≤ 4)
  | _ => false
theorem variant_two (dt dp : PyData) : variantB (.tuple [dt, dp]) = (namedB dt && numIn dp) := by
  unfold variantB
  cases dt <;> cases dp <;> simp only [asPair, namedB, numIn, Option.isSome_none, Bool.false_and, Bool.and_false]
  split
  · rename_i h
    rw [h]
    rfl
  · rename_i h
    rw [Bool.not_eq_true] at h
    rw [h]
    rfl
theorem same_rfl (H : Hp) : Same H H := fun _ _ e => e
theorem isname_th {K : PySem.W.Frag} {H : Hp} {x : V} {d : PyData} {Q : VK} {E : XK} (h : Th K H x d) (q : ∀ H', Same H H' → Q (.bl (namedB d)) H') : spIsName K [x] H Q E := by
  by_cases hs : isS d = true
  · cases h with
    | str hz hv => exact ⟨_, rfl, .inl ⟨_, rfl, hz, q⟩⟩
    | _ => cases hs
  · have hs : isS d = false := Bool.not_eq_true _ ▸ hs
    have n : namedB d = false := by cases d <;> first | rfl | cases hs
    have q0 := q H (same_rfl H)
    rw [n] at q0
    exact ⟨x, rfl, .inr ⟨tyD d, h.ty, by rw [ty_str, hs], q0⟩⟩
theorem isint_th {K : PySem.W.Frag} {H : Hp} {x : V} {d : PyData} {Q : VK} {E : XK} (h : Th K H x d) (q : Q (.bl (isI d && !isB d)) H) : spIsInt K [x] H Q E := ⟨x, tyD d, isI d, isB d, rfl, h.ty, ty_int d, ty_bool d, q⟩
theorem ne_len (n m : Nat) : V.bl (!decide (V.int (n : Nat) = V.int (m : Nat))) = V.bl (!decide (n = m)) := by
  congr 2
  refine decide_eq_decide.mpr ⟨fun h => ?_, fun h => by rw [h]⟩
  have z : ((n : Nat) : Int) = (m : Nat) := by cases h; rfl
  omega
theorem ThAll.two {K : PySem.W.Frag} {H : Hp} {xs : List V} {ds : List PyData} (t : ThAll K H xs ds) (h : xs.length = 2) : ∃ v1 v2 d1 d2, xs = [v1, v2] ∧ ds = [d1, d2] ∧ Th K H v1 d1 ∧ Th K H v2 d2 := by
  cases t with
  | nil => cases h
  | cons h1 t =>
    cases t with
    | nil => cases h
    | cons h2 t =>
      cases t with
      | nil => exact ⟨_, _, _, _, rfl, rfl, h1, h2⟩
      | cons h3 t => cases h
theorem var_len {ds : List PyData} (h : ds.length ≠ 2) : variantB (.tuple ds) = false := by
  unfold variantB
  match ds, h with
  | [], _ => rfl
  | [a], _ => cases a <;> rfl
  | [_, _], h => exact absurd rfl h
  | a :: b :: _ :: _, _ => cases a <;> first | rfl | (cases b <;> rfl)
theorem Prs.item {H : Hp} {rs : List Addr} {ks : List (Str × Int)} (h : Prs H rs ks) {i : Nat} {x : V} (e : (rs.map V.ref)[i]? = some x) : ∃ r p, x = .ref r ∧ ks[i]? = some p ∧ Rd H r (.tup [.str p.1, .int p.2]) := by
  rw [List.getElem?_map] at e
  cases h1 : rs[i]? with
  | none =>
    rw [h1] at e
    cases e
  | some r =>
    rw [h1] at e
    cases e
    obtain ⟨p, h2, h3⟩ := h.get h1
    exact ⟨r, p, rfl, h2, h3⟩
theorem take_next {α β : Type} {f : α → β} {l : List α} {i : Nat} {a : α} (h : l[i]? = some a) : (l.take i).map f ++ [f a] = (l.take (i + 1)).map f := by
  rw [List.take_succ, h, List.map_append]
  rfl
/-- what was tracked ahead of a list that grows at D is as it was -/
theorem same_at {H H2 : Hp} {D : Addr} {o : HO} (s : Same H H2) (n : H D = none) : Same H (upd H2 D o) := fun b u e => by
  rw [upd_ne (ne_of_none e n)]
  exact s b u e
structure TxtK (mg : Str → Option Value) (tF tM tP : Tok) : Prop where
  n_isinstance : mg "isinstance" = none
  n_tuple : mg "tuple" = none
  n_len : mg "len" = none
  n_set : mg "set" = none
  n_all : mg "all" = none
  n_any : mg "any" = none
  n_str : mg "str" = none
  n_int : mg "int" = none
  n_bool : mg "bool" = none
  g_FEWEST_VARIANTS : mg "FEWEST_VARIANTS" = some (.int 2 tF)
  g_MOST_VARIANTS : mg "MOST_VARIANTS" = some (.int 8 tM)
  g_MOST_PARTS : mg "MOST_PARTS" = some (.int 4 tP)
abbrev s_is_variant : Stmt := topS 19
theorem sc_is_variant : FnScope ["thing", "tag", "parts"] ["thing"] (defScope s_is_variant) := ⟨rfl, rfl, rfl, by decide +kernel, rfl, by decide +kernel, by decide +kernel⟩

abbrev s_tags_of : Stmt := topS 22
theorem sc_tags_of : FnScope ["kind", "tag", "_"] ["kind"] (defScope s_tags_of) := ⟨rfl, rfl, rfl, by decide +kernel, rfl, by decide +kernel, by decide +kernel⟩
section
variable {P : Program} {w : World} {K : PySem.W.Frag} {mg : Str → Option Value} {base : Heap} {tF tM tP : Tok}
theorem ok_is_variant {f f1 f2 : Addr} {fd fd1 fd2 : FuncData} {k : Nat} (F : Fun K "is_variant" "is_variant" s_is_variant f fd) (T : TxtK mg tF tM tP) (F_is_name : Fun K "is_name" "is_name" s_is_name f1 fd1) (b_is_name : Binds K fd1 ["thing"] []) (g_is_name : mg "is_name" = some (.ref f1)) (G_is_name : FnOk P w K mg base CX0 1 f1 fd1 ["thing"] (spIsName K))
    (F_is_integer : Fun K "is_integer" "is_integer" s_is_integer f2 fd2) (b_is_integer : Binds K fd2 ["thing"] []) (g_is_integer : mg "is_integer" = some (.ref f2)) (G_is_integer : FnOk P w K mg base CX0 1 f2 fd2 ["thing"] (spIsInt K)) : FnOk P w K mg base CX0 (k + 2) f fd ["thing"] (spThing variantB K) := by
  refine F.ok sc_is_variant (fun vs H Q E h => ?_) (fun cdv A outer s H vs Q E hr h => ?_)
  · obtain ⟨x, d, rfl, _⟩ := h
    rfl
  · obtain ⟨x, d, rfl, th, q⟩ := h
    refine ⟨_, (pss_cons (ps_if (PW.pt (pw_or (pt_not (pt_val (pe_callB call_isi (by rfl) T.n_isinstance (by decide +kernel) (pa_cons (pv 0) (pa_cons (pe_bltn (v := .ty "tuple") (by rfl) T.n_tuple (by decide +kernel) rfl) pa_nil))))) (pw_or1 (pt_cmpR op_ne (pe_callB call_len_seq (by rfl) T.n_len (by decide +kernel) (pa_cons (pv 0) pa_nil)) pe_int (nomark _)))))
   (pss_one (ps_ret pe_bl))
   pss_nil)
  (pss_cons (ps_asg (pv 0) (pg_tup rfl (pgs_cons (pg_name (i := 1) sc_is_variant.nd rfl (.inl rfl)) (pgs_cons (pg_name (i := 2) sc_is_variant.nd rfl (.inl rfl)) pgs_nil))))
  (pss_one (ps_ret (pe_and (pe_call G_is_name (hr.mono (by omega)) (by rfl) g_is_name F_is_name.kp b_is_name .nil pass0 (pa_cons (pv 1) pa_nil)) (pe_and (pe_call G_is_integer (hr.mono (by omega)) (by rfl) g_is_integer F_is_integer.kp b_is_integer .nil pass0 (pa_cons (pv 2) pa_nil)) (pe_one (pe_chain op_le op_le pe_int (pv 2) (pe_glob (v := .int 4) (by rfl) T.g_MOST_PARTS ⟨_, rfl⟩))))))))), ?_⟩
    refine ⟨_, rfl, _, _, _, _, isT d, rfl, .ty "tuple", th.ty, kit_ty (ty_tup d), isT d, rfl, ?_⟩
    by_cases hT : isT d = true
    · rw [hT]
      refine iteF ?_
      cases th with
      | @tup a xs ds e t =>
        refine ⟨_, rfl, a, xs, rfl, .inr (.inl e), rfl, !decide (xs.length = 2), ?_, ?_⟩
        · exact ne_len xs.length 2
        · by_cases h2 : xs.length = 2
          · rw [decide_eq_true h2]
            refine iteF ?_
            obtain ⟨v1, v2, d1, d2, rfl, rfl, t1, t2⟩ := t.two h2
            refine ⟨_, rfl, a, _, rfl, .inl e, rfl, _, _, rfl, _, _, rfl, rfl, ?_⟩
            refine ⟨_, rfl, isname_th t1 fun H1 s1 => ?_⟩
            rw [variant_two] at q
            refine ⟨namedB d1, rfl, ?_⟩
            cases hn : namedB d1 with
            | false =>
              rw [hn] at q
              exact iteF (q H1 s1)
            | true =>
              rw [hn, Bool.true_and] at q
              refine iteT ?_
              refine ⟨_, rfl, isint_th (t2.same s1) ?_⟩
              refine ⟨_, rfl, ?_⟩
              cases t2 with
              | int i =>
                refine iteT ?_
                refine ⟨_, rfl, _, _, rfl, rfl, _, rfl, ?_⟩
                have q1 : Q (.bl (decide (0 ≤ i) && decide (i ≤ 4))) H1 := q H1 s1
                cases h0 : decide (0 ≤ i) with
                | false =>
                  rw [h0] at q1
                  exact iteF q1
                | true =>
                  rw [h0, Bool.true_and] at q1
                  exact iteT ⟨_, _, rfl, rfl, q1⟩
              | _ => exact iteF (q H1 s1)
          · rw [decide_eq_false h2]
            refine iteT ?_
            have n : variantB (.tuple ds) = false := by
              have hl : ds.length ≠ 2 := fun z => h2 (t.length.trans z)
              exact var_len hl
            rw [n] at q
            exact q H (same_rfl H)
      | _ => cases hT
    · have hF : isT d = false := Bool.not_eq_true _ ▸ hT
      rw [hF]
      refine iteT ?_
      refine iteT ?_
      have n : variantB d = false := by cases d <;> first | rfl | cases hF
      rw [n] at q
      exact q H (same_rfl H)
/-- tags_of a kind -/
structure spTags (vs : List V) (H : Hp) (Q : VK) (E : XK) : Prop where
  ex : ∃ (a : Addr) (ks : List (Str × Int)), vs = [.ref a] ∧ KindAt H a ks ∧ ks.length ≤ 30 ∧ ∀ l H', Same H H' → H l = none → H' l = some (.lst (ks.map fun p => V.str p.1)) → Q (.ref l) H'
theorem ok_tags_of {f : Addr} {fd : FuncData} {k : Nat} (F : Fun K "tags_of" "tags_of" s_tags_of f fd) : FnOk P w K mg base CX0 (k + 1) f fd ["kind"] spTags := by
  refine F.ok sc_tags_of (fun vs H Q E h => ?_) (fun cdv A outer s H vs Q E hr h => ?_)
  · obtain ⟨a, ks, rfl, _⟩ := h
    rfl
  · obtain ⟨a, ks, rfl, ⟨rs, ea, pr⟩, few, q⟩ := h
    refine ⟨_, (pss_one (ps_ret (pe_lc (own := [("tag", 1), ("_", 2)]) (g := gTup K 2 (gCons (gName 1) (gCons (gName 2) gNil))) rfl sc_tags_of.nd (pi_tup (pv 0)) (blkOk_by (own := [("tag", 1), ("_", 2)]) (N := ["kind", "tag", "_"]) (sc := defScope s_tags_of) (by decide +kernel)) (fun _ _ _ _ _ => (pg_tup rfl (pgs_cons (pg_name (i := 1) sc_tags_of.nd rfl (.inl rfl)) (pgs_cons (pg_name (i := 2) sc_tags_of.nd rfl (.inl rfl)) pgs_nil)))) (fun _ _ _ _ _ => pts_nil) (fun _ _ _ _ _ => (pv 1))))), ?_⟩
    have lr := pr.length
    refine ⟨_, rfl, a, rfl, ⟨_, .inl ea⟩, fun D nD => ?_⟩
    refine lc_it (walk_tup (xs := rs.map V.ref)) (fun i H2 => Same H H2 ∧ H2 D = some (.lst ((ks.take i).map fun p => V.str p.1))) ⟨same_upd nD, upd_same⟩ (fun i H2 _ h => .inl (ea.same h.1)) ?_ ?_
    · rintro i x H2 H3 hi ⟨s2, hD⟩ ⟨rfl, ex⟩
      obtain ⟨r, pp, rfl, hk, hr2⟩ := pr.item ex
      refine ⟨r, _, rfl, .inl (hr2.same s2), rfl, _, _, rfl, _, _, rfl, rfl, rfl, ?_⟩
      unfold tYes
      dsimp only
      rw [if_pos rfl]
      refine ⟨_, rfl, _, hD, ?_, ?_, ?_⟩
      · rw [List.length_map, List.length_take]
        exact small1000 (by omega)
      · exact same_at s2 nD
      · rw [upd_same, take_next hk]
    · rintro H2 ⟨s2, hD⟩
      rw [List.length_map, lr, List.take_length] at hD
      exact q D H2 s2 nD hD
end
end My.Kn

namespace My.Kn
open PySem PySem.Spec PyProof.Rows L2
theorem thing_of {f : PyData → Bool} {K : PySem.W.Frag} {H : Hp} {x : V} {d : PyData} {Q : VK} {E : XK} (h : Th K H x d) (q : ∀ H', Same H H' → Q (.bl (f d)) H') : spThing f K [x] H Q E := ⟨x, d, rfl, h, q⟩
theorem no_tup {d : PyData} (h : isT d = false) : variantB d = false ∧ kindB d = false := by
  cases d <;> first | exact ⟨rfl, rfl⟩ | cases h
theorem eq_len (n m : Nat) : V.bl (decide (V.int (n : Nat) = V.int (m : Nat))) = V.bl (decide (n = m)) := by
  congr 1
  refine decide_eq_decide.mpr ⟨fun h => ?_, fun h => by rw [h]⟩
  have z : ((n : Nat) : Int) = (m : Nat) := by cases h; rfl
  omega
theorem all_next {α : Type} (f : α → Bool) {l : List α} {i : Nat} {a : α} (h : l[i]? = some a) : (l.take (i + 1)).all f = ((l.take i).all f && f a) := by
  rw [List.take_succ, h, List.all_append]
  simp
theorem any_next {α : Type} (f : α → Bool) {l : List α} {i : Nat} {a : α} (h : l[i]? = some a) : (l.take (i + 1)).any f = ((l.take i).any f || f a) := by
  rw [List.take_succ, h, List.any_append]
  simp
end My.Kn

namespace My.Kn
open PySem PySem.Spec PyProof.Rows L2
theorem kind_few {ds : List PyData} (h : ¬ (2 ≤ ds.length ∧ ds.length ≤ 8)) : kindB (.tuple ds) = false := by
  unfold kindB asKind
  dsimp only
  rw [if_neg h]
  rfl
theorem kind_some {ds : List PyData} {ks : List (Str × Int)} (h : 2 ≤ ds.length ∧ ds.length ≤ 8) (e : allPairs ds = some ks) : kindB (.tuple ds) = okK ks := by
  unfold kindB asKind
  dsimp only
  rw [if_pos h, e]
  dsimp only
  cases okK ks <;> rfl
theorem kind_none {ds : List PyData} (h : ds.all variantB = false) : kindB (.tuple ds) = false := by
  rw [← all_pairs] at h
  unfold kindB asKind
  dsimp only
  cases e : allPairs ds with
  | none =>
    split <;> rfl
  | some ks =>
    rw [e] at h
    cases h
theorem in_nums (ns : List Int) (k : Int) : inV (.int k) (ns.map V.int) = decide (k ∈ ns) := by
  induction ns with
  | nil => simp [inV]
  | cons n r ih =>
    unfold inV at ih ⊢
    rw [List.map_cons, List.any_cons, ih]
    have e : eqV (.int n) (.int k) = decide (k = n) := by
      simp only [eqV]
      exact decide_eq_decide.mpr ⟨Eq.symm, Eq.symm⟩
    rw [e]
    by_cases h : k = n <;> simp [h]
theorem in_nums2 (ns : List Int) (k : Int) : V.bl (if false = true then !inV (.int k) (ns.map V.int) else inV (.int k) (ns.map V.int)) = V.bl (decide (k ∈ ns)) := by
  rw [if_neg Bool.false_ne_true, in_nums]
theorem flat_ints (ns : List Int) : (ns.map V.int).all flatV = true := by
  rw [List.all_eq_true]
  intro v hv
  obtain ⟨n, _, rfl⟩ := List.mem_map.mp hv
  rfl
theorem all_false {l : List PyData} (h : (l.all variantB) = false) : ¬ (l.all variantB = true) := by
  rw [h]
  decide
theorem le_len (n m : Nat) : V.bl (decide (((n : Nat) : Int) ≤ (m : Nat))) = V.bl (decide (n ≤ m)) := by
  congr 1
  exact decide_eq_decide.mpr Int.ofNat_le
theorem lt_len (n m : Nat) : V.bl (decide (((n : Nat) : Int) < (m : Nat))) = V.bl (decide (n < m)) := by
  congr 1
  exact decide_eq_decide.mpr Int.ofNat_lt
theorem int_item {ns : List Int} {i : Nat} {x : V} (e : (ns.map V.int)[i]? = some x) : ∃ n, x = .int n ∧ ns[i]? = some n := by
  rw [List.getElem?_map] at e
  cases h : ns[i]? with
  | none =>
    rw [h] at e
    cases e
  | some n =>
    rw [h] at e
    cases e
    exact ⟨n, rfl, rfl⟩
/-- the numbers from 2 up to 8, as the two tests see them -/
theorem two_eight (n : Nat) : (2 ≤ n ∧ n ≤ 8) ∨ (n < 2) ∨ (2 ≤ n ∧ 8 < n) := by omega
abbrev s_is_kind : Stmt := topS 20
theorem sc_is_kind : FnScope ["thing", "numbers", "_", "parts", "variant"] ["thing"] (defScope s_is_kind) := ⟨rfl, rfl, rfl, by decide +kernel, rfl, by decide +kernel, by decide +kernel⟩

section
variable {P : Program} {w : World} {K : PySem.W.Frag} {mg : Str → Option Value} {base : Heap} {tF tM tP : Tok}
theorem ok_is_kind {f f1 f2 : Addr} {fd fd1 fd2 : FuncData} {k : Nat} (F : Fun K "is_kind" "is_kind" s_is_kind f fd) (T : TxtK mg tF tM tP) (F_is_variant : Fun K "is_variant" "is_variant" s_is_variant f1 fd1) (b_is_variant : Binds K fd1 ["thing"] []) (g_is_variant : mg "is_variant" = some (.ref f1)) (G_is_variant : FnOk P w K mg base CX0 2 f1 fd1 ["thing"] (spThing variantB K))
    (F_tags_of : Fun K "tags_of" "tags_of" s_tags_of f2 fd2) (b_tags_of : Binds K fd2 ["kind"] []) (g_tags_of : mg "tags_of" = some (.ref f2)) (G_tags_of : FnOk P w K mg base CX0 1 f2 fd2 ["kind"] spTags) : FnOk P w K mg base CX0 (k + 3) f fd ["thing"] (spThing kindB K) := by
  refine F.ok sc_is_kind (fun vs H Q E h => ?_) (fun cdv A outer s H vs Q E hr h => ?_)
  · obtain ⟨x, d, rfl, _⟩ := h
    rfl
  · obtain ⟨x, d, rfl, th, q⟩ := h
    refine ⟨_, (pss_cons (ps_if (PW.pt (pw_or (pt_not (pt_val (pe_callB call_isi (by rfl) T.n_isinstance (by decide +kernel) (pa_cons (pv 0) (pa_cons (pe_bltn (v := .ty "tuple") (by rfl) T.n_tuple (by decide +kernel) rfl) pa_nil))))) (pw_or1 (pt_not (pt_chain op_le op_le (pe_glob (v := .int 2) (by rfl) T.g_FEWEST_VARIANTS ⟨_, rfl⟩) (pe_callB call_len_seq (by rfl) T.n_len (by decide +kernel) (pa_cons (pv 0) pa_nil)) (pe_glob (v := .int 8) (by rfl) T.g_MOST_VARIANTS ⟨_, rfl⟩))))))
   (pss_one (ps_ret pe_bl))
   pss_nil)
  (pss_cons (ps_if (pt_not (pt_val (pe_callB (cr_all (by rfl)) (by rfl) T.n_all (by decide +kernel) (pa_cons (pe_lc (own := [("variant", 4)]) (g := gName 4) rfl sc_is_kind.nd (pi_tup (pv 0)) (blkOk_by (own := [("variant", 4)]) (N := ["thing", "numbers", "_", "parts", "variant"]) (sc := defScope s_is_kind) (by decide +kernel)) (fun _ _ _ _ _ => (pg_name (i := 4) sc_is_kind.nd rfl (.inl rfl))) (fun _ _ _ _ _ => pts_nil) (fun _ _ _ _ _ => (pe_call G_is_variant (hr.mono (by omega)) (by rfl) g_is_variant F_is_variant.kp b_is_variant .nil pass0 (pa_cons (pv 4) pa_nil)))) pa_nil))))
   (pss_one (ps_ret pe_bl))
   pss_nil)
  (pss_cons (ps_if (pt_cmpR op_lt (pe_lenSetT (by rfl) (by rfl) T.n_len (by rfl) T.n_set (pe_call G_tags_of (hr.mono (by omega)) (by rfl) g_tags_of F_tags_of.kp b_tags_of .nil pass0 (pa_cons (pv 0) pa_nil))) (pe_callB call_len_seq (by rfl) T.n_len (by decide +kernel) (pa_cons (pv 0) pa_nil)) (nomark _))
   (pss_one (ps_ret pe_bl))
   pss_nil)
  (pss_cons (ps_setLc (i := 1) (own := [("_", 2), ("parts", 3)]) (g := gTup K 2 (gCons (gName 2) (gCons (gName 3) gNil))) rfl sc_is_kind.nd rfl rfl (sw_true rfl rfl rfl (by decide +kernel)) (pi_tup (pv 0)) (blkOk_by (own := [("_", 2), ("parts", 3)]) (N := ["thing", "numbers", "_", "parts", "variant"]) (sc := defScope s_is_kind) (by decide +kernel)) (fun _ _ _ _ _ => (pg_tup rfl (pgs_cons (pg_name (i := 2) sc_is_kind.nd rfl (.inl rfl)) (pgs_cons (pg_name (i := 3) sc_is_kind.nd rfl (.inl rfl)) pgs_nil)))) (fun _ _ _ _ _ => pts_nil) (fun _ _ _ _ _ => (pv 3)))
  (pss_one (ps_ret (pe_and (pe_cmpR op_in_seq pe_int (pv 1) rfl) (pe_one (pe_callB (cr_any (by rfl)) (by rfl) T.n_any (by decide +kernel) (pa_cons (pe_lc (own := [("parts", 3)]) (g := gName 3) rfl sc_is_kind.nd (pi_list (pv 1)) (blkOk_by (own := [("parts", 3)]) (N := ["thing", "numbers", "_", "parts", "variant"]) (sc := defScope s_is_kind) (by decide +kernel)) (fun _ _ _ _ _ => (pg_name (i := 3) sc_is_kind.nd rfl (.inl rfl))) (fun _ _ _ _ _ => pts_nil) (fun _ _ _ _ _ => (pe_cmpR op_ge (pv 3) pe_int (nomark _)))) pa_nil)))))))))), ?_⟩
    refine ⟨_, rfl, _, _, _, _, isT d, rfl, .ty "tuple", th.ty, kit_ty (ty_tup d), isT d, rfl, ?_⟩
    by_cases hT : isT d = true
    case neg =>
      have hF : isT d = false := Bool.not_eq_true _ ▸ hT
      rw [hF]
      refine iteT ?_
      refine iteT ?_
      rw [(no_tup hF).2] at q
      exact q H (same_rfl H)
    rw [hT]
    refine iteF ?_
    cases th with
    | @tup a xs ds ea t =>
      have ld := t.length
      refine ⟨_, rfl, a, xs, rfl, .inr (.inl ea), _, _, rfl, rfl, decide (2 ≤ xs.length), le_len 2 xs.length, ?_⟩
      rcases two_eight xs.length with hx | hx | hx
      · rw [decide_eq_true hx.1]
        refine iteT ?_
        refine ⟨_, _, rfl, rfl, decide (xs.length ≤ 8), le_len xs.length 8, ?_⟩
        rw [decide_eq_true hx.2]
        refine iteF ?_
        -- all([is_variant(variant) for variant in thing])
        refine ⟨_, rfl, a, rfl, ⟨_, .inl ea⟩, fun D nD => ?_⟩
        refine lc_it (walk_tup (xs := xs)) (fun i H2 => Same H H2 ∧ H2 D = some (.lst ((ds.take i).map fun d => V.bl (variantB d)))) ⟨same_upd nD, upd_same⟩ (fun i H2 _ h => .inl (ea.same h.1)) ?_ ?_
        · rintro i x H2 H3 hi ⟨s2, hD⟩ ⟨rfl, ex⟩
          obtain ⟨d1, e1, t1⟩ := t.get ex
          refine ⟨rfl, ?_⟩
          unfold tYes
          dsimp only
          rw [if_pos rfl]
          refine ⟨_, rfl, thing_of (t1.same s2) fun H4 s4 => ⟨_, s4 _ _ hD, ?_, same_at (s2.trans s4) nD, ?_⟩⟩
          · rw [List.length_map, List.length_take]
            exact small1000 (by omega)
          · rw [upd_same, take_next e1]
        · rintro H2 ⟨s2, hD⟩
          rw [ld, List.take_length] at hD
          have hD' : H2 D = some (.lst ((ds.map variantB).map V.bl)) := by
            rw [hD, List.map_map]
            rfl
          refine ⟨D, ds.map variantB, rfl, .inl (.inl hD'), ds.all variantB, ?_, ?_⟩
          · rw [all_take_all]
          cases hv : ds.all variantB with
          | false =>
            refine iteT ?_
            rw [kind_none hv] at q
            exact q H2 s2
          | true =>
            refine iteF ?_
            have hv2 := all_pairs ds
            rw [hv] at hv2
            obtain ⟨ks, hks⟩ := Option.isSome_iff_exists.mp hv2
            rw [kind_some (by omega) hks] at q
            have lk := pairs_len hks
            obtain ⟨rs, rfl, pr, nm⟩ := prs_of t hks
            -- len(set(tags_of(thing))) < len(thing)
            have pr2 := pr.same s2
            have ea2 := ea.same s2
            refine ⟨_, rfl, ⟨a, ks, rfl, ⟨rs, ea2, pr2⟩, by omega, fun l H4 s4 nl hl => ?_⟩⟩
            have hl' : H4 l = some (.lst ((ks.map (·.1)).map V.str)) := by
              rw [hl, List.map_map]
              rfl
            have lt : (ks.map (·.1)).length = ks.length := List.length_map ..
            obtain ⟨u1, u2⟩ := uniq_len (ks.map (·.1))
            refine ⟨l, ks.map (·.1), rfl, .inl (.inl hl'), by omega, _, rfl, a, rs.map V.ref, rfl, .inr (.inl (ea2.same s4)), _, _, rfl, rfl, decide ((uniq (ks.map (·.1))).length < (rs.map V.ref).length), lt_len _ _, ?_⟩
            by_cases hn : (ks.map (·.1)).Nodup
            case neg =>
              have z : (uniq (ks.map (·.1))).length ≠ (ks.map (·.1)).length := fun z => hn (u2.mp z)
              rw [decide_eq_true (by omega)]
              refine iteT ?_
              have n : okK ks = false := by
                unfold okK
                rw [decide_eq_false hn]
                rfl
              rw [n] at q
              exact q _ (s2.trans s4)
            have z := u2.mpr hn
            rw [decide_eq_false (by omega)]
            refine iteF ?_
            -- numbers
            have s24 := s2.trans s4
            have ea4 := ea.same s24
            have pr4 := pr.same s24
            refine ⟨_, rfl, a, rfl, ⟨_, .inl ea4⟩, fun N nN => ?_⟩
            refine lc_it (walk_tup (xs := rs.map V.ref)) (fun i H5 => Same H4 H5 ∧ H5 N = some (.lst ((ks.take i).map fun p => V.int p.2))) ⟨same_upd nN, upd_same⟩ (fun i H5 _ h => .inl (ea4.same h.1)) ?_ ?_
            · rintro i x H5 H6 hi ⟨s5, hN⟩ ⟨rfl, ex⟩
              obtain ⟨r, pp, rfl, hk, hr2⟩ := pr4.item ex
              refine ⟨r, _, rfl, .inl (hr2.same s5), rfl, _, _, rfl, _, _, rfl, rfl, rfl, ?_⟩
              unfold tYes
              dsimp only
              rw [if_pos rfl]
              refine ⟨_, rfl, _, hN, ?_, ?_, ?_⟩
              · rw [List.length_map, List.length_take]
                exact small1000 (by omega)
              · exact same_at s5 nN
              · rw [upd_same, take_next hk]
            · rintro H5 ⟨s5, hN⟩
              rw [ld, ← lk, List.take_length] at hN
              have hN' : H5 N = some (.lst ((ks.map (·.2)).map V.int)) := by
                rw [hN, List.map_map]
                rfl
              refine ⟨_, rfl, N, _, rfl, .inl (.inl (.inl hN')), rfl, flat_ints _, decide ((0 : Int) ∈ ks.map (·.2)), in_nums2 _ 0, ?_⟩
              have ok : okK ks = (decide ((0 : Int) ∈ ks.map (·.2)) && (ks.map (·.2)).any fun i => decide (2 ≤ i)) := by
                unfold okK
                rw [decide_eq_true hn, Bool.true_and]
              rw [ok] at q
              cases h0 : decide ((0 : Int) ∈ ks.map (·.2)) with
              | false =>
                rw [h0] at q
                exact iteF (q _ (s24.trans s5))
              | true =>
                rw [h0, Bool.true_and] at q
                refine iteT ?_
                refine ⟨_, rfl, N, rfl, ⟨_, .inl (.inl hN')⟩, fun M nM => ?_⟩
                refine lc_it (walk_list (xs := (ks.map (·.2)).map V.int)) (fun i H6 => Same H5 H6 ∧ H6 M = some (.lst (((ks.map (·.2)).take i).map fun n => V.bl (decide (2 ≤ n))))) ⟨same_upd nM, upd_same⟩ (fun i H6 _ h => .inl (.inl (h.1 _ _ hN'))) ?_ ?_
                · rintro i x H6 H7 hi ⟨s6, hM⟩ ⟨rfl, ex⟩
                  obtain ⟨n, rfl, hk⟩ := int_item ex
                  refine ⟨rfl, ?_⟩
                  unfold tYes
                  dsimp only
                  rw [if_pos rfl]
                  refine ⟨_, rfl, _, _, rfl, rfl, _, hM, ?_, ?_, ?_⟩
                  · rw [List.length_map, List.length_take]
                    exact small1000 (by rw [List.length_map]; omega)
                  · exact same_at s6 nM
                  · rw [upd_same, ← take_next hk]
                · rintro H6 ⟨s6, hM⟩
                  rw [List.length_map, List.take_length] at hM
                  have hM' : H6 M = some (.lst (((ks.map (·.2)).map fun n => decide (2 ≤ n)).map V.bl)) := by
                    rw [hM, List.map_map (g := V.bl)]
                    rfl
                  refine ⟨M, _, rfl, .inl (.inl hM'), ?_⟩
                  rw [List.any_map]
                  exact q _ ((s24.trans s5).trans s6)
      · rw [decide_eq_false (by omega)]
        refine iteF ?_
        refine ⟨_, rfl, ?_⟩
        refine iteT ?_
        rw [kind_few (by omega)] at q
        exact q H (same_rfl H)
      · rw [decide_eq_true hx.1]
        refine iteT ?_
        refine ⟨_, _, rfl, rfl, decide (xs.length ≤ 8), le_len xs.length 8, ?_⟩
        rw [decide_eq_false (by omega)]
        refine iteT ?_
        rw [kind_few (by omega)] at q
        exact q H (same_rfl H)
    | _ => cases hT
end
end My.Kn

namespace My.Kn
open PySem PySem.Spec PyProof.Rows L2
/-- a method's call where the rule's K is told (in a comprehension) -/
theorem pe_bmK {X : Cx} {K : PySem.W.Frag} (hK : X.K = K) {o e : Expr} {es : List Expr} {to : TE} {t : TA} {name : Str} {apos cpos : Pos} {T id : String} {r : V → List V → Hp → VK → Prop} (pa : PlainAttrs T) (slot : Slot T name id) (hty : typeOf (.builtin id) = pure (.type "method_descriptor")) (hm : MtR X id r) (ho : PE X o to) (ha : PA X (e :: es) t)
    (hbase : attributeBase o name X.env (eval o X.env) = eval o X.env := by rfl)
    (hfew : ((backTo cpos (starEach (e :: es) X.env)).all (fun x => !x.1) && (backToKw cpos (keywordEach [] X.env)).all (fun x => x.1.isSome) && decide ((e :: es).length + ([] : List Keyword).length + (if ([] : List Keyword).isEmpty then 0 else 1) < 30)) = true := by rfl)
    (hline : (apos.endLine == cpos.line) = true := by rfl) (hs : starEach (e :: es) X.env = (false, eval e X.env) :: starEach es X.env := by rfl) (hplain : (backTo cpos (starEach es X.env)).any (·.1) = false := by rfl) : PE X (.Call (.Attribute o name apos) (e :: es) [] cpos) (tBM K T r to t) := by
  rw [← hK]
  exact pe_bm pa slot hty hm ho ha hbase hfew hline hs hplain
/-! ### the polynomial of a kind, by counting -/
/-- how many of ns are j, for j from 0 up -/
def cnt (ns : List Int) (j : Nat) : List Int := (List.range j).map fun (i : Nat) => ((ns.count ((i : Nat) : Int) : Nat) : Int)
theorem cnt_next (ns : List Int) (j : Nat) : cnt ns (j + 1) = cnt ns j ++ [((ns.count ((j : Nat) : Int) : Nat) : Int)] := by
  unfold cnt
  rw [List.range_succ, List.map_append]
  rfl
theorem cnt_len (ns : List Int) (j : Nat) : (cnt ns j).length = j := by
  unfold cnt
  rw [List.length_map, List.length_range]
/-- m is the greatest of ns -/
def Most (ns : List Int) (m : Nat) : Prop := ((m : Int) ∈ ns) ∧ ∀ n ∈ ns, 0 ≤ n ∧ n ≤ m
structure spPoly (vs : List V) (H : Hp) (Q : VK) (E : XK) : Prop where
  ex : ∃ (a : Addr) (ks : List (Str × Int)) (m : Nat), vs = [.ref a] ∧ KindAt H a ks ∧ ks.length ≤ 30 ∧ Most (ks.map (·.2)) m ∧ m ≤ 4 ∧ ∀ l H', Same H H' → H l = none → H' l = some (.tup ((cnt (ks.map (·.2)) (m + 1)).map V.int)) → Q (.ref l) H'
theorem at_last (l : List V) (x : V) : atI (l ++ [x]) (-1) = some x := by
  unfold atI ixN
  rw [List.length_append, List.length_cons, List.length_nil, if_neg (by decide), if_pos (by omega), Option.bind_some]
  rw [show (-1 + ((l.length + (0 + 1) : Nat) : Int)).toNat = l.length by omega]
  simp
theorem last_get (l : List V) (x : V) : (l ++ [x])[(l ++ [x]).length - 1]? = some x := by simp
structure TxtP (mg : Str → Option Value) (tP : Tok) : Prop where
  n_range : mg "range" = none
  n_tuple : mg "tuple" = none
  g_MOST_PARTS : mg "MOST_PARTS" = some (.int 4 tP)
abbrev s_polynomial : Stmt := topS 23
theorem sc_polynomial : FnScope ["kind", "numbers", "factors", "_", "parts", "k"] ["kind"] (defScope s_polynomial) := ⟨rfl, rfl, rfl, by decide +kernel, rfl, by decide +kernel, by decide +kernel⟩
abbrev s_difference : Stmt := topS 24
theorem sc_difference : FnScope ["kind", "factors"] ["kind"] (defScope s_difference) := ⟨rfl, rfl, rfl, by decide +kernel, rfl, by decide +kernel, by decide +kernel⟩
section
variable {P : Program} {w : World} {K : PySem.W.Frag} {mg : Str → Option Value} {base : Heap} {tP : Tok}
theorem ok_polynomial {f : Addr} {fd : FuncData} {k : Nat} (F : Fun K "polynomial" "polynomial" s_polynomial f fd) (T : TxtP mg tP) : FnOk P w K mg base CX0 (k + 1) f fd ["kind"] spPoly := by
  refine F.ok sc_polynomial (fun vs H Q E h => ?_) (fun cdv A outer s H vs Q E hr h => ?_)
  · obtain ⟨a, ks, m, rfl, _⟩ := h
    rfl
  · obtain ⟨a, ks, m, rfl, ⟨rs, ea, pr⟩, few, hm, m4, q⟩ := h
    refine ⟨_, (pss_cons (ps_set (i := 1) sc_polynomial.nd rfl (.inr rfl) (pe_lc (own := [("_", 3), ("parts", 4)]) (g := gTup K 2 (gCons (gName 3) (gCons (gName 4) gNil))) rfl sc_polynomial.nd (pi_tup (pv 0)) (blkOk_by (own := [("_", 3), ("parts", 4)]) (N := ["kind", "numbers", "factors", "_", "parts", "k"]) (sc := defScope s_polynomial) (by decide +kernel)) (fun _ _ _ _ _ => (pg_tup rfl (pgs_cons (pg_name (i := 3) sc_polynomial.nd rfl (.inl rfl)) (pgs_cons (pg_name (i := 4) sc_polynomial.nd rfl (.inl rfl)) pgs_nil)))) (fun _ _ _ _ _ => pts_nil) (fun _ _ _ _ _ => (pv 4))))
  (pss_cons (ps_setLc (i := 2) (own := [("k", 5)]) (g := gName 5) rfl sc_polynomial.nd rfl rfl (sw_true rfl rfl rfl (by decide +kernel)) (pi_range1 (by rfl) T.n_range (pa_cons (pe_op op_add (pe_glob (v := .int 4) (by rfl) T.g_MOST_PARTS ⟨_, rfl⟩) pe_int) pa_nil)) (blkOk_by (own := [("k", 5)]) (N := ["kind", "numbers", "factors", "_", "parts", "k"]) (sc := defScope s_polynomial) (by decide +kernel)) (fun _ _ _ _ _ => (pg_name (i := 5) sc_polynomial.nd rfl (.inl rfl))) (fun _ _ _ _ _ => pts_nil) (fun _ _ _ _ _ => (pe_bmK (K := K) rfl (r := rCntI K) PySem.F.plainAttrs_list PySem.F.slot_list_count PySem.F.type_list_count mt_lcount (pv 1) (pa_cons (pv 5) pa_nil))))
  (pss_cons (ps_while PassesOwn.never (pt_cmpR op_eq (pe_ix ix_list (pv 2) (pe_un un_neg pe_int) (fun _ _ => rfl)) pe_int (nomark _))
   (pss_one (ps_expr (pe_bm0 PySem.F.plainAttrs_list PySem.F.slot_list_pop PySem.F.type_list_pop mt_pop (pv 2)))))
  (pss_one (ps_ret (pe_callTy call_tuple_of (by rfl) T.n_tuple (by decide +kernel) (pa_cons (pv 2) pa_nil))))))), ?_⟩
    have lr := pr.length
    refine ⟨_, rfl, a, rfl, ⟨_, .inl ea⟩, fun N nN => ?_⟩
    refine lc_it (walk_tup (xs := rs.map V.ref)) (fun i H5 => Same H H5 ∧ H5 N = some (.lst ((ks.take i).map fun p => V.int p.2))) ⟨same_upd nN, upd_same⟩ (fun i H5 _ h => .inl (ea.same h.1)) ?_ ?_
    · rintro i x H5 H6 hi ⟨s5, hN⟩ ⟨rfl, ex⟩
      obtain ⟨r, pp, rfl, hk, hr2⟩ := pr.item ex
      refine ⟨r, _, rfl, .inl (hr2.same s5), rfl, _, _, rfl, _, _, rfl, rfl, rfl, ?_⟩
      unfold tYes
      dsimp only
      rw [if_pos rfl]
      refine ⟨_, rfl, _, hN, ?_, ?_, ?_⟩
      · rw [List.length_map, List.length_take]
        exact small1000 (by omega)
      · exact same_at s5 nN
      · rw [upd_same, take_next hk]
    · rintro H5 ⟨s5, hN⟩
      rw [List.length_map, lr, List.take_length] at hN
      have hN' : H5 N = some (.lst ((ks.map (·.2)).map V.int)) := by
        rw [hN, List.map_map]
        rfl
      -- factors
      refine ⟨_, _, rfl, rfl, 5, rfl, by decide, by decide, fun C nC => ?_⟩
      refine lc_range (n := 5) (fun j H6 => Same H5 H6 ∧ H6 C = some (.lst ((cnt (ks.map (·.2)) j).map V.int))) ⟨same_upd nC, upd_same⟩ ?_ ?_
      · rintro j H6 hj ⟨s6, hC⟩
        refine ⟨rfl, ?_⟩
        unfold tYes
        dsimp only
        rw [if_pos rfl]
        have hN6 := s6 _ _ hN'
        refine ⟨_, rfl, .inl ⟨rfl, _, .inl (.inl hN6)⟩, _, rfl, N, ks.map (·.2), _, rfl, rfl, .inl (.inl hN6), _, hC, ?_, ?_, ?_⟩
        · rw [List.length_map, cnt_len]
          exact small1000 (by omega)
        · exact same_at s6 nC
        · rw [upd_same, cnt_next, List.map_append, Int.zero_add]
          rfl
      · rintro H6 ⟨s6, hC⟩
        have nCH : H C = none := s5.free nC
        -- while factors[-1] == 0
        refine ⟨fun j σ H7 => m < j ∧ j ≤ 5 ∧ Same H H7 ∧ H7 C = some (.lst ((cnt (ks.map (·.2)) j).map V.int)) ∧ σ = [some (.ref a), some (.ref N), some (.ref C), none, none, none], ⟨5, by omega, by omega, s5.trans s6, hC, rfl⟩, ?_⟩
        rintro j σ H7 ⟨j1, j2, s7, hC7, rfl⟩
        obtain ⟨i, rfl⟩ : ∃ i, j = i + 1 := ⟨j - 1, by omega⟩
        rw [cnt_next, List.map_append] at hC7
        refine ⟨_, rfl, _, rfl, C, _, _, _, rfl, rfl, .inl (.inl hC7), at_last _ _, rfl, decide ((ks.map (·.2)).count (i : Int) = 0), eq_len _ 0, ?_⟩
        by_cases hz : (ks.map (·.2)).count (i : Int) = 0
        · rw [decide_eq_true hz]
          refine iteT ?_
          have ne : i ≠ m := fun z => by
            rw [z] at hz
            exact absurd hm.1 (List.count_eq_zero.mp hz)
          refine ⟨fun σ H8 => m < i ∧ i ≤ 5 ∧ Same H H8 ∧ H8 C = some (.lst ((cnt (ks.map (·.2)) i).map V.int)) ∧ σ = [some (.ref a), some (.ref N), some (.ref C), none, none, none], fun σ' H' h => ⟨i, by omega, h⟩, ?_⟩
          refine ⟨_, rfl, .inl ⟨rfl, _, .inl (.inl hC7)⟩, C, _, _, rfl, rfl, hC7, last_get _ _, by omega, by omega, same_at s7 nCH, ?_, rfl⟩
          rw [upd_same]
          simp
        · rw [decide_eq_false hz]
          refine iteF ?_
          have im : i = m := by
            have z1 : (i : Int) ∈ ks.map (·.2) := List.count_pos_iff.mp (Nat.pos_of_ne_zero hz)
            have z2 := (hm.2 _ z1).2
            omega
          subst im
          rw [← List.map_append, ← cnt_next] at hC7
          refine ⟨_, rfl, C, _, rfl, .inl ⟨.inl (.inl hC7), fun l nl => ?_⟩⟩
          exact q l _ (s7.trans (same_upd nl)) (s7.free nl) upd_same
theorem cut1_not {y0 y1 y2 : V} {r : List V} : ¬ (HT.sIx (y0 :: y1 :: y2 :: r).length 0 none = 0 ∧ HT.sIx (y0 :: y1 :: y2 :: r).length (y0 :: y1 :: y2 :: r).length (some 1) = (y0 :: y1 :: y2 :: r).length) := by
  rintro ⟨_, z⟩
  have e := HT.sIx_nat (y0 :: y1 :: y2 :: r).length (y0 :: y1 :: y2 :: r).length 1
  have z : HT.sIx (y0 :: y1 :: y2 :: r).length (y0 :: y1 :: y2 :: r).length (some ((1 : Nat) : Int)) = (y0 :: y1 :: y2 :: r).length := z
  rw [e] at z
  simp only [List.length_cons] at z
  omega
theorem cut2_not {y0 y1 y2 : V} {r : List V} : ¬ (HT.sIx (y0 :: y1 :: y2 :: r).length 0 (some 2) = 0 ∧ HT.sIx (y0 :: y1 :: y2 :: r).length (y0 :: y1 :: y2 :: r).length none = (y0 :: y1 :: y2 :: r).length) := by
  rintro ⟨z, _⟩
  have e := HT.sIx_nat (y0 :: y1 :: y2 :: r).length 0 2
  have z : HT.sIx (y0 :: y1 :: y2 :: r).length 0 (some ((2 : Nat) : Int)) = 0 := z
  rw [e] at z
  simp only [List.length_cons] at z
  omega
theorem cut1 {y0 y1 y2 : V} {r : List V} : cutV (y0 :: y1 :: y2 :: r) none (some 1) = [y0] := by
  show ((y0 :: y1 :: y2 :: r).drop 0).take (HT.sIx (y0 :: y1 :: y2 :: r).length (y0 :: y1 :: y2 :: r).length (some ((1 : Nat) : Int)) - 0) = [y0]
  rw [HT.sIx_nat, show min 1 (y0 :: y1 :: y2 :: r).length - 0 = 1 by simp only [List.length_cons]; omega]
  rfl
theorem cut2 {y0 y1 y2 : V} {r : List V} : cutV (y0 :: y1 :: y2 :: r) (some 2) none = y2 :: r := by
  show ((y0 :: y1 :: y2 :: r).drop (HT.sIx (y0 :: y1 :: y2 :: r).length 0 (some ((2 : Nat) : Int)))).take ((y0 :: y1 :: y2 :: r).length - HT.sIx (y0 :: y1 :: y2 :: r).length 0 (some ((2 : Nat) : Int))) = y2 :: r
  rw [HT.sIx_nat, show min 2 (y0 :: y1 :: y2 :: r).length = 2 by simp only [List.length_cons]; omega]
  show (y2 :: r).take ((y0 :: y1 :: y2 :: r).length - 2) = y2 :: r
  exact List.take_of_length_le (by simp only [List.length_cons]; omega)
theorem fits_few {n : Nat} (h : n ≤ 100) : n ≤ sizeLine := Nat.le_of_lt (small1000 (by omega))
structure spDiff (vs : List V) (H : Hp) (Q : VK) (E : XK) : Prop where
  ex : ∃ (a : Addr) (ks : List (Str × Int)) (m : Nat), vs = [.ref a] ∧ KindAt H a ks ∧ ks.length ≤ 30 ∧ Most (ks.map (·.2)) m ∧ 2 ≤ m ∧ m ≤ 4 ∧
    ∀ l H', Same H H' → H l = none → H' l = some (.tup (((cnt (ks.map (·.2)) (m + 1)).set 1 (((ks.map (·.2)).count 1 : Nat) - 1)).map V.int)) → Q (.ref l) H'
theorem ok_difference {f f1 : Addr} {fd fd1 : FuncData} {k : Nat} (F : Fun K "difference" "difference" s_difference f fd) (F_polynomial : Fun K "polynomial" "polynomial" s_polynomial f1 fd1) (b_polynomial : Binds K fd1 ["kind"] []) (g_polynomial : mg "polynomial" = some (.ref f1))
    (G_polynomial : FnOk P w K mg base CX0 1 f1 fd1 ["kind"] spPoly) : FnOk P w K mg base CX0 (k + 2) f fd ["kind"] spDiff := by
  refine F.ok sc_difference (fun vs H Q E h => ?_) (fun cdv A outer s H vs Q E hr h => ?_)
  · obtain ⟨a, ks, m, rfl, _⟩ := h
    rfl
  · obtain ⟨a, ks, m, rfl, hk, few, hm, m2, m4, q⟩ := h
    refine ⟨_, (pss_cons (ps_set (i := 1) sc_difference.nd rfl (.inl rfl) (pe_call G_polynomial (hr.mono (by omega)) (by rfl) g_polynomial F_polynomial.kp b_polynomial .nil pass0 (pa_cons (pv 0) pa_nil)))
  (pss_one (ps_ret (pe_op op_catA (pe_op op_catA (pe_slice sl_tupA (pv 1) po_none (po_some pe_int)) (pe_tup (pa_cons (pe_op op_sub (pe_ix ix_tup (pv 1) pe_int (fun _ _ => rfl)) pe_int) pa_nil))) (pe_slice sl_tupA (pv 1) (po_some pe_int) po_none))))), ?_⟩
    refine ⟨_, rfl, ⟨a, ks, m, rfl, hk, few, hm, m4, fun p H1 s1 np hp => ?_⟩⟩
    obtain ⟨c0, c1, c2, r, ec, e1⟩ : ∃ c0 c1 c2 r, cnt (ks.map (·.2)) (m + 1) = c0 :: c1 :: c2 :: r ∧ c1 = (((ks.map (·.2)).count 1 : Nat) : Int) := by
      obtain ⟨j, rfl⟩ : ∃ j, m = j + 2 := ⟨m - 2, by omega⟩
      unfold cnt
      rw [List.range_succ_eq_map, List.map_cons, List.range_succ_eq_map, List.map_cons, List.range_succ_eq_map]
      simp only [List.map_cons]
      exact ⟨_, _, _, _, rfl, rfl⟩
    rw [ec] at hp q
    rw [← e1] at q
    rw [show (c0 :: c1 :: c2 :: r).map V.int = V.int c0 :: V.int c1 :: V.int c2 :: r.map V.int from rfl] at hp
    refine ⟨_, rfl, _, rfl, p, _, rfl, .inl (.inl hp), (fun z => absurd z cut1_not), fun _ p2 np2 => ?_⟩
    rw [cut1]
    have hp2 := same_upd (o := .tup [V.int c0]) np2 _ _ hp
    refine ⟨_, rfl, p, _, _, V.int c1, rfl, rfl, .inl (.inl hp2), atI_nat (j := 1) rfl, _, _, rfl, rfl, by show 1 ≤ sizeLine; decide, fun p3 np3 => ?_⟩
    have hp3 := same_upd (o := .tup [V.int (c1 - 1)]) np3 _ _ hp2
    refine ⟨p2, p3, _, _, rfl, rfl, .inl (.inl ((same_upd np3) _ _ upd_same)), .inl (.inl upd_same), by show 1 + 1 ≤ sizeLine; decide, (fun z => nomatch z), (fun _ z => nomatch z), fun _ _ p4 np4 => ?_⟩
    have hp4 := same_upd (o := .tup ([V.int c0] ++ [V.int (c1 - 1)])) np4 _ _ hp3
    refine ⟨_, rfl, _, rfl, p, _, rfl, .inl (.inl hp4), (fun z => absurd z cut2_not), fun _ p5 np5 => ?_⟩
    rw [cut2]
    have hl : r.length ≤ 5 := by
      have z := congrArg List.length ec
      rw [cnt_len] at z
      simp only [List.length_cons] at z
      omega
    refine ⟨p4, p5, _, _, rfl, rfl, .inl (.inl ((same_upd np5) _ _ upd_same)), .inl (.inl upd_same), fits_few (by simp only [List.length_append, List.length_cons, List.length_nil, List.length_map]; omega), (fun z => nomatch z), (fun _ z => nomatch z), fun _ _ p6 np6 => ?_⟩
    have sA := ((((s1.trans (same_upd np2)).trans (same_upd np3)).trans (same_upd np4)).trans (same_upd (o := .tup (V.int c2 :: r.map V.int)) np5))
    exact q p6 _ (sA.trans (same_upd np6)) (sA.free np6) upd_same
end
end My.Kn

namespace My.Kn
open PySem PySem.Spec PyProof.Rows L2
/-! ### drawn names and kinds -/
abbrev c_SIGNS : Str := "abcdefghijklmnopqrstuvwxyz0123456789"
/-- the signs of codes, as values -/
def sgs (cs : List Nat) : List V := cs.map fun c => V.str (oneS c)
theorem sgs_text (z : Str) : (z.cps.toList.map fun c => V.str (oneS c)) = sgs z.cps.toList := rfl
theorem sgs_at {cs : List Nat} {i : Nat} {x : V} (h : (sgs cs)[i]? = some x) : ∃ c, cs[i]? = some c ∧ x = .str (oneS c) := by
  unfold sgs at h
  rw [List.getElem?_map] at h
  cases e : cs[i]? with
  | none =>
    rw [e] at h
    cases h
  | some c =>
    rw [e] at h
    cases h
    exact ⟨c, rfl, rfl⟩
theorem sgs_mem {cs : List Nat} {x : V} (h : x ∈ sgs cs) : ∃ c, c ∈ cs ∧ x = .str (oneS c) := by
  obtain ⟨c, h1, rfl⟩ := List.mem_map.mp h
  exact ⟨c, h1, rfl⟩
theorem sgs_len (cs : List Nat) : (sgs cs).length = cs.length := List.length_map ..
theorem sgs_app (a b : List Nat) : sgs a ++ sgs b = sgs (a ++ b) := by
  unfold sgs
  rw [List.map_append]
theorem sgs_cut (cs : List Nat) (lo hi : Option Int) : cutV (sgs cs) lo hi = sgs ((cs.drop (HT.sIx cs.length 0 lo)).take (HT.sIx cs.length cs.length hi - HT.sIx cs.length 0 lo)) := by
  unfold cutV sgs
  rw [List.length_map, List.map_take, List.map_drop]
theorem join_codes (cs : List Nat) : (Txt.join "" (cs.map oneS)).cps.toList = cs := by
  rw [tl_join0, List.map_map]
  induction cs with
  | nil => rfl
  | cons c r ih =>
    rw [List.map_cons, List.flatten_cons, ih]
    rfl
theorem let_sign {c : Nat} (h : isLet c = true) : isSign c = true := by
  rw [sign_or, h]
  rfl
theorem sgs_erase : ∀ (cs : List Nat) (j : Nat), (sgs cs).eraseIdx j = sgs (cs.eraseIdx j)
  | [], _ => rfl
  | _ :: _, 0 => rfl
  | c :: r, j + 1 => by
    show V.str (oneS c) :: (sgs r).eraseIdx j = V.str (oneS c) :: sgs (r.eraseIdx j)
    rw [sgs_erase r j]
theorem sgs_strs (cs : List Nat) : sgs cs = (cs.map oneS).map V.str := by
  unfold sgs
  rw [List.map_map]
  rfl
theorem sum_ones : ∀ cs : List Nat, ((cs.map oneS).map (·.length)).sum = cs.length
  | [] => rfl
  | c :: r => by
    rw [List.map_cons, List.map_cons, List.sum_cons, sum_ones r, List.length_cons]
    show 1 + r.length = r.length + 1
    omega
theorem ones_sum {cs : List Nat} (h : cs.length ≤ 100) : ((cs.map oneS).map (·.length)).sum + (cs.map oneS).length * ("" : Str).length ≤ 16777216 := by
  rw [sum_ones, show ("" : Str).length = 0 by decide +kernel, Nat.mul_zero]
  omega
theorem _root_.My.But.set {p D : Addr} {H H' : Hp} {o : HO} (h : But p H H') (n : H D = none) : But p H (upd H' D o) := ⟨fun b u e m => by
  rw [upd_ne (ne_of_none e n)]
  exact h.1 b u e m, fun z => by
  by_cases e : p = D
  · rw [e, upd_same] at z
    cases z
  · rw [upd_ne e] at z
    exact h.2 z⟩
theorem _root_.My.Pot.upd {H : Hp} {p c D : Addr} {o : HO} (h : Pot H p c) (n1 : p ≠ D) (n2 : c ≠ D) : Pot (L2.upd H D o) p c := by
  obtain ⟨ns, pl, am, sz, h1, h2, h3⟩ := h
  exact ⟨ns, pl, am, sz, by rw [upd_ne n1]; exact h1, by rw [upd_ne n2]; exact h2, h3⟩
theorem seq_nat {n j : Nat} (h : j < n) : seqIndex? (j : Int) n = some j := by
  refine (ixN_seq ?_).1
  unfold ixN
  rw [if_pos (by omega), if_pos (by omega)]
  rfl
/-- a word: the stem with another letter at its place -/
def wordOf (st : List Nat) (pl x : Nat) : List Nat := st.take pl ++ [x] ++ st.drop (pl + 1)
theorem word_len {st : List Nat} {pl x : Nat} (h : st.length = 8) (hp : pl < 8) : (wordOf st pl x).length = 8 := by
  unfold wordOf
  rw [List.length_append, List.length_append, List.length_take, List.length_drop]
  show _ + 1 + _ = _
  omega
theorem word_at {st : List Nat} {pl x : Nat} (h : st.length = 8) (hp : pl < 8) : (wordOf st pl x)[pl]? = some x := by
  unfold wordOf
  rw [List.append_assoc, List.getElem?_append_right (by rw [List.length_take]; omega), List.length_take, show pl - min pl st.length = 0 by omega]
  rfl
theorem word_first {st : List Nat} {pl x y : Nat} (h : st.length = 8) (hp : pl < 8) (hx : isLet x = true) (h0 : ∀ y, st[0]? = some y → isLet y = true) (e : (wordOf st pl x)[0]? = some y) : isLet y = true := by
  cases pl with
  | zero =>
    have z : (wordOf st 0 x)[0]? = some x := word_at h (by omega)
    rw [z] at e
    cases e
    exact hx
  | succ n =>
    unfold wordOf at e
    rw [List.append_assoc, List.getElem?_append_left (by rw [List.length_take]; omega), List.getElem?_take_of_lt (by omega)] at e
    exact h0 y e
theorem word_signs {st : List Nat} {pl x : Nat} (hx : isSign x = true) (hs : ∀ y ∈ st, isSign y = true) : ∀ y ∈ wordOf st pl x, isSign y = true := by
  intro y hy
  rcases List.mem_append.mp hy with hy | hy
  · rcases List.mem_append.mp hy with hy | hy
    · exact hs y (List.mem_of_mem_take hy)
    · rw [List.mem_singleton.mp hy]
      exact hx
  · exact hs y (List.mem_of_mem_drop hy)
/-- the first n signs of such a word are a name -/
theorem name_of {cs : List Nat} {n : Nat} (hl : cs.length = 8) (h1 : 1 ≤ n) (h8 : n ≤ 8) (h0 : ∀ y, cs[0]? = some y → isLet y = true) (hs : ∀ y ∈ cs, isSign y = true) : isNm (Txt.join "" ((cs.take n).map oneS)) = true := by
  unfold isNm
  rw [join_codes]
  cases e : cs.take n with
  | nil =>
    have z := congrArg List.length e
    rw [List.length_take, List.length_nil] at z
    omega
  | cons c r =>
    have z := congrArg List.length e
    rw [List.length_take, List.length_cons] at z
    have hc : cs[0]? = some c := by
      have y : (cs.take n)[0]? = some c := by rw [e]; rfl
      rw [List.getElem?_take_of_lt (by omega)] at y
      exact y
    have hall : (c :: r).all isSign = true := by
      rw [List.all_eq_true, ← e]
      exact fun y hy => hs y (List.mem_of_mem_take hy)
    dsimp only
    rw [h0 c hc, hall, decide_eq_true (by omega)]
    rfl
theorem sign_in {x : Nat} (h : x ∈ c_SIGNS.cps.toList) : isSign x = true := by
  have e : (c_LETTERS ++ c_DIGITS).cps.toList = c_SIGNS.cps.toList := by decide +kernel
  exact decide_eq_true (by rw [e]; exact h)
theorem zero_len (j : Nat) : V.bl (decide (V.int ((0 : Int) + (j : Nat)) = V.int 0)) = V.bl (decide (j = 0)) := by
  rw [Int.zero_add]
  exact eq_len j 0
theorem erase_not : ∀ {ls : List Nat} {j : Nat} (nd : ls.Nodup) (h : j < ls.length), ls[j] ∉ ls.eraseIdx j
  | [], _, _, h => absurd h (Nat.not_lt_zero _)
  | c :: r, 0, nd, _ => (List.nodup_cons.mp nd).1
  | c :: r, j + 1, nd, h => by
    have h' : j < r.length := by
      rw [List.length_cons] at h
      omega
    intro z
    rcases List.mem_cons.mp (show (c :: r)[j + 1] ∈ c :: r.eraseIdx j from z) with e | e
    · exact (List.nodup_cons.mp nd).1 (e ▸ List.getElem_mem h')
    · exact erase_not (List.nodup_cons.mp nd).2 h' e
theorem cut_pre (cs : List Nat) (n : Nat) (h : n ≤ cs.length) : cutV (sgs cs) none (some (n : Int)) = sgs (cs.take n) := by
  rw [sgs_cut, HT.sIx_none, HT.sIx_nat, Nat.sub_zero, List.drop_zero, Nat.min_eq_left h]
theorem cut_post (cs : List Nat) (n : Nat) (h : n + 1 ≤ cs.length) : cutV (sgs cs) (some ((n : Int) + 1)) none = sgs (cs.drop (n + 1)) := by
  have e : ((n : Int) + 1) = ((n + 1 : Nat) : Int) := by omega
  rw [e, sgs_cut, HT.sIx_none, HT.sIx_nat, Nat.min_eq_left h, List.take_of_length_le (by rw [List.length_drop]; exact Nat.le_refl _)]
theorem cut_name (cs : List Nat) (n b : Nat) (h : n + 1 + b ≤ cs.length) : cutV (sgs cs) none (some ((n : Int) + 1 + (b : Int))) = sgs (cs.take (n + 1 + b)) := by
  have e : ((n : Int) + 1 + (b : Int)) = ((n + 1 + b : Nat) : Int) := by omega
  rw [e]
  exact cut_pre cs (n + 1 + b) h
def spNames : Sp := fun vs H Q _ => ∃ (p c : Addr) (many : Nat), vs = [.ref p, .int many] ∧ Pot H p c ∧ many ≤ 8 ∧ ∀ (l : Addr) (ws : List Str) (H' : Hp), But p H H' → Pot H' p c → H l = none → H' l = some (.lst (ws.map V.str)) → ws.length = many → (∀ y ∈ ws, isNm y = true) → ws.Nodup → Q (.ref l) H'
abbrev s_law_some_names : Stmt := topS 56
theorem sc_law_some_names : FnScope ["pot", "many", "letters", "signs", "place", "found", "stem", "turn", "letter", "word", "spot"] ["pot", "many"] (defScope s_law_some_names) := ⟨rfl, rfl, rfl, by decide +kernel, rfl, by decide +kernel, by decide +kernel⟩
abbrev s_law_some_kind : Stmt := topS 57
theorem sc_law_some_kind : FnScope ["pot", "many", "numbers", "at", "turn", "tag", "number"] ["pot"] (defScope s_law_some_kind) := ⟨rfl, rfl, rfl, by decide +kernel, rfl, by decide +kernel, by decide +kernel⟩
structure TxtM (mg : Str → Option Value) : Prop where
  n_list : mg "list" = none
  n_range : mg "range" = none
  n_len : mg "len" = none
  n_tuple : mg "tuple" = none
  n_zip : mg "zip" = none
section
variable {P : Program} {w : World} {K : PySem.W.Frag} {mg : Str → Option Value} {base : Heap}
theorem ok_some_names {f fb fp : Addr} {fd fdb fdp : FuncData} {k : Nat} (F : Fun K "_law_some_names" "_law_some_names" s_law_some_names f fd) (T : TxtM mg) (F__law_below : Fun K "_law_below" "_law_below" s_law_below fb fdb) (b__law_below : Binds K fdb ["pot", "bound"] []) (g__law_below : mg "_law_below" = some (.ref fb))
    (G__law_below : FnOk P w K mg base CX0 2 fb fdb ["pot", "bound"] spBelow) (F__law_pick : Fun K "_law_pick" "_law_pick" s_law_pick fp fdp) (b__law_pick : Binds K fdp ["pot", "items"] []) (g__law_pick : mg "_law_pick" = some (.ref fp))
    (G__law_pick : FnOk P w K mg base CX0 3 fp fdp ["pot", "items"] (spPick K)) : FnOk P w K mg base CX0 (k + 4) f fd ["pot", "many"] spNames := by
  refine F.ok sc_law_some_names (fun vs H Q E h => ?_) (fun cdv A outer s H vs Q E hr h => ?_)
  · obtain ⟨p, c, many, rfl, _⟩ := h
    rfl
  · obtain ⟨p, c, many, rfl, hP, hmany, q⟩ := h
    refine ⟨_, (pss_cons (ps_asg (pe_tup (pa_cons (pe_callTy (call_listS (by rfl)) (by rfl) T.n_list (by decide +kernel) (pa_cons pe_str pa_nil)) (pa_cons (pe_callTy (call_listS (by rfl)) (by rfl) T.n_list (by decide +kernel) (pa_cons pe_str pa_nil)) pa_nil))) (pg_tup rfl (pgs_cons (pg_name (i := 2) sc_law_some_names.nd rfl (.inr rfl)) (pgs_cons (pg_name (i := 3) sc_law_some_names.nd rfl (.inr rfl)) pgs_nil))))
  (pss_cons (ps_par (i := 4) (j := 5) (by rfl) sc_law_some_names.nd rfl rfl (by decide) rfl rfl (pa_cons (pe_call G__law_below (hr.mono (by omega)) (by rfl) g__law_below F__law_below.kp b__law_below .nil pass0 (pa_cons (pv 0) (pa_cons pe_int pa_nil))) (pa_cons (pe_lst pa_nil) pa_nil)) (by rfl))
  (pss_cons (ps_setLc (i := 6) (own := [("spot", 10)]) (g := gName 10) rfl sc_law_some_names.nd rfl rfl (sw_true rfl rfl rfl (by decide +kernel)) (pi_range1 (by rfl) T.n_range (pa_cons pe_int pa_nil)) (blkOk_by (own := [("spot", 10)]) (N := ["pot", "many", "letters", "signs", "place", "found", "stem", "turn", "letter", "word", "spot"]) (sc := defScope s_law_some_names) (by decide +kernel)) (fun _ _ _ _ _ => (pg_name (i := 10) sc_law_some_names.nd rfl (.inl rfl))) (fun _ _ _ _ _ => pts_nil) (fun _ _ _ _ _ => (pe_call G__law_pick (hr.mono (by omega)) (by rfl) g__law_pick F__law_pick.kp b__law_pick .nil pass0 (pa_cons (pv 0) (pa_cons (pe_ifExp (pt_cmpR op_eq (pv 10) pe_int (nomark _)) (pv 2) (pv 3)) pa_nil)))))
  (pss_cons (ps_for PassesOwn.never rfl (pi_range1 (by rfl) T.n_range (pa_cons (pv 1) pa_nil)) (pg_name (i := 7) sc_law_some_names.nd rfl (.inl rfl))
   (pss_cons (ps_set (i := 8) sc_law_some_names.nd rfl (.inl rfl) (pe_bm PySem.F.plainAttrs_list PySem.F.slot_list_pop PySem.F.type_list_pop mt_popAt (pv 2) (pa_cons (pe_call G__law_below (hr.mono (by omega)) (by rfl) g__law_below F__law_below.kp b__law_below .nil pass0 (pa_cons (pv 0) (pa_cons (pe_callB call_len_seq (by rfl) T.n_len (by decide +kernel) (pa_cons (pv 2) pa_nil)) pa_nil))) pa_nil)))
  (pss_cons (ps_set (i := 9) sc_law_some_names.nd rfl (.inl rfl) (pe_op op_cat (pe_op op_cat (pe_slice sl_list (pv 6) po_none (po_some (pv 4))) (pe_lst (pa_cons (pv 8) pa_nil))) (pe_slice sl_list (pv 6) (po_some (pe_op op_add (pv 4) pe_int)) po_none)))
  (pss_one (ps_expr (pe_bm PySem.F.plainAttrs_list PySem.F.slot_list_append PySem.F.type_list_append mt_append (pv 5) (pa_cons (pe_join pe_str (pe_slice sl_list (pv 9) po_none (po_some (pe_op op_add (pe_op op_add (pv 4) pe_int) (pe_call G__law_below (hr.mono (by omega)) (by rfl) g__law_below F__law_below.kp b__law_below .nil pass0 (pa_cons (pv 0) (pa_cons (pe_op op_sub pe_int (pv 4)) pa_nil))))))) pa_nil)))))))
  (pss_one (ps_ret (pv 5))))))), ?_⟩
    -- letters, signs
    refine ⟨_, rfl, by decide +kernel, fun L0 nL => ⟨_, rfl, by decide +kernel, fun S0 nS => ⟨by show 2 ≤ sizeLine; decide, fun T0 nT => ?_⟩⟩⟩
    have hL1 := (same_upd (o := .lst (sgs c_SIGNS.cps.toList)) nS).trans (same_upd (o := .tup [.ref L0, .ref S0]) nT) L0 (.lst (sgs c_LETTERS.cps.toList)) upd_same
    have hS1 := same_upd (o := .tup [.ref L0, .ref S0]) nT S0 (.lst (sgs c_SIGNS.cps.toList)) upd_same
    have s1 := ((same_upd (o := .lst (sgs c_LETTERS.cps.toList)) nL).trans (same_upd (o := .lst (sgs c_SIGNS.cps.toList)) nS)).trans (same_upd (o := .tup [.ref L0, .ref S0]) nT)
    refine ⟨T0, _, rfl, .inl (.inl upd_same), rfl, _, _, rfl, _, _, rfl, rfl, ?_⟩
    have nSH : H S0 = none := (same_upd nL).free nS
    have hP1 := hP.same s1
    obtain ⟨ns0, p0, am0, sz0, hp0, hc0, hl0⟩ := id hP
    have npL : p ≠ L0 := ne_of_none hp0 nL
    have ncL : c ≠ L0 := ne_of_none hc0 nL
    have npS : p ≠ S0 := ne_of_none hp0 nSH
    have bH1 := But.of (s1 _ _ hp0) s1
    -- place, found
    refine ⟨_, rfl, p, c, 4, rfl, hP1, by decide, by decide, fun pl H2 pl0 pl1 hP2 b2 => ⟨Nat.zero_le _, fun F0 nF => ⟨_, _, rfl, ?_⟩⟩⟩
    have bH2 : But p H H2 := bH1.trans b2
    have hL2 := b2.1 _ _ hL1 (Ne.symm npL)
    have hS2 := b2.1 _ _ hS1 (Ne.symm npS)
    have nFH : H F0 = none := bH2.free nF
    obtain ⟨ns2, p2', am2, sz2, hp2, hc2, hl2⟩ := id hP2
    have npF : p ≠ F0 := ne_of_none hp2 nF
    have ncF : c ≠ F0 := ne_of_none hc2 nF
    have nLF : L0 ≠ F0 := ne_of_none hL2 nF
    have s3 : Same H2 (upd H2 F0 (.lst [])) := same_upd nF
    have hL3 := s3 _ _ hL2
    have hS3 := s3 _ _ hS2
    have hP3 := hP2.same s3
    have bH3 : But p H (upd H2 F0 (.lst [])) := bH2.set nFH
    have hF3 : upd H2 F0 (.lst []) F0 = some (.lst []) := upd_same
    generalize upd H2 F0 (.lst []) = H3 at s3 hL3 hS3 hP3 bH3 hF3 ⊢
    -- stem
    refine ⟨8, rfl, by decide, by decide, fun Z nZ => ?_⟩
    have nZH : H Z = none := bH3.free nZ
    obtain ⟨ns3, p3', am3, sz3, hp3, hc3, hl3⟩ := id hP3
    have npZ : p ≠ Z := ne_of_none hp3 nZ
    have ncZ : c ≠ Z := ne_of_none hc3 nZ
    have nLZ : L0 ≠ Z := ne_of_none hL3 nZ
    have nFZ : F0 ≠ Z := ne_of_none hF3 nZ
    have sZ : Same H3 (upd H3 Z (.lst [])) := same_upd nZ
    refine lc_range (n := 8) (fun j H4 => But p H3 H4 ∧ Pot H4 p c ∧ ∃ st : List Nat, H4 Z = some (.lst (sgs st)) ∧ st.length = j ∧ (∀ x ∈ st, isSign x = true) ∧ ∀ x, st[0]? = some x → isLet x = true) ⟨But.of (sZ _ _ hp3) sZ, hP3.same sZ, [], upd_same, rfl, (fun _ z => nomatch z), (fun _ z => nomatch z)⟩ ?_ ?_
    · rintro j H4 hj ⟨b4, hP4, st, hZ4, lst4, sg4, le4⟩
      refine ⟨rfl, ?_⟩
      unfold tYes
      dsimp only
      rw [if_pos rfl]
      have hL4 := b4.1 _ _ hL3 (Ne.symm npL)
      have hS4 := b4.1 _ _ hS3 (Ne.symm npS)
      have step : ∀ (x : Nat) (H5 : Hp), But p H4 H5 → Pot H5 p c → isSign x = true → (j = 0 → isLet x = true) → ∃ acc, H5 Z = some (.lst acc) ∧ acc.length < sizeLine ∧ But p H3 (upd H5 Z (.lst (acc ++ [V.str (oneS x)]))) ∧ Pot (upd H5 Z (.lst (acc ++ [V.str (oneS x)]))) p c ∧ ∃ st : List Nat, upd H5 Z (.lst (acc ++ [V.str (oneS x)])) Z = some (.lst (sgs st)) ∧ st.length = j + 1 ∧ (∀ x ∈ st, isSign x = true) ∧ ∀ x, st[0]? = some x → isLet x = true := by
        intro x H5 b5 hP5 hx h0
        have hZ5 := b5.1 _ _ hZ4 (Ne.symm npZ)
        refine ⟨_, hZ5, ?_, (b4.trans b5).set nZ, hP5.upd npZ ncZ, st ++ [x], ?_, ?_, ?_, ?_⟩
        · rw [sgs_len]
          exact small1000 (by omega)
        · rw [upd_same, ← sgs_app]
          rfl
        · rw [List.length_append, lst4]
          rfl
        · intro y hy
          rcases List.mem_append.mp hy with hy | hy
          · exact sg4 y hy
          · rw [List.mem_singleton.mp hy]
            exact hx
        · intro y hy
          cases st with
          | nil =>
            cases hy
            exact h0 lst4.symm
          | cons c0 r0 => exact le4 y hy
      refine ⟨_, rfl, _, rfl, rfl, decide (j = 0), zero_len j, ?_⟩
      by_cases hj0 : j = 0
      · rw [decide_eq_true hj0]
        refine iteT ?_
        refine ⟨_, rfl, p, c, L0, _, rfl, hP4, .inl (.inl hL4), by decide +kernel, by decide +kernel, fun H5 hb5 => .inl (.inl (hb5.1 _ _ hL4 (Ne.symm npL))), fun v H5 hv hP5 b5 => ?_⟩
        obtain ⟨x, hx, rfl⟩ := sgs_mem hv
        have hl : isLet x = true := decide_eq_true hx
        exact step x H5 b5 hP5 (let_sign hl) fun _ => hl
      · rw [decide_eq_false hj0]
        refine iteF ?_
        refine ⟨_, rfl, p, c, S0, _, rfl, hP4, .inl (.inl hS4), by decide +kernel, by decide +kernel, fun H5 hb5 => .inl (.inl (hb5.1 _ _ hS4 (Ne.symm npS))), fun v H5 hv hP5 b5 => ?_⟩
        obtain ⟨x, hx, rfl⟩ := sgs_mem hv
        exact step x H5 b5 hP5 (sign_in hx) fun z => absurd z hj0
    · rintro H4 ⟨b4, hP4, st, hZ4, lst4, sg4, le4⟩
      have hL4 := b4.1 _ _ hL3 (Ne.symm npL)
      have hF4 := b4.1 _ _ hF3 (Ne.symm npF)
      have bH4 := bH3.trans b4
      obtain ⟨pn, rfl⟩ : ∃ pn : Nat, pl = (pn : Int) := ⟨pl.toNat, by omega⟩
      have hpn : pn < 4 := by omega
      refine ⟨_, rfl, (many : Int), rfl, by omega, by omega, for_range (n := many) (fun i σ H5 => ∃ (ls : List Nat) (ws : List Str) (v7 v8 v9 v10 : Option V), σ = [some (.ref p), some (.int many), some (.ref L0), some (.ref S0), some (.int pn), some (.ref F0), some (.ref Z), v7, v8, v9, v10] ∧ But p H H5 ∧ Pot H5 p c ∧ H5 L0 = some (.lst (sgs ls)) ∧ H5 Z = some (.lst (sgs st)) ∧ H5 F0 = some (.lst (ws.map V.str)) ∧
        ls.Nodup ∧ (∀ x ∈ ls, isLet x = true) ∧ ls.length + i = 26 ∧ ws.length = i ∧ (∀ y ∈ ws, isNm y = true ∧ ∃ u, y.cps.toList[pn]? = some u ∧ u ∉ ls) ∧ ws.Nodup)
        ⟨c_LETTERS.cps.toList, [], none, none, none, none, rfl, bH4, hP4, hL4, hZ4, hF4, by decide +kernel, (fun x hx => decide_eq_true hx), by decide +kernel, rfl, (fun _ z => nomatch z), List.nodup_nil⟩ ?_ ?_⟩
      · rintro i σ H5 hi ⟨ls, ws, v7, v8, v9, v10, rfl, b5, hP5, hL5, hZ5, hF5, nd, le5, ln5, lw5, nm5, nw5⟩
        -- letter = letters.pop(..)
        refine ⟨_, rfl, .inl ⟨rfl, _, .inl (.inl hL5)⟩, _, rfl, _, rfl, L0, _, rfl, .inl (.inl (.inl hL5)), p, c, _, rfl, hP5, ?_, ?_, fun v H6 v0 v1 hP6 b6 => ?_⟩
        · rw [sgs_len]
          omega
        · rw [sgs_len]
          omega
        rw [sgs_len] at v1
        obtain ⟨j, rfl⟩ : ∃ j : Nat, v = (j : Int) := ⟨v.toNat, by omega⟩
        have hj : j < ls.length := by omega
        have hL6 := b6.1 _ _ hL5 (Ne.symm npL)
        have hZ6 := b6.1 _ _ hZ5 (Ne.symm npZ)
        have hF6 := b6.1 _ _ hF5 (Ne.symm npF)
        refine ⟨L0, _, _, j, V.str (oneS ls[j]), rfl, rfl, hL6, by omega, by omega, seq_nat (by rw [sgs_len]; exact hj), ?_, ?_⟩
        · unfold sgs
          rw [List.getElem?_map, List.getElem?_eq_getElem hj]
          rfl
        rw [sgs_erase]
        have hlet := le5 _ (List.getElem_mem hj)
        have hnot : ls[j] ∉ ls.eraseIdx j := erase_not nd hj
        have hL7 : upd H6 L0 (.lst (sgs (ls.eraseIdx j))) L0 = some (.lst (sgs (ls.eraseIdx j))) := upd_same
        have hZ7 : upd H6 L0 (.lst (sgs (ls.eraseIdx j))) Z = some (.lst (sgs st)) := by rw [upd_ne (Ne.symm nLZ)]; exact hZ6
        have hF7 : upd H6 L0 (.lst (sgs (ls.eraseIdx j))) F0 = some (.lst (ws.map V.str)) := by rw [upd_ne (Ne.symm nLF)]; exact hF6
        have hP7 : Pot (upd H6 L0 (.lst (sgs (ls.eraseIdx j)))) p c := hP6.upd npL ncL
        have b7 : But p H (upd H6 L0 (.lst (sgs (ls.eraseIdx j)))) := (b5.trans b6).set nL
        generalize upd H6 L0 (.lst (sgs (ls.eraseIdx j))) = H7 at hL7 hZ7 hF7 hP7 b7 ⊢
        -- word
        refine ⟨_, rfl, _, rfl, _, rfl, Z, _, rfl, .inl (.inl hZ7), fun a1 f1 => ?_⟩
        rw [cut_pre st pn (by omega)]
        refine ⟨_, rfl, by show 1 ≤ sizeLine; decide, fun a2 f2 => ?_⟩
        refine ⟨a1, a2, sgs (st.take pn), [V.str (oneS ls[j])], rfl, rfl, (same_upd f2) _ _ upd_same, upd_same, fits_few (by rw [sgs_len, List.length_take]; show _ + 1 ≤ _; omega), fun a3 f3 => ?_⟩
        refine ⟨_, rfl, _, rfl, _, _, rfl, rfl, _, rfl, Z, _, rfl, .inl (.inl (same_upd f3 _ _ (same_upd f2 _ _ (same_upd f1 _ _ hZ7)))), fun a4 f4 => ?_⟩
        rw [cut_post st pn (by omega)]
        refine ⟨a3, a4, _, sgs (st.drop (pn + 1)), rfl, rfl, (same_upd f4) _ _ upd_same, upd_same, fits_few (by rw [List.length_append, sgs_len, sgs_len, List.length_take, List.length_drop]; show _ + 1 + _ ≤ _; omega), fun a5 f5 => ?_⟩
        have eW : (sgs (st.take pn) ++ [V.str (oneS ls[j])]) ++ sgs (st.drop (pn + 1)) = sgs (wordOf st pn ls[j]) := by
          unfold wordOf
          rw [← sgs_app, ← sgs_app]
          rfl
        rw [eW]
        have s8 : Same H7 (upd _ a5 (.lst (sgs (wordOf st pn ls[j])))) := ((((same_upd f1).trans (same_upd f2)).trans (same_upd f3)).trans (same_upd f4)).trans (same_upd f5)
        have hF8 := s8 _ _ hF7
        have hP8 := hP7.same s8
        have hW8 : ∀ G : Hp, upd G a5 (.lst (sgs (wordOf st pn ls[j]))) a5 = some (.lst (sgs (wordOf st pn ls[j]))) := fun G => upd_same
        obtain ⟨ns7, p7, am7, sz7, hp7, hc7, hl7⟩ := id hP7
        have np5 : p ≠ a5 := fun z => by
          have y := ne_of_none (((((same_upd f1).trans (same_upd f2)).trans (same_upd f3)).trans (same_upd f4)) _ _ hp7) f5
          exact y z
        -- found.append(..)
        refine ⟨_, rfl, .inl ⟨rfl, _, .inl (.inl hF8)⟩, ⟨_, rfl⟩, ?_⟩
        refine ⟨_, rfl, _, rfl, _, _, rfl, rfl, _, rfl, _, rfl, _, _, rfl, rfl, p, c, _, rfl, hP8, by omega, by omega, fun b H9 b0 b1 hP9 b9 => ?_⟩
        obtain ⟨bn, rfl⟩ : ∃ bn : Nat, b = (bn : Int) := ⟨b.toNat, by omega⟩
        have hbn : pn + 1 + bn ≤ 8 := by omega
        have hW9 := b9.1 _ _ (hW8 _) (Ne.symm np5)
        have hF9 := b9.1 _ _ hF8 (Ne.symm npF)
        have hL9 := b9.1 _ _ (s8 _ _ hL7) (Ne.symm npL)
        have hZ9 := b9.1 _ _ (s8 _ _ hZ7) (Ne.symm npZ)
        have wl : (wordOf st pn ls[j]).length = 8 := word_len lst4 (by omega)
        refine ⟨_, _, rfl, rfl, _, rfl, a5, _, rfl, .inl (.inl hW9), fun a6 f6 => ?_⟩
        rw [cut_name _ pn bn (by omega), sgs_strs ((wordOf st pn ls[j]).take (pn + 1 + bn))]
        have hF10 := same_upd (o := .lst ((((wordOf st pn ls[j]).take (pn + 1 + bn)).map oneS).map V.str)) f6 _ _ hF9
        have s10 := same_upd (o := .lst ((((wordOf st pn ls[j]).take (pn + 1 + bn)).map oneS).map V.str)) f6
        have nm : isNm (Txt.join "" (((wordOf st pn ls[j]).take (pn + 1 + bn)).map oneS)) = true := name_of wl (by omega) hbn (fun y hy => word_first lst4 (by omega) hlet le4 hy) (word_signs (let_sign hlet) sg4)
        have at' : (Txt.join "" (((wordOf st pn ls[j]).take (pn + 1 + bn)).map oneS)).cps.toList[pn]? = some ls[j] := by
          rw [join_codes, List.getElem?_take_of_lt (by omega)]
          exact word_at lst4 (by omega)
        refine ⟨_, a6, _, rfl, rfl, .inl (.inl (.inl upd_same)), ones_sum (by rw [List.length_take]; omega), F0, _, _, rfl, rfl, hF10, ?_, ?_⟩
        · rw [List.length_map]
          exact small1000 (by omega)
        refine ⟨ls.eraseIdx j, ws ++ [Txt.join "" (((wordOf st pn ls[j]).take (pn + 1 + bn)).map oneS)], _, _, _, _, rfl, (((b7.same s8).trans b9).same s10).set nFH, ((hP9.same s10).upd npF ncF), ?_, ?_, ?_, ?_, ?_, ?_, ?_, ?_, ?_⟩
        · rw [upd_ne nLF]
          exact s10 _ _ hL9
        · rw [upd_ne (Ne.symm nFZ)]
          exact s10 _ _ hZ9
        · rw [upd_same, List.map_append]
          rfl
        · exact nd.sublist (List.eraseIdx_sublist ..)
        · exact fun x hx => le5 x (List.mem_of_mem_eraseIdx hx)
        · rw [List.length_eraseIdx_of_lt hj]
          omega
        · rw [List.length_append, lw5]
          rfl
        · intro y hy
          rcases List.mem_append.mp hy with hy | hy
          · obtain ⟨h1, u, h2, h3⟩ := nm5 y hy
            exact ⟨h1, u, h2, fun z => h3 (List.mem_of_mem_eraseIdx z)⟩
          · rw [List.mem_singleton.mp hy]
            exact ⟨nm, _, at', hnot⟩
        · refine List.nodup_append.mpr ⟨nw5, List.nodup_cons.mpr ⟨(fun z => nomatch z), List.nodup_nil⟩, fun y hy z hz => ?_⟩
          rw [List.mem_singleton.mp hz]
          intro e
          obtain ⟨_, u, h2, h3⟩ := nm5 y hy
          rw [e, at'] at h2
          cases h2
          exact h3 (List.getElem_mem hj)
      · rintro σ H5 ⟨ls, ws, v7, v8, v9, v10, rfl, b5, hP5, hL5, hZ5, hF5, nd, le5, ln5, lw5, nm5, nw5⟩
        exact ⟨_, rfl, q F0 ws H5 b5 hP5 nFH hF5 lw5 (fun y hy => (nm5 y hy).1) nw5⟩
end
end My.Kn

namespace My.Kn
open PySem PySem.Spec PyProof.Rows L2
theorem Prs.snoc {H : Hp} {rs : List Addr} {ks : List (Str × Int)} {r : Addr} {p : Str × Int} (h : Prs H rs ks) (e : Rd H r (.tup [.str p.1, .int p.2])) : Prs H (rs ++ [r]) (ks ++ [p]) := by
  induction h with
  | nil => exact .cons e .nil
  | cons x _ ih => exact .cons x ih
/-- what grows at Y (a list) leaves the pairs as they are -/
theorem Prs.grow {H : Hp} {Y : Addr} {xs : List V} {o : HO} {rs : List Addr} {ks : List (Str × Int)} (h : Prs H rs ks) (hY : H Y = some (.lst xs)) : Prs (L2.upd H Y o) rs ks := by
  induction h with
  | nil => exact .nil
  | cons x _ ih =>
    refine .cons ?_ ih
    rcases x with x | ⟨o2, x⟩
    · refine .inl ?_
      rw [upd_ne fun z => ?_]
      · exact x
      · rw [z, hY] at x
        cases x
    · refine .inr ⟨o2, ?_⟩
      rw [upd_ne fun z => ?_]
      · exact x
      · rw [z, hY] at x
        cases x
/-- a: a new tuple of pairs, its object told -/
def KindF (H : Hp) (a : Addr) (ks : List (Str × Int)) : Prop := ∃ rs o, H a = some (.frz o (.tup (rs.map V.ref))) ∧ o.dict = none ∧ Prs H rs ks
theorem KindF.at {H : Hp} {a : Addr} {ks : List (Str × Int)} (h : KindF H a ks) : KindAt H a ks := by
  obtain ⟨rs, o, e, _, p⟩ := h
  exact ⟨rs, .inr ⟨o, e⟩, p⟩
theorem KindF.same {H H' : Hp} {a : Addr} {ks : List (Str × Int)} (h : KindF H a ks) (s : Same H H') : KindF H' a ks := by
  obtain ⟨rs, o, e, d, p⟩ := h
  exact ⟨rs, o, s _ _ e, d, p.same s⟩
/-- a right kind -/
def Right (ks : List (Str × Int)) : Prop := (2 ≤ ks.length ∧ ks.length ≤ 8) ∧ okK ks = true ∧ ∀ q ∈ ks, isNm q.1 = true ∧ 0 ≤ q.2 ∧ q.2 ≤ 4
def spKind : Sp := fun vs H Q _ => ∃ (p c : Addr), vs = [.ref p] ∧ Pot H p c ∧ ∀ (a : Addr) (ks : List (Str × Int)) (H' : Hp), But p H H' → Pot H' p c → H a = none → KindF H' a ks → Right ks → Q (.ref a) H'
theorem cutI (ns : List Int) (lo hi : Option Int) : cutV (ns.map V.int) lo hi = ((ns.drop (HT.sIx ns.length 0 lo)).take (HT.sIx ns.length ns.length hi - HT.sIx ns.length 0 lo)).map V.int := cut_map ns lo hi
theorem cutI_pre (ns : List Int) (n : Nat) (h : n ≤ ns.length) : cutV (ns.map V.int) none (some (n : Int)) = (ns.take n).map V.int := by
  rw [cutI, HT.sIx_none, HT.sIx_nat, Nat.sub_zero, List.drop_zero, Nat.min_eq_left h]
theorem cutI_post (ns : List Int) (n : Nat) (h : n ≤ ns.length) : cutV (ns.map V.int) (some (n : Int)) none = (ns.drop n).map V.int := by
  rw [cutI, HT.sIx_none, HT.sIx_nat, Nat.min_eq_left h, List.take_of_length_le (by rw [List.length_drop]; exact Nat.le_refl _)]
section
variable {P : Program} {w : World} {K : PySem.W.Frag} {mg : Str → Option Value} {base : Heap}
theorem ok_some_kind {f fb fp fn : Addr} {fd fdb fdp fdn : FuncData} {k : Nat} (F : Fun K "_law_some_kind" "_law_some_kind" s_law_some_kind f fd) (T : TxtM mg) (F__law_below : Fun K "_law_below" "_law_below" s_law_below fb fdb) (b__law_below : Binds K fdb ["pot", "bound"] []) (g__law_below : mg "_law_below" = some (.ref fb))
    (G__law_below : FnOk P w K mg base CX0 2 fb fdb ["pot", "bound"] spBelow) (F__law_pick : Fun K "_law_pick" "_law_pick" s_law_pick fp fdp) (b__law_pick : Binds K fdp ["pot", "items"] []) (g__law_pick : mg "_law_pick" = some (.ref fp))
    (G__law_pick : FnOk P w K mg base CX0 3 fp fdp ["pot", "items"] (spPick K)) (F__law_some_names : Fun K "_law_some_names" "_law_some_names" s_law_some_names fn fdn) (b__law_some_names : Binds K fdn ["pot", "many"] []) (g__law_some_names : mg "_law_some_names" = some (.ref fn))
    (G__law_some_names : FnOk P w K mg base CX0 4 fn fdn ["pot", "many"] spNames) : FnOk P w K mg base CX0 (k + 5) f fd ["pot"] spKind := by
  refine F.ok sc_law_some_kind (fun vs H Q E h => ?_) (fun cdv A outer s H vs Q E hr h => ?_)
  · obtain ⟨p, c, rfl, _⟩ := h
    rfl
  · obtain ⟨p, c, rfl, hP, q⟩ := h
    refine ⟨_, (pss_cons (ps_set (i := 1) sc_law_some_kind.nd rfl (.inl rfl) (pe_op op_add pe_int (pe_call G__law_below (hr.mono (by omega)) (by rfl) g__law_below F__law_below.kp b__law_below .nil pass0 (pa_cons (pv 0) (pa_cons pe_int pa_nil)))))
  (pss_cons (ps_set (i := 2) sc_law_some_kind.nd rfl (.inl rfl) (pe_op op_cat (pe_lst (pa_cons pe_int (pa_cons (pe_op op_add pe_int (pe_call G__law_below (hr.mono (by omega)) (by rfl) g__law_below F__law_below.kp b__law_below .nil pass0 (pa_cons (pv 0) (pa_cons pe_int pa_nil)))) pa_nil))) (pe_lc (own := [("turn", 4)]) (g := gName 4) rfl sc_law_some_kind.nd (pi_range1 (by rfl) T.n_range (pa_cons (pe_op op_sub (pv 1) pe_int) pa_nil)) (blkOk_by (own := [("turn", 4)]) (N := ["pot", "many", "numbers", "at", "turn", "tag", "number"]) (sc := defScope s_law_some_kind) (by decide +kernel)) (fun _ _ _ _ _ => (pg_name (i := 4) sc_law_some_kind.nd rfl (.inl rfl))) (fun _ _ _ _ _ => pts_nil) (fun _ _ _ _ _ => (pe_call G__law_pick (hr.mono (by omega)) (by rfl) g__law_pick F__law_pick.kp b__law_pick .nil pass0 (pa_cons (pv 0) (pa_cons (pe_lst (pa_cons pe_int (pa_cons pe_int (pa_cons pe_int (pa_cons pe_int (pa_cons pe_int (pa_cons pe_int (pa_cons pe_int pa_nil)))))))) pa_nil)))))))
  (pss_cons (ps_set (i := 3) sc_law_some_kind.nd rfl (.inl rfl) (pe_call G__law_below (hr.mono (by omega)) (by rfl) g__law_below F__law_below.kp b__law_below .nil pass0 (pa_cons (pv 0) (pa_cons (pv 1) pa_nil))))
  (pss_cons (ps_set (i := 2) sc_law_some_kind.nd rfl (.inl rfl) (pe_op op_cat (pe_slice sl_list (pv 2) (po_some (pv 3)) po_none) (pe_slice sl_list (pv 2) po_none (po_some (pv 3)))))
  (pss_one (ps_ret (pe_callTy call_tupleF (by rfl) T.n_tuple (by decide +kernel) (pa_cons (pe_lc (own := [("tag", 5), ("number", 6)]) (g := gTup K 2 (gCons (gName 5) (gCons (gName 6) gNil))) rfl sc_law_some_kind.nd (pi_zip (by rfl) T.n_zip (pa_cons (pe_call G__law_some_names (hr.mono (by omega)) (by rfl) g__law_some_names F__law_some_names.kp b__law_some_names .nil pass0 (pa_cons (pv 0) (pa_cons (pv 1) pa_nil))) (pa_cons (pv 2) pa_nil))) (blkOk_by (own := [("tag", 5), ("number", 6)]) (N := ["pot", "many", "numbers", "at", "turn", "tag", "number"]) (sc := defScope s_law_some_kind) (by decide +kernel)) (fun _ _ _ _ _ => (pg_tup rfl (pgs_cons (pg_name (i := 5) sc_law_some_kind.nd rfl (.inl rfl)) (pgs_cons (pg_name (i := 6) sc_law_some_kind.nd rfl (.inl rfl)) pgs_nil)))) (fun _ _ _ _ _ => pts_nil) (fun _ _ _ _ _ => (pe_tup (pa_cons (pv 5) (pa_cons (pv 6) pa_nil))))) pa_nil)))))))), ?_⟩
    -- many
    refine ⟨_, rfl, p, c, 7, rfl, hP, by decide, by decide, fun v H1 v0 v1 hP1 b1 => ⟨_, _, rfl, rfl, ?_⟩⟩
    obtain ⟨vn, rfl⟩ : ∃ vn : Nat, v = (vn : Int) := ⟨v.toNat, by omega⟩
    have hvn : vn < 7 := by omega
    -- numbers
    refine ⟨_, rfl, p, c, 3, rfl, hP1, by decide, by decide, fun u H2 u0 u1 hP2 b2 => ⟨_, _, rfl, rfl, by show 2 ≤ sizeLine; decide, fun a1 f1 => ?_⟩⟩
    have bH2 := b1.trans b2
    have s3 := same_upd (o := .lst [.int 0, .int (2 + u)]) f1
    have hP3 := hP2.same s3
    have h1a : upd H2 a1 (.lst [.int 0, .int (2 + u)]) a1 = some (.lst [.int 0, .int (2 + u)]) := upd_same
    obtain ⟨ns2, p2', am2, sz2, hp2, hc2, hl2⟩ := id hP2
    have np1 : p ≠ a1 := ne_of_none hp2 f1
    have b3 := bH2.same s3
    refine ⟨_, rfl, _, _, rfl, rfl, (2 + (vn : Int)) - 2, rfl, by omega, by omega, fun Z nZ => ?_⟩
    have npZ : p ≠ Z := ne_of_none (s3 _ _ hp2) nZ
    have ncZ : c ≠ Z := ne_of_none (s3 _ _ hc2) nZ
    have nZH : H Z = none := b3.free nZ
    have sZ := same_upd (o := .lst []) nZ
    refine lc_range (n := ((2 + (vn : Int)) - 2).toNat) (fun j H4 => But p _ H4 ∧ Pot H4 p c ∧ ∃ ns : List Int, H4 Z = some (.lst (ns.map V.int)) ∧ ns.length = j ∧ ∀ n ∈ ns, 0 ≤ n ∧ n ≤ 4) ⟨But.of (sZ _ _ (s3 _ _ hp2)) sZ, hP3.same sZ, [], upd_same, rfl, fun _ z => nomatch z⟩ ?_ ?_
    · rintro j H4 hj ⟨b4, hP4, ns, hZ4, ln, all⟩
      refine ⟨rfl, ?_⟩
      unfold tYes
      dsimp only
      rw [if_pos rfl]
      refine ⟨_, rfl, by show 7 ≤ sizeLine; decide, fun l nl => ?_⟩
      have sl := same_upd (o := .lst [.int 0, .int 0, .int 1, .int 1, .int 2, .int 3, .int 4]) nl
      obtain ⟨ns4, p4, am4, sz4, hp4, hc4, hl4⟩ := id hP4
      have npl : p ≠ l := ne_of_none hp4 nl
      refine ⟨p, c, l, _, rfl, hP4.same sl, .inl (.inl upd_same), (fun z => nomatch z), by show 7 < 1073741824; decide, fun H' hb => .inl (.inl (hb.1 _ _ upd_same (Ne.symm npl))), fun x H5 hx hP5 b5 => ?_⟩
      obtain ⟨n, rfl, n0, n4⟩ : ∃ n : Int, x = .int n ∧ 0 ≤ n ∧ n ≤ 4 := by
        simp only [List.mem_cons, List.not_mem_nil, or_false] at hx
        rcases hx with rfl | rfl | rfl | rfl | rfl | rfl | rfl <;> exact ⟨_, rfl, by decide, by decide⟩
      have hZ5 := b5.1 _ _ (sl _ _ hZ4) (Ne.symm npZ)
      refine ⟨_, hZ5, ?_, ((b4.same sl).trans b5).set nZ, hP5.upd npZ ncZ, ns ++ [n], ?_, ?_, ?_⟩
      · rw [List.length_map, ln]
        exact small1000 (by omega)
      · rw [upd_same, List.map_append]
        rfl
      · rw [List.length_append, ln]
        rfl
      · intro y hy
        rcases List.mem_append.mp hy with hy | hy
        · exact all y hy
        · rw [List.mem_singleton.mp hy]
          exact ⟨n0, n4⟩
    · rintro H4 ⟨b4, hP4, ns, hZ4, ln, all⟩
      have lnn : ns.length = vn := by omega
      have h1b := b4.1 _ _ h1a (Ne.symm np1)
      refine ⟨a1, Z, _, ns.map V.int, rfl, rfl, h1b, hZ4, fits_few (by rw [List.length_map]; show 2 + _ ≤ _; omega), fun a2 f2 => ?_⟩
      have eN : ([V.int 0, V.int (2 + u)] ++ ns.map V.int) = ((0 : Int) :: (2 + u) :: ns).map V.int := rfl
      generalize hnn : ((0 : Int) :: (2 + u) :: ns) = nn at eN
      have lN : nn.length = 2 + vn := by
        rw [← hnn, List.length_cons, List.length_cons]
        omega
      have zN : (0 : Int) ∈ nn := by
        rw [← hnn]
        exact List.mem_cons_self
      have tN : ∃ x ∈ nn, 2 ≤ x := ⟨2 + u, by rw [← hnn]; exact List.mem_cons_of_mem _ List.mem_cons_self, by omega⟩
      have aN : ∀ x ∈ nn, 0 ≤ x ∧ x ≤ 4 := by
        intro x hx
        rw [← hnn] at hx
        rcases List.mem_cons.mp hx with rfl | hx
        · exact ⟨by decide, by decide⟩
        · rcases List.mem_cons.mp hx with rfl | hx
          · exact ⟨by omega, by omega⟩
          · exact all x hx
      rw [eN]
      have s4 := same_upd (o := .lst (nn.map V.int)) f2
      have hP5 := hP4.same s4
      have h2a : upd H4 a2 (.lst (nn.map V.int)) a2 = some (.lst (nn.map V.int)) := upd_same
      obtain ⟨ns4, p4, am4, sz4, hp4, hc4, hl4⟩ := id hP4
      have np2 : p ≠ a2 := ne_of_none hp4 f2
      have bH5 := (b3.trans b4).same s4
      generalize upd H4 a2 (.lst (nn.map V.int)) = H5 at s4 hP5 h2a bH5 ⊢
      -- at
      refine ⟨_, rfl, _, rfl, p, c, _, rfl, hP5, by omega, by omega, fun t H6 t0 t1 hP6 b6 => ?_⟩
      obtain ⟨tn, rfl⟩ : ∃ tn : Nat, t = (tn : Int) := ⟨t.toNat, by omega⟩
      have htn : tn ≤ nn.length := by omega
      have h2b := b6.1 _ _ h2a (Ne.symm np2)
      have bH6 := bH5.trans b6
      -- numbers[at:] + numbers[:at]
      refine ⟨_, rfl, _, rfl, _, rfl, a2, _, rfl, .inl (.inl h2b), fun a3 f3 => ?_⟩
      rw [cutI_post nn tn htn]
      have s7 := same_upd (o := .lst ((nn.drop tn).map V.int)) f3
      refine ⟨_, rfl, _, rfl, _, rfl, a2, _, rfl, .inl (.inl (s7 _ _ h2b)), fun a4 f4 => ?_⟩
      rw [cutI_pre nn tn htn]
      have s8 := same_upd (o := .lst ((nn.take tn).map V.int)) f4
      refine ⟨a3, a4, _, _, rfl, rfl, s8 _ _ upd_same, upd_same, fits_few (by rw [List.length_map, List.length_map, List.length_drop, List.length_take]; omega), fun a5 f5 => ?_⟩
      rw [← List.map_append]
      have s9 := same_upd (o := .lst ((nn.drop tn ++ nn.take tn).map V.int)) f5
      generalize hrot : nn.drop tn ++ nn.take tn = rot at s9 ⊢
      have mem : ∀ x, x ∈ rot ↔ x ∈ nn := fun x => by
        rw [← hrot, List.mem_append, Or.comm, ← List.mem_append, List.take_append_drop]
      have lR : rot.length = 2 + vn := by
        rw [← hrot, List.length_append, List.length_drop, List.length_take]
        omega
      have s69 := (s7.trans s8).trans s9
      have hP9 := hP6.same s69
      have h5a : ∀ G : Hp, upd G a5 (.lst (rot.map V.int)) a5 = some (.lst (rot.map V.int)) := fun G => upd_same
      obtain ⟨ns6, p6, am6, sz6, hp6, hc6, hl6⟩ := id hP6
      have np5 : p ≠ a5 := fun z => by
        have y := ne_of_none ((s7.trans s8) _ _ hp6) f5
        exact y z
      have bH9 := bH6.same s69
      -- tuple([(tag, number) for tag, number in zip(..)])
      refine ⟨_, rfl, _, rfl, p, c, 2 + vn, rfl, hP9, by omega, fun l ws H10 b10 hP10 nl hl lw nm nw => ?_⟩
      have h5b := b10.1 _ _ (h5a _) (Ne.symm np5)
      have bH10 := bH9.trans b10
      have nlr : ws.length = rot.length := by omega
      refine ⟨_, rfl, l, a5, _, _, rfl, .inl (.inl hl), .inl (.inl h5b), fun Y nY => ?_⟩
      have nYH : H Y = none := bH10.free nY
      refine lc_it (walk_zip (n := 2 + vn) (xs := ws.map V.str) (ys := rot.map V.int) (by rw [List.length_map, List.length_map]; omega)) (fun i H11 => Same H10 H11 ∧ ∃ rs : List Addr, H11 Y = some (.lst (rs.map V.ref)) ∧ Prs H11 rs ((ws.zip rot).take i)) ⟨same_upd nY, [], upd_same, .nil⟩ (fun i H11 _ h => ⟨.inl (.inl (h.1 _ _ hl)), .inl (.inl (h.1 _ _ h5b))⟩) ?_ ?_
      · rintro i x H11 H12 hi ⟨s11, rs, hY, pr⟩ ⟨T4, x4, y4, rfl, nT, rfl, ex, ey⟩
        have ex : (ws.map V.str)[i]? = some x4 := ex
        have ey : (rot.map V.int)[i]? = some y4 := ey
        rw [List.getElem?_map, List.getElem?_eq_getElem (show i < ws.length by omega)] at ex
        obtain rfl : V.str ws[i] = x4 := Option.some.inj ex
        obtain ⟨n, rfl, hn⟩ := int_item ey
        have hz : (ws.zip rot)[i]? = some (ws[i], n) := by
          rw [List.getElem?_zip_eq_some]
          exact ⟨List.getElem?_eq_getElem (show i < ws.length by omega), hn⟩
        refine ⟨T4, _, rfl, .inl (.inl upd_same), rfl, _, _, rfl, _, _, rfl, rfl, rfl, ?_⟩
        unfold tYes
        dsimp only
        rw [if_pos rfl]
        have sT := same_upd (o := .tup [.str ws[i], .int n]) nT
        refine ⟨_, rfl, _, rfl, by show 2 ≤ sizeLine; decide, fun r nr => ?_⟩
        have sr := same_upd (o := .tup [.str ws[i], .int n]) nr
        have prl := pr.length
        have nYr : r ≠ Y := fun z => by
          have y := ne_of_none (sT _ _ hY) nr
          exact y z.symm
        refine ⟨_, sr _ _ (sT _ _ hY), ?_, same_at ((s11.trans sT).trans sr) nY, rs ++ [r], ?_, ?_⟩
        · rw [List.length_map, prl, List.length_take]
          exact small1000 (by omega)
        · rw [upd_same, List.map_append]
          rfl
        · rw [List.take_succ, hz]
          refine Prs.snoc ?_ ?_
          · exact ((pr.same sT).same sr).grow (sr _ _ (sT _ _ hY))
          · exact .inl (by rw [upd_ne nYr, upd_same])
      · rintro H11 ⟨s11, rs, hY, pr⟩
        have lz : (ws.zip rot).length = 2 + vn := by rw [List.length_zip]; omega
        rw [← lz, List.take_length] at pr
        refine ⟨Y, _, rfl, .inl (.inl hY), fun a ob na nob => ?_⟩
        have sa := same_upd (o := .frz ob (.tup (rs.map V.ref))) na
        have e1 : (ws.zip rot).map (·.1) = ws := List.map_fst_zip (by omega)
        have e2 : (ws.zip rot).map (·.2) = rot := List.map_snd_zip (by omega)
        refine q a (ws.zip rot) _ ((bH10.same s11).same sa) ((hP10.same s11).same sa) ((bH10.same s11).free na) ⟨rs, ob, upd_same, nob, pr.same sa⟩ ⟨by omega, ?_, ?_⟩
        · unfold okK
          rw [e1, e2, decide_eq_true nw, decide_eq_true ((mem 0).mpr zN), Bool.true_and, Bool.true_and, List.any_eq_true]
          obtain ⟨x, hx, h2⟩ := tN
          exact ⟨x, (mem x).mpr hx, decide_eq_true h2⟩
        · rintro ⟨y, n⟩ hq
          obtain ⟨m1, m2⟩ := List.of_mem_zip hq
          exact ⟨nm y m1, aN n ((mem n).mp m2)⟩
end
end My.Kn

namespace My
open PySem PySem.Spec PyProof.Rows L2
/-! ### polynomials: sums of shifted multiples, division with rest -/
theorem row_get (j : Nat) (x : Int) : ∀ (bs : List Int) (k : Nat) (L : List Int) (m : Nat), j + k + bs.length ≤ L.length → (mulRow j x k bs L).getD m 0 = L.getD m 0 + if j + k ≤ m then x * bs.getD (m - (j + k)) 0 else 0
  | [], k, L, m, _ => by
    show L.getD m 0 = _
    rw [List.getD_nil, Int.mul_zero]
    split <;> omega
  | y :: r, k, L, m, h => by
    rw [List.length_cons] at h
    show (mulRow j x (k + 1) r (L.set (j + k) _)).getD m 0 = _
    rw [row_get j x r (k + 1) _ m (by rw [List.length_set]; omega), getD_set]
    by_cases e : j + k = m
    · subst e
      rw [if_pos ⟨rfl, by omega⟩, if_neg (by omega), if_pos (Nat.le_refl _), Nat.sub_self]
      show _ = _ + x * y
      omega
    · rw [if_neg (fun z => e z.1)]
      by_cases g : j + k ≤ m
      · rw [if_pos (by omega), if_pos g]
        obtain ⟨i, hi⟩ : ∃ i, m - (j + k) = i + 1 := ⟨m - (j + k) - 1, by omega⟩
        rw [hi, show m - (j + (k + 1)) = i by omega]
        rfl
      · rw [if_neg (by omega), if_neg g]
theorem getD_off {L : List Int} {k : Nat} (h : L.length ≤ k) : L.getD k 0 = 0 := by
  rw [List.getD_eq_getElem?_getD, List.getElem?_eq_none h]
  rfl
/-- F shifted by j, at k -/
def shF (F : List Int) (k j : Nat) : Int := if j ≤ k then F.getD (k - j) 0 else 0
/-- the sum of the first m multiples of shifted F -/
def cv (q : Nat → Int) (F : List Int) : Nat → Nat → Int
  | 0, _ => 0
  | m + 1, k => cv q F m k + q m * shF F k m
theorem cv_ext {q p : Nat → Int} {F : List Int} : ∀ {m : Nat}, (∀ j, j < m → q j = p j) → ∀ k, cv q F m k = cv p F m k
  | 0, _, _ => rfl
  | m + 1, h, k => by
    show cv q F m k + q m * _ = cv p F m k + p m * _
    rw [cv_ext (fun j hj => h j (by omega)) k, h m (by omega)]
theorem cv_more {q : Nat → Int} {F : List Int} {m : Nat} (h : ∀ j, m ≤ j → q j = 0) (k : Nat) : ∀ n, cv q F (m + n) k = cv q F m k
  | 0 => rfl
  | n + 1 => by
    show cv q F (m + n) k + q (m + n) * _ = _
    rw [cv_more h k n, h (m + n) (by omega), Int.zero_mul, Int.add_zero]
theorem cv_hi {q : Nat → Int} {F : List Int} {k : Nat} : ∀ {m : Nat}, m + F.length ≤ k + 1 → cv q F m k = 0
  | 0, _ => rfl
  | m + 1, h => by
    show cv q F m k + q m * shF F k m = 0
    rw [cv_hi (by omega), shF, if_pos (by omega), getD_off (by omega), Int.mul_zero]
    rfl
theorem cv_sub {q p : Nat → Int} {F : List Int} (k : Nat) : ∀ m, cv (fun j => q j - p j) F m k = cv q F m k - cv p F m k
  | 0 => rfl
  | m + 1 => by
    show cv (fun j => q j - p j) F m k + (q m - p m) * _ = _ + _ - (_ + _)
    rw [cv_sub k m, Int.sub_mul]
    omega
theorem cv_add {q p : Nat → Int} {F : List Int} (k : Nat) : ∀ m, cv (fun j => q j + p j) F m k = cv q F m k + cv p F m k
  | 0 => rfl
  | m + 1 => by
    show cv (fun j => q j + p j) F m k + (q m + p m) * _ = _ + _ + (_ + _)
    rw [cv_add k m, Int.add_mul]
    omega
/-- a list's factors, 0 behind its end -/
abbrev fn (L : List Int) : Nat → Int := fun j => L.getD j 0
/-- a polynomial by which is divided: its degree, its factor there -/
structure Lead (F : List Int) (deg : Nat) (c : Int) : Prop where
  len : F.length = deg + 1
  top : F.getD deg 0 = c
  pos : 0 < c
theorem cv_top {q : Nat → Int} {F : List Int} {deg : Nat} {c : Int} (L : Lead F deg c) (m : Nat) : cv q F (m + 1) (m + deg) = q m * c := by
  show cv q F m (m + deg) + q m * shF F (m + deg) m = _
  rw [cv_hi (by rw [L.len]; omega), shF, if_pos (by omega), show m + deg - m = deg by omega, L.top, Int.zero_add]
theorem small_zero {x c : Int} (hc : 0 < c) (h1 : -c < x * c) (h2 : x * c < c) : x = 0 := by
  rcases Int.lt_trichotomy x 0 with h | h | h
  · have : x * c ≤ -1 * c := Int.mul_le_mul_of_nonneg_right (by omega) (by omega)
    omega
  · exact h
  · have : 1 * c ≤ x * c := Int.mul_le_mul_of_nonneg_right (by omega) (by omega)
    omega
/-- a multiple with small factors up there is 0 -/
theorem cv_zero {q : Nat → Int} {F : List Int} {deg : Nat} {c : Int} (L : Lead F deg c) : ∀ m, (∀ k, deg ≤ k → -c < cv q F m k ∧ cv q F m k < c) → ∀ k, cv q F m k = 0
  | 0, _, _ => rfl
  | m + 1, h, k => by
    have t := h (m + deg) (by omega)
    rw [cv_top L] at t
    have z := small_zero L.pos t.1 t.2
    have e : ∀ k, cv q F (m + 1) k = cv q F m k := fun k => by
      show cv q F m k + q m * _ = _
      rw [z, Int.zero_mul, Int.add_zero]
    rw [e]
    exact cv_zero L m (fun k hk => by rw [← e]; exact h k hk) k
/-- a multiple that ends is one of so many shifts -/
theorem cv_cut {q : Nat → Int} {F : List Int} {deg : Nat} {c : Int} (L : Lead F deg c) {N : Nat} : ∀ m, (∀ k, N ≤ k → cv q F m k = 0) → ∃ p, (∀ j, N - deg ≤ j → p j = 0) ∧ ∀ k, cv q F m k = cv p F (N - deg) k
  | 0, _ => ⟨fun _ => 0, fun _ _ => rfl, fun k => by
    show 0 = _
    have : ∀ m, cv (fun _ => 0) F m k = 0 := fun m => by
      induction m with
      | zero => rfl
      | succ m ih =>
        show cv _ F m k + 0 * _ = 0
        rw [ih, Int.zero_mul]
        rfl
    rw [this]⟩
  | m + 1, h => by
    by_cases g : N ≤ m + deg
    · have t := h (m + deg) g
      rw [cv_top L] at t
      have z : q m = 0 := by
        rcases Int.mul_eq_zero.mp t with z | z
        · exact z
        · have := L.pos
          omega
      have e : ∀ k, cv q F (m + 1) k = cv q F m k := fun k => by
        show cv q F m k + q m * _ = _
        rw [z, Int.zero_mul, Int.add_zero]
      obtain ⟨p, p0, hp⟩ := cv_cut L m fun k hk => by rw [← e]; exact h k hk
      exact ⟨p, p0, fun k => by rw [e, hp]⟩
    · refine ⟨fun j => if j < m + 1 then q j else 0, fun j hj => if_neg (by omega), fun k => ?_⟩
      obtain ⟨n, hn⟩ : ∃ n, N - deg = (m + 1) + n := ⟨N - deg - (m + 1), by omega⟩
      rw [hn, cv_more (fun j hj => if_neg (by omega)) k n]
      exact cv_ext (fun j hj => (if_pos hj).symm) k
/-! ### division as the loop does it -/
def divGo (F : List Int) (c : Int) (deg : Nat) : Nat → List Int → List Int → List Int × List Int
  | 0, Q, R => (Q, R)
  | n + 1, Q, R => divGo F c deg n (Q.set n (R.getD (deg + n) 0 / c)) (mulRow n (-(R.getD (deg + n) 0 / c)) 0 F R)
structure Divd (F : List Int) (c : Int) (deg n : Nat) (Q R Q' R' : List Int) : Prop where
  lq : Q'.length = Q.length
  lr : R'.length = R.length
  eq : ∀ k, R.getD k 0 = R'.getD k 0 + cv (fn Q') F n k
  lo : ∀ k, deg ≤ k → k < deg + n → 0 ≤ R'.getD k 0 ∧ R'.getD k 0 < c
  hi : ∀ k, deg + n ≤ k → R'.getD k 0 = R.getD k 0
  qh : ∀ j, n ≤ j → Q'.getD j 0 = Q.getD j 0
theorem div_go {F : List Int} {c : Int} {deg : Nat} (L : Lead F deg c) : ∀ (n : Nat) (Q R : List Int), n ≤ Q.length → deg + n ≤ R.length → Divd F c deg n Q R (divGo F c deg n Q R).1 (divGo F c deg n Q R).2
  | 0, Q, R, _, _ => ⟨rfl, rfl, fun k => by show R.getD k 0 = R.getD k 0 + 0; omega, fun k h1 h2 => by omega, fun _ _ => rfl, fun _ _ => rfl⟩
  | n + 1, Q, R, hq, hr => by
    show Divd F c deg (n + 1) Q R (divGo F c deg n (Q.set n _) (mulRow n _ 0 F R)).1 (divGo F c deg n (Q.set n _) (mulRow n _ 0 F R)).2
    have ht : ∃ t, R.getD (deg + n) 0 / c = t := ⟨_, rfl⟩
    obtain ⟨t, ht⟩ := ht
    rw [ht]
    have I := div_go L n (Q.set n t) (mulRow n (-t) 0 F R) (by rw [List.length_set]; omega) (by rw [row_len]; omega)
    generalize (divGo F c deg n (Q.set n t) (mulRow n (-t) 0 F R)).1 = Q' at I
    generalize (divGo F c deg n (Q.set n t) (mulRow n (-t) 0 F R)).2 = R' at I
    have g : ∀ k, (mulRow n (-t) 0 F R).getD k 0 = R.getD k 0 - t * shF F k n := fun k => by
      rw [row_get n (-t) F 0 R k (by rw [L.len]; omega), shF]
      show _ + (if n ≤ k then -t * F.getD (k - n) 0 else 0) = _
      by_cases z : n ≤ k
      · rw [if_pos z, if_pos z, Int.neg_mul]
        omega
      · rw [if_neg z, if_neg z, Int.mul_zero]
        omega
    have qn : Q'.getD n 0 = t := by
      rw [I.qh n (Nat.le_refl n), getD_set, if_pos ⟨rfl, by omega⟩]
    have top : shF F (deg + n) n = c := by
      rw [shF, if_pos (by omega), show deg + n - n = deg by omega, L.top]
    refine ⟨by rw [I.lq, List.length_set], by rw [I.lr, row_len], fun k => ?_, fun k h1 h2 => ?_, fun k h => ?_, fun j hj => ?_⟩
    · have e := I.eq k
      rw [g] at e
      show _ = _ + (cv (fn Q') F n k + fn Q' n * shF F k n)
      rw [show fn Q' n = t from qn]
      omega
    · by_cases z : k < deg + n
      · exact I.lo k h1 z
      · have e : k = deg + n := by omega
        rw [I.hi k (by omega), g, e, top, ← ht, Int.mul_comm]
        have p := L.pos
        have m := Int.emod_add_mul_ediv (R.getD (deg + n) 0) c
        have m1 := Int.emod_nonneg (R.getD (deg + n) 0) (show c ≠ 0 by omega)
        have m2 := Int.emod_lt_of_pos (R.getD (deg + n) 0) p
        omega
    · rw [I.hi k (by omega), g, shF, if_pos (by omega), getD_off (L := F) (by rw [L.len]; omega), Int.mul_zero]
      omega
    · rw [I.qh j (by omega), getD_set, if_neg (by omega)]
/-- what the loop of divided makes: the quotient's and the rest's factors -/
def divL (fs F : List Int) (deg : Nat) (c : Int) : List Int × List Int := divGo F c deg (fs.length - deg) (List.replicate fs.length 0) fs
def restL (fs F : List Int) (deg : Nat) (c : Int) : List Int := trimN (divL fs F deg c).2
structure IsRest (fs F : List Int) (deg : Nat) (c : Int) (r : List Int) : Prop where
  eq : ∃ q m, ∀ k, fs.getD k 0 = r.getD k 0 + cv q F m k
  lo : ∀ k, deg ≤ k → 0 ≤ r.getD k 0 ∧ r.getD k 0 < c
  tr : trimN r = r
theorem div_at {fs F : List Int} {deg : Nat} {c : Int} (L : Lead F deg c) (h : deg ≤ fs.length ∨ True) : IsRest fs F deg c (restL fs F deg c) := by
  by_cases g : deg ≤ fs.length
  · have D := div_go L (fs.length - deg) (List.replicate fs.length 0) fs (by rw [List.length_replicate]; omega) (by omega)
    refine ⟨⟨fn (divGo F c deg (fs.length - deg) (List.replicate fs.length 0) fs).1, fs.length - deg, fun k => ?_⟩, fun k hk => ?_, ?_⟩
    · unfold restL divL
      rw [getD_trim]
      exact D.eq k
    · unfold restL divL
      rw [getD_trim]
      by_cases z : k < deg + (fs.length - deg)
      · exact D.lo k hk z
      · rw [D.hi k (by omega), getD_off (by omega)]
        exact ⟨Int.le_refl _, L.pos⟩
    · unfold restL
      exact trim_ext fun k => getD_trim _ k
  · have e : divL fs F deg c = (List.replicate fs.length 0, fs) := by
      unfold divL
      rw [show fs.length - deg = 0 by omega]
      rfl
    refine ⟨⟨fun _ => 0, 0, fun k => ?_⟩, fun k hk => ?_, ?_⟩
    · unfold restL
      rw [e, getD_trim]
      show fs.getD k 0 = fs.getD k 0 + 0
      omega
    · unfold restL
      rw [e, getD_trim, show (List.replicate fs.length (0 : Int), fs).2 = fs from rfl, getD_off (by omega)]
      exact ⟨Int.le_refl _, L.pos⟩
    · unfold restL
      exact trim_ext fun k => getD_trim _ k
theorem go_len (F : List Int) (c : Int) (deg : Nat) : ∀ (n : Nat) (Q R : List Int), (divGo F c deg n Q R).2.length = R.length
  | 0, _, _ => rfl
  | n + 1, Q, R => by
    show (divGo F c deg n (Q.set n _) (mulRow n _ 0 F R)).2.length = _
    rw [go_len F c deg n, row_len]
theorem rest_len (fs F : List Int) (deg : Nat) (c : Int) : (restL fs F deg c).length ≤ fs.length := by
  unfold restL
  refine Nat.le_trans (trimN_len _) ?_
  unfold divL
  rw [go_len]
  exact Nat.le_refl _
/-- polynomials that differ by a multiple have one rest -/
theorem rest_one {fs gs F r s : List Int} {deg : Nat} {c : Int} (L : Lead F deg c) (hr : IsRest fs F deg c r) (hs : IsRest gs F deg c s) (d : ∃ q m, ∀ k, fs.getD k 0 = gs.getD k 0 + cv q F m k) : r = s := by
  obtain ⟨⟨q1, m1, e1⟩, l1, t1⟩ := hr
  obtain ⟨⟨q2, m2, e2⟩, l2, t2⟩ := hs
  obtain ⟨q, m, e⟩ := d
  have ext : ∀ (q : Nat → Int) (m M : Nat), m ≤ M → ∃ p, ∀ k, cv q F m k = cv p F M k := fun q m M h => by
    refine ⟨fun j => if j < m then q j else 0, fun k => ?_⟩
    obtain ⟨n, rfl⟩ : ∃ n, M = m + n := ⟨M - m, by omega⟩
    rw [cv_more (fun j hj => if_neg (by omega)) k n]
    exact cv_ext (fun j hj => (if_pos hj).symm) k
  obtain ⟨p, hp⟩ := ext q m (m + m1 + m2) (by omega)
  obtain ⟨p1, hp1⟩ := ext q1 m1 (m + m1 + m2) (by omega)
  obtain ⟨p2, hp2⟩ := ext q2 m2 (m + m1 + m2) (by omega)
  have dif : ∀ k, r.getD k 0 - s.getD k 0 = cv (fun j => p j - p1 j + p2 j) F (m + m1 + m2) k := fun k => by
    rw [cv_add (q := fun j => p j - p1 j) (p := p2), cv_sub, ← hp, ← hp1, ← hp2]
    have a := e1 k
    have b := e2 k
    have c := e k
    omega
  have z := cv_zero L _ (fun k hk => by
    rw [← dif]
    have a := l1 k hk
    have b := l2 k hk
    omega)
  rw [← t1, ← t2]
  refine trim_ext fun k => ?_
  have a := dif k
  rw [z] at a
  omega
theorem rest_add {fs gs F r : List Int} {deg : Nat} {c : Int} (hr : IsRest fs F deg c r) (d : ∃ q m, ∀ k, gs.getD k 0 = fs.getD k 0 + cv q F m k) (L : Lead F deg c) : restL gs F deg c = r := rest_one L (div_at L (.inr trivial)) hr d
end My

namespace My
open PySem PySem.Spec PyProof.Rows L2
abbrev s_check_kind : Stmt := topS 21
theorem sc_check_kind : FnScope ["thing"] ["thing"] (defScope s_check_kind) := ⟨rfl, rfl, rfl, by decide +kernel, rfl, by decide +kernel, by decide +kernel⟩
abbrev s_are_integers : Stmt := topS 37
theorem sc_are_integers : FnScope ["thing", "factor"] ["thing"] (defScope s_are_integers) := ⟨rfl, rfl, rfl, by decide +kernel, rfl, by decide +kernel, by decide +kernel⟩
abbrev s_divided : Stmt := topS 31
theorem sc_divided : FnScope ["factors", "divisor", "rest", "degree", "quotient", "k", "times", "j", "factor", "_"] ["factors", "divisor"] (defScope s_divided) := ⟨rfl, rfl, rfl, by decide +kernel, rfl, by decide +kernel, by decide +kernel⟩
/-! ### an expression, then what follows, with a word between them -/
def tCutE (te : TE) : TE := fun σ H Q => ∃ M : VK, te σ H M ∧ ∀ v H', M v H' → Q v H'
theorem pe_cut {X : Cx} {e : Expr} {te : TE} (h : PE X e te) : PE X e (tCutE te) := ⟨fun pins s σ H Q I ⟨M, hm, hq⟩ => thn (h.run pins s σ H M I hm) fun v s' ⟨x, H', I', r, m⟩ => ⟨x, H', I', r, hq x H' m⟩⟩
structure RestD where
  nk : Addr
  nn : Addr
  rest : Addr
/-- the class Rest, its errors -/
structure RestF (P : Program) (K : PySem.W.Frag) (mg : Str → Option Value) (d : RestD) : Prop where
  nk : PlainCls K mg "NoKind" d.nk
  nkB : PySem.W.subIn K (.ref d.nk) (.type "BaseException") = some true
  nkT : PySem.W.typeIn K (.ref d.nk) = some (.type "type")
  nn : PlainCls K mg "NoNumber" d.nn
  nnB : PySem.W.subIn K (.ref d.nn) (.type "BaseException") = some true
  nnT : PySem.W.typeIn K (.ref d.nn) = some (.type "type")
  rest : Cls K d.rest
  gRest : mg "Rest" = some (.ref d.rest)
  naK : NoAttr K d.rest "kind"
  naF : NoAttr K d.rest "factors"
/-- what is handed in as a kind, as data -/
structure spCheck (K : PySem.W.Frag) (d : RestD) (vs : List V) (H : Hp) (Q : VK) (E : XK) : Prop where
  ex : ∃ x t, vs = [x] ∧ Kn.Th K H x t ∧ (Kn.kindB t = true → ∀ H', Same H H' → Q .non H') ∧ (Kn.kindB t = false → ∀ H', Same H H' → E (.ref d.nk) none H')
structure spInts (K : PySem.W.Frag) (vs : List V) (H : Hp) (Q : VK) (E : XK) : Prop where
  ex : ∃ x ns, vs = [.ref x] ∧ IntsAt H x ns ∧ ns.length ≤ 900 ∧ ∀ H', Same H H' → Q (.bl true) H'
/-- a polynomial by which divided divides -/
structure Divisor (F : List Int) (deg : Nat) (c : Int) : Prop where
  lead : Lead F deg c
  small : c < 1073741824
  few : deg ≤ 100
  each : ∀ z ∈ F, -1000000 < z ∧ z < 1000000
structure spDivided (vs : List V) (H : Hp) (Q : VK) (E : XK) : Prop where
  ex : ∃ a b fs F deg c, vs = [.ref a, .ref b] ∧ IntsAt H a fs ∧ Rd H b (.tup (F.map V.int)) ∧ Divisor F deg c ∧ fs.length ≤ 900 ∧ ∀ r q1 r1 H', Same H H' → H r = none → H' r = some (.tup [.ref q1, .ref r1]) → Rd H' q1 (.tup ((trimN (divL fs F deg c).1).map V.int)) → Rd H' r1 (.tup ((restL fs F deg c).map V.int)) → Q (.ref r) H'
structure TxtV (mg : Str → Option Value) : Prop where
  n_len : mg "len" = none
  n_range : mg "range" = none
  n_enumerate : mg "enumerate" = none
  n_list : mg "list" = none
  n_reversed : mg "reversed" = none
section
variable {P : Program} {w : World} {K : PySem.W.Frag} {mg : Str → Option Value} {base : Heap}
theorem ok_check {d : RestD} {f f1 : Addr} {fd fd1 : FuncData} {k : Nat} (F : Fun K "check_kind" "check_kind" s_check_kind f fd) (R : RestF P K mg d) (F_is_kind : Fun K "is_kind" "is_kind" s_is_kind f1 fd1) (b_is_kind : Binds K fd1 ["thing"] []) (g_is_kind : mg "is_kind" = some (.ref f1)) (G_is_kind : FnOk P w K mg base CX0 4 f1 fd1 ["thing"] (Kn.spThing Kn.kindB K)) : FnOk P w K mg base (L2.CX P w) (k + 5) f fd ["thing"] (spCheck K d) := by
  refine F.okX sc_check_kind (fun vs H Q E h => ?_) (fun cdv A outer s H vs Q E hr h => ?_)
  · obtain ⟨x, t, rfl, _⟩ := h
    rfl
  · obtain ⟨x, t, rfl, hx, q1, q2⟩ := h
    refine ⟨_, (pss_one (ps_if (pt_not (pt_val (pe_call G_is_kind (hr.mono (by omega)) (by rfl) g_is_kind F_is_kind.kp b_is_kind .nil pass0 (pa_cons (pv 0) pa_nil))))
   (pss_one (ps_raise rfl (takes_of rfl rfl rfl rfl) (pmk_own PySem.F.excBase_ValueError R.nk.q R.nk.gC R.nk.kC (raises_own R.nkB R.nkT) (by exact rfl))))
   pss_nil)), ?_⟩
    clear G_is_kind
    refine ⟨_, rfl, ⟨x, t, rfl, hx, fun H1 s1 => ⟨_, rfl, ?_⟩⟩⟩
    cases e : Kn.kindB t with
    | true =>
      refine iteF ?_
      exact q1 e H1 s1
    | false =>
      refine iteT ?_
      exact q2 e H1 s1
theorem ok_are_integers {f f1 : Addr} {fd fd1 : FuncData} {k : Nat} (F : Fun K "are_integers" "are_integers" s_are_integers f fd) (T : TxtF mg) (F_is_integer : Fun K "is_integer" "is_integer" s_is_integer f1 fd1) (b_is_integer : Binds K fd1 ["thing"] []) (g_is_integer : mg "is_integer" = some (.ref f1)) (G_is_integer : FnOk P w K mg base CX0 1 f1 fd1 ["thing"] spIsInt) :
    FnOk P w K mg base CX0 (k + 2) f fd ["thing"] (spInts K) := by
  refine F.ok sc_are_integers (fun vs H Q E h => ?_) (fun cdv A outer s H vs Q E hr h => ?_)
  · obtain ⟨x, ns, rfl, _⟩ := h
    rfl
  · obtain ⟨x, ns, rfl, ih, few, q⟩ := h
    refine ⟨_, (pss_one (ps_ret (pe_and (pe_callB call_isiT (by rfl) T.n_isinstance (by decide +kernel) (pa_cons (pv 0) (pa_cons (pe_tup (pa_cons (pe_bltn (v := .ty "list") (by rfl) T.n_list (by decide +kernel) rfl) (pa_cons (pe_bltn (v := .ty "tuple") (by rfl) T.n_tuple (by decide +kernel) rfl) pa_nil))) pa_nil))) (pe_one (pe_callB (cr_all (by rfl)) (by rfl) T.n_all (by decide +kernel) (pa_cons (pe_lc (own := [("factor", 1)]) (g := gName 1) rfl sc_are_integers.nd (pi_either (K := K) rfl (pv 0)) (blkOk_by (own := [("factor", 1)]) (N := ["thing", "factor"]) (sc := defScope s_are_integers) (by decide +kernel)) (fun _ _ _ _ _ => (pg_name (i := 1) sc_are_integers.nd rfl (.inl rfl))) (fun _ _ _ _ _ => pts_nil) (fun _ _ _ _ _ => (pe_call G_is_integer (hr.mono (by omega)) (by rfl) g_is_integer F_is_integer.kp b_is_integer .nil pass0 (pa_cons (pv 1) pa_nil)))) pa_nil)))))), ?_⟩
    clear G_is_integer
    refine ⟨_, rfl, by show 2 ≤ sizeLine; decide, fun t nt => ?_⟩
    have st := same_upd (o := .tup [.ty "list", .ty "tuple"]) nt
    rcases ih with e0 | e0
    · have e2 := st _ _ e0
      refine ⟨.ref x, t, _, _, _, true, rfl, upd_same, .cons (.ty "list") (.cons (.ty "tuple") .nil), (Da.lst e2 (da_ints ns)).ty, kit_seq (.list (ns.map PyData.int)), _, rfl, ?_⟩
      generalize upd H t (.tup [.ty "list", .ty "tuple"]) = H1 at st e2 ⊢
      refine iteT ?_
      refine ⟨_, rfl, x, rfl, .inl ⟨⟨_, .inl (.inl e2)⟩, fun D nD => ?_⟩⟩
      refine lc_it (walk_list (xs := ns.map V.int)) (fun i H5 => Same H1 H5 ∧ H5 D = some (.lst ((List.replicate i true).map V.bl))) ⟨same_upd nD, upd_same⟩ (fun i H5 _ h => .inl (.inl (h.1 _ _ e2))) ?_ ?_
      · rintro i z H5 H6 hi ⟨s5, hD⟩ ⟨rfl, ez⟩
        rw [List.length_map] at hi
        rw [List.getElem?_map, List.getElem?_eq_getElem hi] at ez
        obtain rfl : V.int ns[i] = z := Option.some.inj ez
        refine ⟨rfl, ?_⟩
        unfold tYes
        dsimp only
        rw [if_pos rfl]
        refine ⟨_, rfl, ⟨.int ns[i], .int ns[i], rfl, .int _, _, hD, small1000 (by rw [List.length_map, List.length_replicate]; omega), same_at s5 nD, ?_⟩⟩
        rw [upd_same, List.replicate_succ', List.map_append]
        rfl
      rintro H5 ⟨s5, hD⟩
      refine ⟨D, _, rfl, .inl (.inl hD), ?_⟩
      rw [show (List.replicate (ns.map V.int).length true).all id = true by simp]
      exact q H5 (st.trans s5)
    · have e2 := rd_same e0 st
      refine ⟨.ref x, t, _, _, _, true, rfl, upd_same, .cons (.ty "list") (.cons (.ty "tuple") .nil), (Da.tup e2 (da_ints ns)).ty, kit_seq (.tuple (ns.map PyData.int)), _, rfl, ?_⟩
      generalize upd H t (.tup [.ty "list", .ty "tuple"]) = H1 at st e2 ⊢
      refine iteT ?_
      refine ⟨_, rfl, x, rfl, .inr ⟨⟨_, .inl e2⟩, fun D nD => ?_⟩⟩
      refine lc_it (walk_tup (xs := ns.map V.int)) (fun i H5 => Same H1 H5 ∧ H5 D = some (.lst ((List.replicate i true).map V.bl))) ⟨same_upd nD, upd_same⟩ (fun i H5 _ h => .inl (rd_same e2 h.1)) ?_ ?_
      · rintro i z H5 H6 hi ⟨s5, hD⟩ ⟨rfl, ez⟩
        rw [List.length_map] at hi
        rw [List.getElem?_map, List.getElem?_eq_getElem hi] at ez
        obtain rfl : V.int ns[i] = z := Option.some.inj ez
        refine ⟨rfl, ?_⟩
        unfold tYes
        dsimp only
        rw [if_pos rfl]
        refine ⟨_, rfl, ⟨.int ns[i], .int ns[i], rfl, .int _, _, hD, small1000 (by rw [List.length_map, List.length_replicate]; omega), same_at s5 nD, ?_⟩⟩
        rw [upd_same, List.replicate_succ', List.map_append]
        rfl
      rintro H5 ⟨s5, hD⟩
      refine ⟨D, _, rfl, .inl (.inl hD), ?_⟩
      rw [show (List.replicate (ns.map V.int).length true).all id = true by simp]
      exact q H5 (st.trans s5)
theorem ok_divided {f f1 : Addr} {fd fd1 : FuncData} {k : Nat} (F : Fun K "divided" "divided" s_divided f fd) (T : TxtV mg) (F_trimmed : Fun K "trimmed" "trimmed" s_trimmed f1 fd1) (b_trimmed : Binds K fd1 ["factors"] []) (g_trimmed : mg "trimmed" = some (.ref f1)) (G_trimmed : FnOk P w K mg base CX0 1 f1 fd1 ["factors"] spTrim) :
    FnOk P w K mg base CX0 (k + 2) f fd ["factors", "divisor"] spDivided := by
  refine F.ok sc_divided (fun vs H Q E h => ?_) (fun cdv A outer s H vs Q E hr h => ?_)
  · obtain ⟨a, b, fs, F, deg, c, rfl, _⟩ := h
    rfl
  · obtain ⟨a, b, fs, F, deg, c, rfl, ih, hb, dv, few, q⟩ := h
    refine ⟨_, (pss_cons (ps_set (i := 2) sc_divided.nd rfl (.inl rfl) (pe_callTy call_list_of (by rfl) T.n_list (by decide +kernel) (pa_cons (pv 0) pa_nil)))
  (pss_cons (ps_set (i := 3) sc_divided.nd rfl (.inl rfl) (pe_op op_sub (pe_callB call_len_seq (by rfl) T.n_len (by decide +kernel) (pa_cons (pv 1) pa_nil)) pe_int))
  (C8.pss_cut (ps_setLc (i := 4) (own := [("_", 9)]) (g := gName 9) rfl sc_divided.nd rfl rfl (sw_true rfl rfl rfl (by decide +kernel)) (pi_either (K := K) rfl (pv 0)) (blkOk_by (own := [("_", 9)]) (N := ["factors", "divisor", "rest", "degree", "quotient", "k", "times", "j", "factor", "_"]) (sc := defScope s_divided) (by decide +kernel)) (fun _ _ _ _ _ => (pg_name (i := 9) sc_divided.nd rfl (.inl rfl))) (fun _ _ _ _ _ => pts_nil) (fun _ _ _ _ _ => pe_int))
  (pss_cons (ps_for PassesOwn.never rfl (pi_revR (by rfl) T.n_reversed (prg_2 (by rfl) T.n_range (pv 3) (pe_callB call_len_seq (by rfl) T.n_len (by decide +kernel) (pa_cons (pv 0) pa_nil)))) (pg_name (i := 5) sc_divided.nd rfl (.inl rfl))
   (pss_cons (ps_set (i := 6) sc_divided.nd rfl (.inl rfl) (pe_op op_fdiv (pe_ix ix_list (pv 2) (pv 5) (fun _ _ => rfl)) (pe_ix ix_tup (pv 1) (pv 3) (fun _ _ => rfl))))
  (pss_cons (ps_asg (pv 6) (pg_sub (pv 4) (pe_op op_sub (pv 5) (pv 3)) set_list))
  (pss_one (ps_for PassesOwn.never rfl (pi_enumT (by rfl) T.n_enumerate (pa_cons (pv 1) pa_nil)) (pg_tup rfl (pgs_cons (pg_name (i := 7) sc_divided.nd rfl (.inl rfl)) (pgs_cons (pg_name (i := 8) sc_divided.nd rfl (.inl rfl)) pgs_nil)))
   (pss_one (ps_asg (pe_op op_sub (pe_ix ix_list (pv 2) (pe_op op_add (pe_op op_sub (pv 5) (pv 3)) (pv 7)) (fun _ _ => rfl)) (pe_op op_mul (pv 6) (pv 8))) (pg_sub (pv 2) (pe_op op_add (pe_op op_sub (pv 5) (pv 3)) (pv 7)) set_list))))))))
  (pss_one (ps_ret (pe_tup (pa_cons (pe_call G_trimmed (hr.mono (by omega)) (by rfl) g_trimmed F_trimmed.kp b_trimmed .nil pass0 (pa_cons (pv 4) pa_nil)) (pa_cons (pe_call G_trimmed (hr.mono (by omega)) (by rfl) g_trimmed F_trimmed.kp b_trimmed .nil pass0 (pa_cons (pv 2) pa_nil)) pa_nil))))))))), ?_⟩
    clear G_trimmed
    have L := dv.lead
    refine ⟨_, rfl, a, _, rfl, ih.sq, fun l nl => ?_⟩
    have s1 := same_upd (o := .lst (fs.map V.int)) nl
    have el1 : (upd H l (.lst (fs.map V.int))) l = some (.lst (fs.map V.int)) := upd_same
    generalize upd H l (.lst (fs.map V.int)) = H1 at s1 el1 ⊢
    refine ⟨_, rfl, b, _, rfl, .inr (.inl (rd_same hb s1)), _, _, rfl, rfl, ?_⟩
    have ed : V.int (((F.map V.int).length : Nat) - (1 : Int)) = V.int ((deg : Nat) : Int) := by
      rw [List.length_map, L.len]
      congr 1
      omega
    dsimp only
    rw [ed]
    have ih1 := ih.same s1
    refine ⟨fun σ' H' => Same H1 H' ∧ ∃ D, σ' = [some (.ref a), some (.ref b), some (.ref l), some (.int (deg : Nat)), some (.ref D), none, none, none, none, none] ∧ H1 D = none ∧ H' D = some (.lst ((List.replicate fs.length (0 : Int)).map V.int)), ?_, ?_⟩
    · have fin : ∀ (D : Addr) (H5 : Hp) (i : Nat), i < fs.length → H1 D = none → Same H1 H5 → H5 D = some (.lst ((List.replicate i (0 : Int)).map V.int)) → ∃ acc, H5 D = some (.lst acc) ∧ acc.length < sizeLine ∧ Same H1 (upd H5 D (.lst (acc ++ [V.int 0]))) ∧ (upd H5 D (.lst (acc ++ [V.int 0]))) D = some (.lst ((List.replicate (i + 1) (0 : Int)).map V.int)) := fun D H5 i hi nD s5 hD =>
        ⟨_, hD, small1000 (by rw [List.length_map, List.length_replicate]; omega), same_at s5 nD, by rw [upd_same, List.replicate_succ', List.map_append]; rfl⟩
      rcases ih1 with e0 | e0
      · refine ⟨_, rfl, a, rfl, .inl ⟨⟨_, .inl (.inl e0)⟩, fun D nD => ?_⟩⟩
        refine lc_it (walk_list (xs := fs.map V.int)) (fun i H5 => Same H1 H5 ∧ H5 D = some (.lst ((List.replicate i (0 : Int)).map V.int))) ⟨same_upd nD, upd_same⟩ (fun i H5 _ h => .inl (.inl (h.1 _ _ e0))) ?_ ?_
        · rintro i z H5 H6 hi ⟨s5, hD⟩ ⟨rfl, ez⟩
          rw [List.length_map] at hi
          refine ⟨rfl, ?_⟩
          unfold tYes
          dsimp only
          rw [if_pos rfl]
          exact fin D H6 i hi nD s5 hD
        rintro H5 ⟨s5, hD⟩
        rw [List.length_map] at hD
        exact ⟨s5, D, rfl, nD, hD⟩
      · refine ⟨_, rfl, a, rfl, .inr ⟨⟨_, .inl e0⟩, fun D nD => ?_⟩⟩
        refine lc_it (walk_tup (xs := fs.map V.int)) (fun i H5 => Same H1 H5 ∧ H5 D = some (.lst ((List.replicate i (0 : Int)).map V.int))) ⟨same_upd nD, upd_same⟩ (fun i H5 _ h => .inl (rd_same e0 h.1)) ?_ ?_
        · rintro i z H5 H6 hi ⟨s5, hD⟩ ⟨rfl, ez⟩
          rw [List.length_map] at hi
          refine ⟨rfl, ?_⟩
          unfold tYes
          dsimp only
          rw [if_pos rfl]
          exact fin D H6 i hi nD s5 hD
        rintro H5 ⟨s5, hD⟩
        rw [List.length_map] at hD
        exact ⟨s5, D, rfl, nD, hD⟩
    rintro σ H2 ⟨s2, D, rfl, nD, eD⟩
    have s12 := s1.trans s2
    have el2 := s2 _ _ el1
    have nDH : H D = none := s1.free nD
    have nDl : l ≠ D := ne_of_none el1 nD
    clear nD
    refine ⟨_, rfl, _, rfl, a, _, rfl, (ih.same s12).sq, ?_⟩
    rw [List.length_map]
    have hN : ((fs.length : Int) - ((deg : Nat) : Int)).toNat = fs.length - deg := by omega
    have fw := dv.few
    refine ⟨_, _, rfl, rfl, by omega, by omega, by omega, by omega, ?_⟩
    rw [hN]
    generalize hn : fs.length - deg = n
    have kk : ∀ i m : Nat, n = i + (m + 1) → ((deg : Nat) : Int) + ((n : Nat) : Int) - 1 + ((i : Nat) : Int) * (-1) = ((deg + m : Nat) : Int) := fun i m e => by omega
    refine for_it (walk_rangeC (n := n)) (fun i σ H5 => Same H H5 ∧ ∃ (M R : List Int) (v5 v6 v7 v8 : Option V), σ = [some (.ref a), some (.ref b), some (.ref l), some (.int (deg : Nat)), some (.ref D), v5, v6, v7, v8, none] ∧ H5 D = some (.lst (M.map V.int)) ∧ H5 l = some (.lst (R.map V.int)) ∧ M.length = fs.length ∧ R.length = fs.length ∧ divGo F c deg (n - i) M R = divL fs F deg c)
      ⟨s12, _, _, none, none, none, none, rfl, eD, el2, List.length_replicate, rfl, by unfold divL; rw [hn]; rfl⟩ (fun _ _ _ _ _ => True.intro) ?_ ?_
    · rintro i x σ H5 H6 hi ⟨s5, M, R, v5, v6, v7, v8, rfl, eM, eR, lM, lR, inv⟩ ⟨rfl, ex⟩
      obtain ⟨m, hm⟩ : ∃ m, n = i + (m + 1) := ⟨n - i - 1, by omega⟩
      have ex : x = V.int ((deg + m : Nat) : Int) := by rw [ex, ← kk i m hm]
      subst ex
      have em : n - i = m + 1 := by omega
      rw [em] at inv
      have lt : deg + m < R.length := by omega
      have ltF : deg < F.length := by rw [L.len]; omega
      have hb5 := rd_same hb s5
      -- times
      refine ⟨_, rfl, _, rfl, l, _, ((deg + m : Nat) : Int), _, rfl, rfl, .inl (.inl eR), get_nat lt, _, rfl, _, rfl, b, _, ((deg : Nat) : Int), _, rfl, rfl, .inl hb5, get_nat ltF, _, _, rfl, rfl, by rw [L.top]; exact ⟨L.pos, dv.small⟩, ?_⟩
      rw [L.top]
      have ht : ∃ t, R.getD (deg + m) 0 / c = t := ⟨_, rfl⟩
      obtain ⟨t, ht⟩ := ht
      have inv : divGo F c deg m (M.set m (R.getD (deg + m) 0 / c)) (mulRow m (-(R.getD (deg + m) 0 / c)) 0 F R) = divL fs F deg c := inv
      dsimp only
      rw [ht] at inv ⊢
      -- quotient[k - degree] = times
      have kd : V.int (((deg + m : Nat) : Int) - ((deg : Nat) : Int)) = V.int ((m : Nat) : Int) := by
        congr 1
        omega
      refine ⟨_, rfl, _, rfl, _, rfl, _, rfl, _, _, rfl, rfl, D, _, ((m : Nat) : Int), m, rfl, kd, eM, ?_, ?_⟩
      · rw [List.length_map]
        exact ix_nat (by omega)
      rw [← List.map_set]
      have s6 := same_at (o := .lst ((M.set m t).map V.int)) s5 nDH
      have eM6 : (upd H6 D (.lst ((M.set m t).map V.int))) D = some (.lst ((M.set m t).map V.int)) := upd_same
      have eR6 : (upd H6 D (.lst ((M.set m t).map V.int))) l = some (.lst (R.map V.int)) := by
        rw [upd_ne nDl]
        exact eR
      generalize upd H6 D (.lst ((M.set m t).map V.int)) = H7 at s6 eM6 eR6 ⊢
      have hb7 := rd_same hb s6
      refine ⟨_, rfl, b, _, rfl, .inl hb7, ?_⟩
      refine for_it (walk_enumT (xs := F.map V.int)) (fun j σ H8 => Same H H8 ∧ ∃ (N : List Int) (v7 v8 : Option V), σ = [some (.ref a), some (.ref b), some (.ref l), some (.int (deg : Nat)), some (.ref D), some (.int ((deg + m : Nat) : Int)), some (.int t), v7, v8, none] ∧ H8 D = some (.lst ((M.set m t).map V.int)) ∧ H8 l = some (.lst (N.map V.int)) ∧ N.length = fs.length ∧ mulRow m (-t) j (F.drop j) N = mulRow m (-t) 0 F R) ⟨s6, R, _, _, rfl, eM6, eR6, lR, rfl⟩ (fun j σ H8 _ h => .inl (rd_same hb h.1)) ?_ ?_
      · rintro j x σ H8 H9 hj ⟨s8, N, v7, v8, rfl, eM8, eN, lN, inv2⟩ ⟨T9, x9, y9, rfl, nT9, rfl, ex9, ey9⟩
        rw [List.length_map] at hj
        have ey9 : (F.map V.int)[j]? = some y9 := ey9
        rw [List.getElem?_map, List.getElem?_eq_getElem hj] at ey9
        obtain rfl : V.int F[j] = y9 := Option.some.inj ey9
        obtain rfl : V.int (j : Nat) = x9 := Option.some.inj ex9
        rw [List.drop_eq_getElem_cons hj] at inv2
        have sT := same_upd (o := .tup [V.int (j : Nat), V.int F[j]]) nT9
        have s9 := s8.trans sT
        have eN9 := sT _ _ eN
        have eM9 := sT _ _ eM8
        refine ⟨T9, _, rfl, .inl (.inl upd_same), rfl, _, _, rfl, _, _, rfl, rfl, ?_⟩
        generalize upd H8 T9 (.tup [V.int (j : Nat), V.int F[j]]) = H9 at s9 eN9 eM9 ⊢
        have lt2 : m + j < N.length := by rw [L.len] at hj; omega
        have hF := dv.each F[j] (List.getElem_mem hj)
        have ei : V.int (((deg + m : Nat) : Int) - ((deg : Nat) : Int) + ((j : Nat) : Int)) = V.int ((m + j : Nat) : Int) := by
          congr 1
          omega
        refine ⟨_, rfl, _, rfl, _, rfl, _, _, rfl, rfl, _, rfl, _, _, rfl, rfl, l, _, ((m + j : Nat) : Int), _, rfl, ei, .inl (.inl eN9), get_nat lt2, _, rfl, _, rfl, _, _, rfl, rfl, .inr ⟨by omega, by omega⟩, _, _, rfl, rfl, _, rfl, _, rfl, _, rfl, _, _, rfl, rfl, _, rfl, _, _, rfl, rfl, l, _, ((m + j : Nat) : Int), m + j, rfl, ei, eN9, ?_, ?_⟩
        · rw [List.length_map]
          exact ix_nat lt2
        · rw [← List.map_set]
          have inv3 : mulRow m (-t) (j + 1) (F.drop (j + 1)) (N.set (m + j) (N.getD (m + j) 0 + -t * F[j])) = mulRow m (-t) 0 F R := inv2
          rw [show N.getD (m + j) 0 + -t * F[j] = N.getD (m + j) 0 - t * F[j] by rw [Int.neg_mul]; omega] at inv3
          have nlH : H l = none := nl
          refine ⟨same_at s9 nlH, _, _, _, rfl, ?_, upd_same, by rw [List.length_set]; exact lN, inv3⟩
          rw [upd_ne nDl.symm]
          exact eM9
      · rintro σ H8 ⟨s8, N, v7, v8, rfl, eM8, eN, lN, inv2⟩
        rw [List.length_map, List.drop_length] at inv2
        have e : N = mulRow m (-t) 0 F R := inv2
        refine ⟨s8, _, N, _, _, _, _, rfl, eM8, eN, by rw [List.length_set]; exact lM, lN, ?_⟩
        rw [e, show n - (i + 1) = m by omega]
        exact inv
    · rintro σ H5 ⟨s5, M, R, v5, v6, v7, v8, rfl, eM, eR, lM, lR, inv⟩
      rw [Nat.sub_self] at inv
      have e1 : M = (divL fs F deg c).1 := congrArg Prod.fst inv
      have e2 : R = (divL fs F deg c).2 := congrArg Prod.snd inv
      refine ⟨_, rfl, ⟨D, M, rfl, .inl eM, by omega, fun q1 H6 s6 er1 => ?_⟩⟩
      refine ⟨_, rfl, ⟨l, R, rfl, .inl (s6 _ _ eR), by omega, fun r1 H7 s7 er2 => ?_⟩⟩
      refine ⟨by show 2 ≤ sizeLine; decide, fun r nr => ?_⟩
      have sr := same_upd (o := .tup [V.ref q1, V.ref r1]) nr
      have sA := (s5.trans s6).trans s7
      refine q r q1 r1 _ (sA.trans sr) (sA.free nr) upd_same (rd_same (rd_same (e1 ▸ er1) s7) sr) (rd_same ?_ sr)
      unfold restL
      rw [← e2]
      exact er2
end
end My

namespace My.Kn
open PySem PySem.Spec PyProof.Rows L2
theorem nm_signs {z : Str} (h : isNm z = true) : ∀ c ∈ z.cps.toList, isSign c = true := by
  unfold isNm at h
  intro c hc
  split at h
  · cases h
  · rename_i e
    rw [e] at hc
    rw [Bool.and_eq_true, Bool.and_eq_true] at h
    exact List.all_eq_true.mp h.2.2 c hc
theorem nm_len {z : Str} (h : isNm z = true) : z.length ≤ 8 := by
  unfold isNm at h
  split at h
  · cases h
  · rename_i e
    rw [Bool.and_eq_true, decide_eq_true_eq] at h
    rw [str_len, e, List.length_cons]
    omega
theorem sign_ok {c : Nat} (h : isSign c = true) : c < 1114112 := by
  have all : ∀ c ∈ (c_LETTERS ++ c_DIGITS).cps.toList, c < 1114112 := by decide +kernel
  exact all c (of_decide_eq_true h)
/-! ### how long a repr is -/
theorem textFrom_le {m : Nat} : ∀ (ts : List Str) (k : Nat) (acc : Str), (∀ t ∈ ts, t.length ≤ m) → (textFrom k acc ts).length ≤ acc.length + ts.length * (m + 2)
  | [], k, acc, _ => by
    show acc.length ≤ acc.length + _
    omega
  | t :: r, k, acc, h => by
    have ih := textFrom_le (m := m) r (k + 1) (acc ++ (if k > 0 then ", " else "" : String) ++ t) fun x hx => h x (List.mem_cons_of_mem _ hx)
    have ht := h t List.mem_cons_self
    have e : (acc ++ (if k > 0 then ", " else "" : String) ++ t : Str).length ≤ acc.length + 2 + m := by
      rw [strLen_append, strLen_append]
      have z : ((if k > 0 then ", " else "" : String) : Str).length ≤ 2 := by
        split
        · exact Nat.le_refl 2
        · exact Nat.zero_le 2
      omega
    show (textFrom (k + 1) _ r).length ≤ _
    rw [List.length_cons, Nat.succ_mul]
    omega
theorem listText_le {m : Nat} {ts : List Str} (h : ∀ t ∈ ts, t.length ≤ m) : (listText ts).length ≤ 2 + ts.length * (m + 2) := by
  have z := textFrom_le ts 0 "[" h
  unfold listText
  rw [strLen_append]
  have e1 : ("[" : Str).length = 1 := rfl
  have e2 : ("]" : Str).length = 1 := rfl
  omega
theorem piled_le {m : Nat} : ∀ (ts : List Str), (∀ t ∈ ts, t.length ≤ m) → piled ts ≤ ts.length * (m + 2)
  | [], _ => by simp [piled]
  | t :: r, h => by
    have ih := piled_le r fun x hx => h x (List.mem_cons_of_mem _ hx)
    have ht := h t List.mem_cons_self
    rw [List.length_cons, Nat.succ_mul]
    unfold piled at *
    simp at *
    omega
theorem tupleText_le {m : Nat} {ts : List Str} (n : ts ≠ []) (h : ∀ t ∈ ts, t.length ≤ m) : (tupleText ts).length ≤ 3 + ts.length * (m + 2) := by
  have z := piled_le ts h
  have y := join_length_add ts n
  unfold tupleText
  rw [strLen_append, strLen_append]
  have e1 : ("(" : Str).length = 1 := rfl
  have e2 : ((if ts.length == 1 then ",)" else ")" : String) : Str).length ≤ 2 := by
    split
    · exact Nat.le_refl 2
    · exact Nat.le_succ 1
  omega
theorem fits_small {s : Str} {n : Nat} (h : s.length ≤ n) (hn : n ≤ 16000000) : s.length ≤ sizeLine := by
  rw [sizeLine_eq]
  omega
/-! ### the repr of a kind -/
def dKind (ks : List (Str × Int)) : PyData := .tuple (ks.map fun p => .tuple [.str p.1, .int p.2])
theorem dp_kind {K : PySem.W.Frag} {H : Hp} {rs : List Addr} {ks : List (Str × Int)} (h : Prs H rs ks) : DpAll K H (rs.map V.ref) (ks.map fun p => PyData.tuple [.str p.1, .int p.2]) := by
  induction h with
  | nil => exact .nil
  | cons e _ ih => exact .cons (.tup (.inl e) (.cons (.str _) (.cons (.int _) .nil))) ih
theorem small_int {i : Int} (h : 0 ≤ i ∧ i ≤ 4) : i.natAbs.log2 < 1920 ∧ (PyData.int i).shown.length ≤ 100 := by
  have z : i = 0 ∨ i = 1 ∨ i = 2 ∨ i = 3 ∨ i = 4 := by omega
  rcases z with rfl | rfl | rfl | rfl | rfl <;> exact ⟨by decide +kernel, by decide +kernel⟩
abbrev dPairs (ks : List (Str × Int)) : List PyData := ks.map fun p => PyData.tuple [.str p.1, .int p.2]
theorem kd_len : ∀ ks : List (Str × Int), (PyData.shownAll (dPairs ks)).length = ks.length
  | [] => by simp [dPairs, PyData.shownAll]
  | p :: r => by
    have ih := kd_len r
    unfold dPairs at ih ⊢
    simp only [List.map_cons, PyData.shownAll, List.length_cons, ih]
theorem kd_show : ∀ (ks : List (Str × Int)), (∀ q ∈ ks, isNm q.1 = true ∧ 0 ≤ q.2 ∧ q.2 ≤ 4) → PyData.showableAll (dPairs ks) = true ∧ PyData.canLayAll0 (dPairs ks) = true ∧ PyData.depthAll (dPairs ks) ≤ 10 ∧ ∀ t ∈ PyData.shownAll (dPairs ks), t.length ≤ 1000
  | [], _ => ⟨by simp [PyData.showableAll], by simp [PyData.canLayAll0], by simp [PyData.depthAll], fun t ht => by simp [PyData.shownAll] at ht⟩
  | p :: r, rall => by
    obtain ⟨i1, i2, i3, i4⟩ := kd_show r fun q hq => rall q (List.mem_cons_of_mem _ hq)
    obtain ⟨nm, num⟩ := rall p List.mem_cons_self
    obtain ⟨n1, n2⟩ := small_int num
    have cps : ∀ c ∈ p.1.cps.toList, c < 1114112 := fun c hc => sign_ok (nm_signs nm c hc)
    have lp := nm_len nm
    have rt := PySem.StrLaws.reprText_len p.1 fun c hc => Nat.lt_trans (cps c hc) (by decide)
    unfold dPairs at i1 i2 i3 i4 ⊢
    refine ⟨?_, ?_, ?_, ?_⟩
    · simp only [List.map_cons, PyData.showableAll, PyData.showable, i1, decide_eq_true n1, Bool.and_self]
    · simp only [List.map_cons, PyData.canLayAll0, PyData.canLay0, i2, Bool.and_true, PyData.strOk]
      simp only [Array.all_eq_true, decide_eq_true_eq]
      intro i hi
      exact cps _ (by simp)
    · simp only [List.map_cons, PyData.depthAll, PyData.depth]
      omega
    · intro t ht
      simp only [List.map_cons, PyData.shownAll, List.mem_cons] at ht
      rcases ht with rfl | ht
      · rw [PyData.shown]
        simp only [PyData.shownAll]
        refine Nat.le_trans (tupleText_le (m := 100) (fun z => nomatch z) fun t ht => ?_) (show 3 + 2 * (100 + 2) ≤ 1000 by decide)
        simp only [List.mem_cons, List.not_mem_nil, or_false] at ht
        rcases ht with rfl | rfl
        · rw [PyData.shown]
          omega
        · exact n2
      · exact i4 t ht
theorem rp_kind {K : PySem.W.Frag} {H : Hp} {a : Addr} {ks : List (Str × Int)} {Q : VK} (hk : KindAt H a ks) (hR : Right ks) (q : Q (.str (dKind ks).shown) H) : rRepr K [.ref a] H Q := by
  obtain ⟨rs, ea, pr⟩ := hk
  obtain ⟨⟨r2, r8⟩, _, rall⟩ := hR
  have show1 := kd_show ks rall
  obtain ⟨h1, h2, h3, h4⟩ := show1
  refine ⟨.ref a, dKind ks, rfl, .tup (.inl ea) (dp_kind pr), ?_, ?_, ?_, ?_, q⟩
  · unfold dKind
    simp only [PyData.showable]
    exact h1
  · unfold dKind
    simp only [PyData.canLay0]
    exact h2
  · unfold dKind
    have h3' : PyData.depthAll (ks.map fun p => PyData.tuple [.str p.1, .int p.2]) ≤ 10 := h3
    simp only [PyData.depth]
    omega
  · unfold dKind
    rw [PyData.shown]
    have ln := kd_len ks
    refine fits_small (n := 3 + 8 * (1000 + 2)) (Nat.le_trans (tupleText_le (m := 1000) (fun z => ?_) h4) ?_) (by decide)
    · have y := congrArg List.length z
      rw [ln, List.length_nil] at y
      omega
    · rw [ln]
      omega
/-! ### a kind as a thing -/
theorem th_prs {K : PySem.W.Frag} {H : Hp} {rs : List Addr} {ks : List (Str × Int)} (h : Prs H rs ks) : (∀ q ∈ ks, isNm q.1 = true ∧ 0 ≤ q.2 ∧ q.2 ≤ 4) → ThAll K H (rs.map V.ref) (dPairs ks) := by
  induction h with
  | nil => exact fun _ => .nil
  | cons e _ ih =>
    intro g
    have n := (g _ List.mem_cons_self).1
    exact .cons (.tup e (.cons (.str (Nat.le_trans (nm_len n) (by decide)) fun c hc => sign_ok (nm_signs n c hc)) (.cons (.int _) .nil))) (ih fun q hq => g q (List.mem_cons_of_mem _ hq))
theorem th_kind {K : PySem.W.Frag} {H : Hp} {a : Addr} {ks : List (Str × Int)} (h : KindAt H a ks) (g : Right ks) : Th K H (.ref a) (dKind ks) := by
  obtain ⟨rs, e, pr⟩ := h
  exact .tup e (th_prs pr g.2.2)
theorem pairs_self : ∀ ks : List (Str × Int), (∀ q ∈ ks, isNm q.1 = true ∧ 0 ≤ q.2 ∧ q.2 ≤ 4) → allPairs (dPairs ks) = some ks
  | [], _ => rfl
  | p :: r, g => by
    have ih := pairs_self r fun q hq => g q (List.mem_cons_of_mem _ hq)
    obtain ⟨n, n0, n4⟩ := g p List.mem_cons_self
    have e : asPair (.tuple [.str p.1, .int p.2]) = some p := by
      unfold asPair
      simp only [n, decide_eq_true n0, decide_eq_true n4, Bool.and_self, if_true]
    show allPairs (PyData.tuple [.str p.1, .int p.2] :: dPairs r) = _
    rw [allPairs_cons, e, ih]
theorem kind_self {ks : List (Str × Int)} (g : Right ks) : kindB (dKind ks) = true := by
  have l : (dPairs ks).length = ks.length := List.length_map ..
  unfold dKind
  rw [kind_some (ds := dPairs ks) (ks := ks) (by rw [l]; exact g.1) (pairs_self ks g.2.2)]
  exact g.2.1
/-! ### what the pot's calls leave alone -/
theorem rd_but {p a : Addr} {H H' : Hp} {xs ys : List V} (e : H p = some (.lst xs)) (b : But p H H') (h : Rd H a (.tup ys)) : Rd H' a (.tup ys) := by
  rcases h with h | ⟨o, h⟩
  · exact .inl (b.1 _ _ h fun z => by rw [z, e] at h; cases h)
  · exact .inr ⟨o, b.1 _ _ h fun z => by rw [z, e] at h; cases h⟩
theorem Prs.but {p : Addr} {H H' : Hp} {xs : List V} (e : H p = some (.lst xs)) (b : But p H H') {rs : List Addr} {ks : List (Str × Int)} (h : Prs H rs ks) : Prs H' rs ks := by
  induction h with
  | nil => exact .nil
  | cons x _ ih => exact .cons (rd_but e b x) ih
theorem KindAt.but {p a : Addr} {H H' : Hp} {xs : List V} {ks : List (Str × Int)} (h : KindAt H a ks) (e : H p = some (.lst xs)) (b : But p H H') : KindAt H' a ks := by
  obtain ⟨rs, x, pr⟩ := h
  exact ⟨rs, rd_but e b x, pr.but e b⟩
/-! ### the polynomial of a kind less t -/
theorem greatest : ∀ (ns : List Int), (∀ n ∈ ns, 0 ≤ n ∧ n ≤ 4) → ns ≠ [] → ∃ m : Nat, Most ns m
  | [], _, h => absurd rfl h
  | [n], h, _ => by
    have a := h n List.mem_cons_self
    refine ⟨n.toNat, ?_, fun x hx => ?_⟩
    · rw [Int.toNat_of_nonneg a.1]
      exact List.mem_cons_self
    · rw [List.mem_singleton.mp hx, Int.toNat_of_nonneg a.1]
      exact ⟨a.1, Int.le_refl _⟩
  | n :: y :: r, h, _ => by
    obtain ⟨m, hm, hM⟩ := greatest (y :: r) (fun x hx => h x (List.mem_cons_of_mem _ hx)) (by simp)
    have a := h n List.mem_cons_self
    by_cases g : n ≤ m
    · exact ⟨m, List.mem_cons_of_mem _ hm, fun x hx => by
        rcases List.mem_cons.mp hx with rfl | hx
        · exact ⟨a.1, g⟩
        · exact hM x hx⟩
    · refine ⟨n.toNat, ?_, fun x hx => ?_⟩
      · rw [Int.toNat_of_nonneg a.1]
        exact List.mem_cons_self
      · rw [Int.toNat_of_nonneg a.1]
        rcases List.mem_cons.mp hx with rfl | hx
        · exact ⟨a.1, Int.le_refl _⟩
        · have := hM x hx
          exact ⟨this.1, by omega⟩
/-- F of a kind's numbers, m the greatest one -/
def byL (ns : List Int) (m : Nat) : List Int := (cnt ns (m + 1)).set 1 ((ns.count 1 : Nat) - 1)
structure Best (ks : List (Str × Int)) (m : Nat) : Prop where
  most : Most (ks.map (·.2)) m
  m2 : 2 ≤ m
  m4 : m ≤ 4
theorem right_best {ks : List (Str × Int)} (h : Right ks) : ∃ m, Best ks m := by
  obtain ⟨⟨l2, l8⟩, ok, all⟩ := h
  have al : ∀ n ∈ ks.map (·.2), 0 ≤ n ∧ n ≤ 4 := fun n hn => by
    obtain ⟨p, hp, rfl⟩ := List.mem_map.mp hn
    exact (all p hp).2
  obtain ⟨m, hm⟩ := greatest (ks.map (·.2)) al (fun z => by
    have y := congrArg List.length z
    rw [List.length_map, List.length_nil] at y
    omega)
  unfold okK at ok
  rw [Bool.and_eq_true, Bool.and_eq_true, List.any_eq_true] at ok
  obtain ⟨x, hx, x2⟩ := ok.2.2
  have := hm.2 x hx
  have h2 := of_decide_eq_true x2
  have h4 := (al _ hm.1).2
  exact ⟨m, hm, by omega, by omega⟩
theorem cnt_get (ns : List Int) (j k : Nat) : (cnt ns j).getD k 0 = if k < j then ((ns.count (k : Int) : Nat) : Int) else 0 := by
  unfold cnt
  rw [List.getD_eq_getElem?_getD, List.getElem?_map]
  by_cases h : k < j
  · rw [List.getElem?_range h, if_pos h]
    rfl
  · rw [List.getElem?_eq_none (by rw [List.length_range]; omega), if_neg h]
    rfl
theorem by_len (ns : List Int) (m : Nat) : (byL ns m).length = m + 1 := by
  unfold byL
  rw [List.length_set, cnt_len]
theorem by_divisor {ks : List (Str × Int)} {m : Nat} (h : Right ks) (b : Best ks m) : ∃ c, Divisor (byL (ks.map (·.2)) m) m c ∧ c ≤ 8 := by
  have l8 := h.1.2
  have cl : ∀ i : Int, (ks.map (·.2)).count i ≤ 8 := fun i => Nat.le_trans List.count_le_length (by rw [List.length_map]; exact l8)
  refine ⟨(((ks.map (·.2)).count (m : Int) : Nat) : Int), ⟨⟨by_len _ _, ?_, ?_⟩, ?_, by have := b.m4; omega, fun z hz => ?_⟩, ?_⟩
  · unfold byL
    rw [getD_set, if_neg (by have := b.m2; omega), cnt_get, if_pos (by omega)]
  · have := List.count_pos_iff.mpr b.most.1
    omega
  · have := cl (m : Int)
    omega
  · unfold byL at hz
    rcases List.mem_or_eq_of_mem_set hz with hz | rfl
    · unfold cnt at hz
      obtain ⟨i, _, rfl⟩ := List.mem_map.mp hz
      have := cl (i : Int)
      omega
    · have := cl 1
      omega
  · have := cl (m : Int)
    omega
end My.Kn

namespace My
open PySem PySem.Spec PyProof.Rows L2
abbrev s_Restinit : Stmt := inClass (topS 40) 0
theorem sc_Restinit : FnScope ["self", "kind", "factors"] ["self", "kind", "factors"] (defScope s_Restinit) := ⟨rfl, rfl, rfl, by decide +kernel, rfl, by decide +kernel, by decide +kernel⟩
abbrev s_Restof : Stmt := inClass (topS 40) 1
theorem sc_Restof : FnScope ["cls", "kind", "layout"] ["cls", "kind", "layout"] (defScope s_Restof) := ⟨rfl, rfl, rfl, by decide +kernel, rfl, by decide +kernel, by decide +kernel⟩
abbrev s_Resteq : Stmt := inClass (topS 40) 11
theorem sc_Resteq : FnScope ["self", "other"] ["self", "other"] (defScope s_Resteq) := ⟨rfl, rfl, rfl, by decide +kernel, rfl, by decide +kernel, by decide +kernel⟩
open Kn (KindAt Right Best byL by_divisor right_best)
/-! ### rests of a kind -/
theorem best_one {ks : List (Str × Int)} {m n : Nat} (a : Best ks m) (b : Best ks n) : m = n := by
  have x := (b.most.2 _ a.most.1).2
  have y := (a.most.2 _ b.most.1).2
  omega
/-- fs: the rest of ns by the F of a kind -/
structure RestR (ks : List (Str × Int)) (ns fs : List Int) : Prop where
  ex : ∃ m c, Best ks m ∧ Divisor (byL (ks.map (·.2)) m) m c ∧ IsRest ns (byL (ks.map (·.2)) m) m c fs ∧ fs.length ≤ ns.length
theorem div_one {F : List Int} {deg : Nat} {c c' : Int} (a : Divisor F deg c) (b : Divisor F deg c') : c = c' := a.lead.top.symm.trans b.lead.top
theorem RestR.one {ks : List (Str × Int)} {m : Nat} {ns ms fs gs : List Int} (b : Best ks m) (hf : RestR ks ns fs) (hg : RestR ks ms gs) (d : ∃ q n, ∀ k, ns.getD k 0 = ms.getD k 0 + cv q (byL (ks.map (·.2)) m) n k) : fs = gs := by
  obtain ⟨m1, c1, b1, d1, r1, _⟩ := hf.ex
  obtain ⟨m2, c2, b2, d2, r2, _⟩ := hg.ex
  cases best_one b b1
  cases best_one b b2
  cases div_one d1 d2
  exact rest_one d1.lead r1 r2 d
/-- an instance of Rest: its kind, its factors -/
def RestAt (d : RestD) (H : Hp) (x : Addr) (ks : List (Str × Int)) (fs : List Int) : Prop := ∃ dx a r, H x = some (.ins d.rest dx [("kind", .ref a), ("factors", .ref r)]) ∧ KindAt H a ks ∧ Rd H r (.tup (fs.map V.int))
theorem RestAt.same {d : RestD} {H H' : Hp} {x : Addr} {ks : List (Str × Int)} {fs : List Int} (h : RestAt d H x ks fs) (s : Same H H') : RestAt d H' x ks fs := by
  obtain ⟨dx, a, r, h1, h2, h3⟩ := h
  exact ⟨dx, a, r, s _ _ h1, h2.same s, rd_same h3 s⟩
theorem RestAt.but {d : RestD} {p x : Addr} {H H' : Hp} {xs : List V} {ks : List (Str × Int)} {fs : List Int} (h : RestAt d H x ks fs) (e : H p = some (.lst xs)) (b : But p H H') : RestAt d H' x ks fs := by
  obtain ⟨dx, a, r, h1, h2, h3⟩ := h
  exact ⟨dx, a, r, b.1 _ _ h1 (fun z => by rw [z, e] at h1; cases h1), h2.but e b, Kn.rd_but e b h3⟩
theorem rd_kp {x a C dx : Addr} {l : List (Str × V)} {H H' : Hp} {xs : List V} (e : H x = some (.ins C dx l)) (k : Kp x H H') (h : Rd H a (.tup xs)) : Rd H' a (.tup xs) := by
  rcases h with h | ⟨o, h⟩
  · exact .inl (k _ _ h fun z => by rw [z, e] at h; cases h)
  · exact .inr ⟨o, k _ _ h fun z => by rw [z, e] at h; cases h⟩
theorem prs_kp {x C dx : Addr} {l : List (Str × V)} {H H' : Hp} (e : H x = some (.ins C dx l)) (k : Kp x H H') {rs : List Addr} {ks : List (Str × Int)} (h : Kn.Prs H rs ks) : Kn.Prs H' rs ks := by
  induction h with
  | nil => exact .nil
  | cons y _ ih => exact .cons (rd_kp e k y) ih
theorem kind_kp {x a C dx : Addr} {l : List (Str × V)} {H H' : Hp} {ks : List (Str × Int)} (e : H x = some (.ins C dx l)) (k : Kp x H H') (h : KindAt H a ks) : KindAt H' a ks := by
  obtain ⟨rs, y, pr⟩ := h
  exact ⟨rs, rd_kp e k y, prs_kp e k pr⟩
theorem ints_kp {x a C dx : Addr} {l : List (Str × V)} {H H' : Hp} {ns : List Int} (e : H x = some (.ins C dx l)) (k : Kp x H H') (h : IntsAt H a ns) : IntsAt H' a ns := by
  rcases h with h | h
  · exact .inl (k _ _ h fun z => by rw [z, e] at h; cases h)
  · exact .inr (rd_kp e k h)
theorem kp_same {x : Addr} {H H1 H2 : Hp} (k : Kp x H H1) (s : Same H1 H2) : Kp x H H2 := fun b o e n => s _ _ (k b o e n)
theorem kp_upd {x : Addr} {H H1 : Hp} {o : HO} (k : Kp x H H1) : Kp x H (L2.upd H1 x o) := fun b u e n => by
  rw [upd_ne n]
  exact k b u e n
structure spRestI (K : PySem.W.Frag) (d : RestD) (vs : List V) (H : Hp) (Q : VK) (E : XK) : Prop where
  ex : ∃ x dx a ks b ns, vs = [.ref x, .ref a, .ref b] ∧ H x = some (.ins d.rest dx []) ∧ KindAt H a ks ∧ Right ks ∧ IntsAt H b ns ∧ ns.length ≤ 900 ∧
    ∀ fs r H', RestR ks ns fs → Kp x H H' → H' x = some (.ins d.rest dx [("kind", .ref a), ("factors", .ref r)]) → Rd H' r (.tup (fs.map V.int)) → Q .non H'
/-- Rest(a kind, a list or a tuple of ints) -/
def tMakeRest (d : RestD) (t : TA) : TE := fun σ H Q => t σ H fun vs H1 => ∃ a ks b ns, vs = [V.ref a, V.ref b] ∧ KindAt H1 a ks ∧ Right ks ∧ IntsAt H1 b ns ∧ ns.length ≤ 900 ∧ ∀ x fs H', Same H1 H' → H1 x = none → RestAt d H' x ks fs → RestR ks ns fs → Q (.ref x) H'
theorem rest_new {K : PySem.W.Frag} {d : RestD} {H : Hp} {a b : Addr} {ks : List (Str × Int)} {ns : List Int} {Q : VK} {E : XK} (hk : KindAt H a ks) (rk : Right ks) (hb : IntsAt H b ns) (few : ns.length ≤ 900) (q : ∀ x fs H', Same H H' → H x = none → RestAt d H' x ks fs → RestR ks ns fs → Q (.ref x) H') :
    ∀ x dx, H x = none → H dx = none → dx ≠ x → spRestI K d [.ref x, .ref a, .ref b] (upd (upd H dx (.own x)) x (.ins d.rest dx [])) (fun v H2 => v = .non ∧ Q (.ref x) H2) E := by
  intro x dx nx ndx dxx
  have s0 : Same H (upd (upd H dx (.own x)) x (.ins d.rest dx [])) := fun b o e => by
    rw [upd_ne (ne_of_none e nx), upd_ne (ne_of_none e ndx)]
    exact e
  refine ⟨x, dx, a, ks, b, ns, rfl, upd_same, hk.same s0, rk, hb.same s0, few, fun fs r H' rr k hx hr => ⟨rfl, ?_⟩⟩
  have s : Same H H' := fun c o e => k c o (s0 c o e) (ne_of_none e nx)
  exact q x fs H' s nx ⟨dx, a, r, hx, hk.same s, hr⟩ rr
theorem pe_makeRest {X : Cx} {k : Nat} {f : Addr} {d : RestD} {x : Str} {e : Expr} {es : List Expr} {t : TA} {p pos : Pos} (M : Mk X.K d.rest f) (F : FnR X.prog X.w X.K X.mg X.base (L2.CX X.prog X.w) k f (spRestI X.K d)) (hr : Room (k + 1) X.A) (hg : Gl X x) (hm : X.mg x = some (.ref d.rest)) (ha : PA X (e :: es) t) (hdb : (x == ("__debug__" : Str)) = false := by decide)
    (he : starEach (e :: es) X.env = (false, eval e X.env) :: starEach es X.env := by rfl) (hpl : (backTo pos (starEach es X.env)).any (·.1) = false := by rfl) : PE X (.Call (.Name x p) (e :: es) [] pos) (tMakeRest d t) := by
  refine ⟨fun pins s σ H Q I h => ?_⟩
  refine wpAny_Call_Name_kw (ld_glob I hg hm ?_ hdb)
  refine PySem.W.callWith_K (h₀ := X.base) I.ok.mod.kin M.kp (thn (ha.run pos pins s σ H _ I h) fun us s1 ⟨vs, H1, I1, r, q⟩ => ⟨I1.kIn, ?_⟩) he hpl
  obtain ⟨a, ks, b, ns, rfl, hk, rk, hb, few, q⟩ := q
  exact StX.run_makeR M F hr (passE (X := X)) I1 r (rest_new hk rk hb few q)
/-- .. the class is a variable's value -/
def tMakeRestV (d : RestD) (tf : TE) (t : TA) : TE := fun σ H Q => tf σ H fun y H0 => y = .ref d.rest ∧ tMakeRest d t σ H0 Q
theorem pe_makeRestV {X : Cx} {k : Nat} {f : Addr} {d : RestD} {fe : Expr} {tf : TE} {e : Expr} {es : List Expr} {t : TA} {pos : Pos} (hf : PE X fe tf) (M : Mk X.K d.rest f) (F : FnR X.prog X.w X.K X.mg X.base (L2.CX X.prog X.w) k f (spRestI X.K d)) (hr : Room (k + 1) X.A) (ha : PA X (e :: es) t)
    (ht : eval (.Call fe (e :: es) [] pos) X.env = (do callWith pos (← eval fe X.env) [] (backTo pos (starEach (e :: es) X.env)) (backToKw pos (keywordEach [] X.env))) := by rfl)
    (he : starEach (e :: es) X.env = (false, eval e X.env) :: starEach es X.env := by rfl) (hpl : (backTo pos (starEach es X.env)).any (·.1) = false := by rfl) : PE X (.Call fe (e :: es) [] pos) (tMakeRestV d tf t) := by
  refine ⟨fun pins s σ H Q I h => ?_⟩
  refine Call_ (thn (hf.run pins s σ H _ I h) fun u s0 ⟨y, H0, I0, ry, ey, q⟩ => ?_) ht
  subst ey
  obtain rfl : u = Value.ref d.rest := ry
  refine PySem.W.callWith_K (h₀ := X.base) I0.ok.mod.kin M.kp (thn (ha.run pos pins s0 σ H0 _ I0 q) fun us s1 ⟨vs, H1, I1, r, q⟩ => ⟨I1.kIn, ?_⟩) he hpl
  obtain ⟨a, ks, b, ns, rfl, hk, rk, hb, few, q⟩ := q
  exact StX.run_makeR M F hr (passE (X := X)) I1 r (rest_new hk rk hb few q)
section
variable {P : Program} {w : World} {K : PySem.W.Frag} {mg : Str → Option Value} {base : Heap}
theorem ok_Restinit {dr : RestD} {f f1 f2 f3 f4 : Addr} {fd fd1 fd2 fd3 fd4 : FuncData} {k : Nat} (F : Fun K "__init__" "Rest.__init__" s_Restinit f fd) (R : RestF P K mg dr)
    (F_check_kind : Fun K "check_kind" "check_kind" s_check_kind f1 fd1) (b_check_kind : Binds K fd1 ["thing"] []) (g_check_kind : mg "check_kind" = some (.ref f1)) (G_check_kind : FnOk P w K mg base (L2.CX P w) 5 f1 fd1 ["thing"] (spCheck K dr))
    (F_are_integers : Fun K "are_integers" "are_integers" s_are_integers f2 fd2) (b_are_integers : Binds K fd2 ["thing"] []) (g_are_integers : mg "are_integers" = some (.ref f2)) (G_are_integers : FnOk P w K mg base CX0 2 f2 fd2 ["thing"] (spInts K))
    (F_divided : Fun K "divided" "divided" s_divided f3 fd3) (b_divided : Binds K fd3 ["factors", "divisor"] []) (g_divided : mg "divided" = some (.ref f3)) (G_divided : FnOk P w K mg base CX0 2 f3 fd3 ["factors", "divisor"] spDivided)
    (F_difference : Fun K "difference" "difference" Kn.s_difference f4 fd4) (b_difference : Binds K fd4 ["kind"] []) (g_difference : mg "difference" = some (.ref f4)) (G_difference : FnOk P w K mg base CX0 2 f4 fd4 ["kind"] Kn.spDiff) :
    FnOk P w K mg base (L2.CX P w) (k + 6) f fd ["self", "kind", "factors"] (spRestI K dr) := by
  refine F.okX sc_Restinit (fun vs H Q E h => ?_) (fun cdv A outer s H vs Q E hr h => ?_)
  · obtain ⟨x, dx, a, ks, b, ns, rfl, _⟩ := h
    rfl
  · obtain ⟨x, dx, a, ks, b, ns, rfl, hx, hk, rk, hb, few, q⟩ := h
    refine ⟨_, (pss_cons (ps_expr (pe_call G_check_kind (hr.mono (by omega)) (by rfl) g_check_kind F_check_kind.kp b_check_kind .nil (fun pins σ H s e s' I c => passAt (W := fun cls dd σ H => E cls dd H) (takes_of rfl rfl rfl rfl) σ pins H s e s' I c) (pa_cons (pv 1) pa_nil)))
  (pss_cons (ps_if (pt_not (pt_val (pe_call G_are_integers (hr.mono (by omega)) (by rfl) g_are_integers F_are_integers.kp b_are_integers .nil pass0 (pa_cons (pv 2) pa_nil))))
   (pss_one (ps_raise rfl (takes_of rfl rfl rfl rfl) (pmk_own PySem.F.excBase_ValueError R.nn.q R.nn.gC R.nn.kC (raises_own R.nnB R.nnT) (by exact rfl))))
   pss_nil)
  (pss_cons (ps_fld (pv 0) (pv 1) rfl)
  (pss_one (ps_fld (pv 0) (pe_ix ix_tup (pe_call G_divided (hr.mono (by omega)) (by rfl) g_divided F_divided.kp b_divided .nil pass0 (pa_cons (pv 2) (pa_cons (pe_call G_difference (hr.mono (by omega)) (by rfl) g_difference F_difference.kp b_difference .nil pass0 (pa_cons (pv 1) pa_nil)) pa_nil))) pe_int (fun _ _ => rfl)) rfl))))), ?_⟩
    clear G_check_kind G_are_integers G_divided G_difference
    refine ⟨_, rfl, ⟨.ref a, Kn.dKind ks, rfl, Kn.th_kind hk rk, fun _ H1 s1 => ?_, fun z => by rw [Kn.kind_self rk] at z; cases z⟩⟩
    refine ⟨_, rfl, ⟨b, ns, rfl, hb.same s1, few, fun H2 s2 => ⟨_, rfl, iteF ?_⟩⟩⟩
    have s12 := s1.trans s2
    have hx2 := s12 _ _ hx
    have k2 : Kp x H H2 := fun b o e _ => s12 b o e
    refine ⟨_, rfl, _, rfl, x, dr.rest, dx, _, rfl, hx2, R.rest, R.naK, by decide, ?_⟩
    have e3 : upd H2 x (.ins dr.rest dx (putF "kind" (.ref a) [])) = upd H2 x (.ins dr.rest dx [("kind", .ref a)]) := rfl
    have k3 : Kp x H (upd H2 x (.ins dr.rest dx [("kind", .ref a)])) := kp_upd k2
    have hx3 : (upd H2 x (.ins dr.rest dx [("kind", .ref a)])) x = some (.ins dr.rest dx [("kind", .ref a)]) := upd_same
    dsimp only
    rw [e3]
    generalize upd H2 x (.ins dr.rest dx [("kind", .ref a)]) = H3 at k3 hx3 ⊢
    obtain ⟨m, bm⟩ := right_best rk
    obtain ⟨c, dv, c8⟩ := by_divisor rk bm
    refine ⟨_, rfl, _, rfl, ⟨a, ks, m, rfl, kind_kp hx k3 hk, by have := rk.1.2; omega, bm.most, bm.m2, bm.m4, fun l H4 s4 nl el => ?_⟩⟩
    have el' : H4 l = some (.tup ((byL (ks.map (·.2)) m).map V.int)) := el
    refine ⟨b, l, ns, _, m, c, rfl, (ints_kp hx k3 hb).same s4, .inl el', dv, few, fun r q1 r1 H5 s5 nr er eq1 er1 => ?_⟩
    have s35 := s4.trans s5
    refine ⟨r, _, 1, _, rfl, rfl, .inl (.inl er), (show atI [V.ref q1, V.ref r1] 1 = some (V.ref r1) from rfl), ?_⟩
    refine ⟨_, rfl, x, dr.rest, dx, _, rfl, s35 _ _ hx3, R.rest, R.naF, by show 1 < 1000; decide, ?_⟩
    have hrx : r1 ≠ x := by
      rintro rfl
      have z := s35 _ _ hx3
      rcases er1 with y | ⟨o, y⟩ <;> (rw [z] at y; cases y)
    refine q _ r1 _ ⟨m, c, bm, dv, div_at dv.lead (.inr trivial), rest_len _ _ _ _⟩ (kp_upd (kp_same k3 s35)) upd_same ?_
    rcases er1 with y | ⟨o, y⟩
    · exact .inl (by rw [upd_ne hrx]; exact y)
    · exact .inr ⟨o, by rw [upd_ne hrx]; exact y⟩
/-- Rest.of(a kind, a layout) -/
structure spRestOf (d : RestD) (C : Addr) (vs : List V) (H : Hp) (Q : VK) (E : XK) : Prop where
  ex : ∃ a ks b ns, vs = [.ref d.rest, .ref a, .ref b] ∧ KindAt H a ks ∧ Right ks ∧ LayAt C H b ns ∧ ∀ x fs H', Same H H' → H x = none → RestAt d H' x ks fs → RestR ks ns fs → Q (.ref x) H'
theorem ok_of {d : LayD} {dr : RestD} {f f1 : Addr} {fd : FuncData} {k : Nat} (F : Fun K "of" "Rest.of" s_Restof f fd) (D : LayF P K mg d) (R : RestF P K mg dr) (M_Rest : Mk K dr.rest f1) (R_Rest : FnR P w K mg base (L2.CX P w) 6 f1 (spRestI K dr)) : FnOk P w K mg base CX0 (k + 8) f fd ["cls", "kind", "layout"] (spRestOf dr d.lay) := by
  refine F.ok sc_Restof (fun vs H Q E h => ?_) (fun cdv A outer s H vs Q E hr h => ?_)
  · obtain ⟨a, ks, b, ns, rfl, _⟩ := h
    rfl
  · obtain ⟨a, ks, b, ns, rfl, hk, rk, lb, q⟩ := h
    refine ⟨_, (pss_one (ps_ret (pe_makeRestV (pv 0) M_Rest R_Rest (hr.mono (by omega)) (pa_cons (pv 1) (pa_cons (pe_fld (pv 2) rfl) pa_nil))))), ?_⟩
    clear R_Rest
    obtain ⟨dx, r, hb, hr', l41, _⟩ := id lb
    exact ⟨_, rfl, rfl, _, rfl, _, rfl, b, d.lay, dx, _, .ref r, rfl, hb, D.lay, D.naF, rfl, a, ks, r, ns, rfl, hk, rk, .inr hr', by omega, fun x fs H' s nx ra rr => q x fs H' s nx ra rr⟩
/-- what isinstance asks of the class Rest -/
structure RestG (K : PySem.W.Frag) (C : Addr) (mc : Value) : Prop where
  isR : PySem.W.kitOne K (.ref C) (.ref C) = some true
  ca : PySem.W.findIn K (.ref C) "__class__" = some (some (.builtin "object.__class__"))
  cn : PySem.W.specialIn K (.builtin "object.__class__") "__get__" = some (some (.builtin "getset_descriptor.__get__"))
  ct : PySem.W.takesIn K (.builtin "object.__class__") = some true
  cm : PySem.W.mroIn K C (.type "object") = some true
  rd : ClX.CRead K C mc
/-- rests that are one -/
structure spRestEq (d : RestD) (vs : List V) (H : Hp) (Q : VK) (E : XK) : Prop where
  ex : ∃ x y ks fs, vs = [.ref x, .ref y] ∧ RestAt d H x ks fs ∧ RestAt d H y ks fs ∧ (∀ q ∈ ks, Kn.isNm q.1 = true ∧ 0 ≤ q.2 ∧ q.2 ≤ 4) ∧ Q (.bl true) H
theorem eqvAll_intsS : ∀ ns : List Int, PyData.eqvAll (ns.map PyData.int) (ns.map PyData.int) = true
  | [] => by simp [PyData.eqvAll]
  | n :: r => by
    rw [List.map_cons]
    simp [PyData.eqvAll, PyData.eqv, eqvAll_intsS r]
theorem eqvT_intsS (ns : List Int) : PyData.eqv (.tuple (ns.map PyData.int)) (.tuple (ns.map PyData.int)) = true := by
  rw [PyData.eqv]
  exact eqvAll_intsS ns
theorem shT_intsS (ns : List Int) : SeqAt.shaped (.tuple (ns.map PyData.int)) = true := by
  have h := dep_ints ns
  exact sh_of (by simp only [PyData.canLay0]; exact lay_ints ns) (by simp only [PyData.depth]; omega)
theorem eqvAll_pairs : ∀ ks : List (Str × Int), PyData.eqvAll (Kn.dPairs ks) (Kn.dPairs ks) = true
  | [] => by simp [Kn.dPairs, PyData.eqvAll]
  | p :: r => by
    have ih := eqvAll_pairs r
    unfold Kn.dPairs at ih ⊢
    rw [List.map_cons]
    simp [PyData.eqvAll, PyData.eqv, ih]
theorem eqv_kind (ks : List (Str × Int)) : PyData.eqv (Kn.dKind ks) (Kn.dKind ks) = true := by
  unfold Kn.dKind
  rw [PyData.eqv]
  exact eqvAll_pairs ks
theorem sh_kind {ks : List (Str × Int)} (h : ∀ q ∈ ks, Kn.isNm q.1 = true ∧ 0 ≤ q.2 ∧ q.2 ≤ 4) : SeqAt.shaped (Kn.dKind ks) = true := by
  obtain ⟨_, h2, h3, _⟩ := Kn.kd_show ks h
  refine sh_of (by unfold Kn.dKind; simp only [PyData.canLay0]; exact h2) ?_
  unfold Kn.dKind
  have h3' : PyData.depthAll (ks.map fun p => PyData.tuple [.str p.1, .int p.2]) ≤ 10 := h3
  simp only [PyData.depth]
  omega
theorem dp_kindAt {H : Hp} {a : Addr} {ks : List (Str × Int)} (h : KindAt H a ks) : Dp K H (.ref a) (Kn.dKind ks) := by
  obtain ⟨rs, e, pr⟩ := h
  exact .tup (.inl e) (Kn.dp_kind pr)
theorem ok_Resteq {dr : RestD} {mc : Value} {f : Addr} {fd : FuncData} {k : Nat} (F : Fun K "__eq__" "Rest.__eq__" s_Resteq f fd) (T : TxtL mg) (R : RestF P K mg dr) (RG : RestG K dr.rest mc) : FnOk P w K mg base CX0 (k + 1) f fd ["self", "other"] (spRestEq dr) := by
  refine F.ok sc_Resteq (fun vs H Q E h => ?_) (fun cdv A outer s H vs Q E hr h => ?_)
  · obtain ⟨x, y, ks, fs, rfl, _⟩ := h
    rfl
  · obtain ⟨x, y, ks, fs, rfl, ⟨dx, a, r, hx, hk, hf⟩, ⟨dy, b, s2, hy, hk2, hf2⟩, nm, q⟩ := h
    refine ⟨_, (pss_one (ps_ret (pe_and (pe_callB call_isi (by rfl) T.n_isinstance (by decide +kernel) (pa_cons (pv 1) (pa_cons (pe_glob (v := .ref dr.rest) (by rfl) R.gRest rfl) pa_nil))) (pe_and (pe_cmpR (op_eqD hr.units) (pe_fld (pv 0) rfl) (pe_fld (pv 1) rfl) (nomark _)) (pe_one (pe_cmpR (op_eqD hr.units) (pe_fld (pv 0) rfl) (pe_fld (pv 1) rfl) (nomark _))))))), ?_⟩
    refine ⟨_, rfl, _, _, _, _, true, rfl, .own _, .base (.ins hy R.rest RG.ca RG.cn RG.ct RG.cm), RG.isR, _, rfl, ?_⟩
    refine iteT ?_
    refine ⟨_, rfl, x, dr.rest, dx, _, .ref a, rfl, hx, R.rest, R.naK, rfl, _, rfl, y, dr.rest, dy, _, .ref b, rfl, hy, R.rest, R.naK, rfl, _, _, dp_kindAt hk, dp_kindAt hk2, sh_kind nm, sh_kind nm, ?_⟩
    rw [eqv_kind]
    refine ⟨_, rfl, ?_⟩
    refine iteT ?_
    refine ⟨_, rfl, x, dr.rest, dx, _, .ref r, rfl, hx, R.rest, R.naF, rfl, _, rfl, y, dr.rest, dy, _, .ref s2, rfl, hy, R.rest, R.naF, rfl, _, _, .tup (.inl hf) (dp_ints fs), .tup (.inl hf2) (dp_ints fs), shT_intsS fs, shT_intsS fs, ?_⟩
    rw [eqvT_intsS]
    exact q
end
end My

namespace My.Kn
open PySem PySem.Spec PyProof.Rows L2
abbrev s_law_any_kind : Stmt := topS 58
theorem sc_law_any_kind : FnScope ["pot", "menu", "numbers", "at", "tags", "tag", "number"] ["pot"] (defScope s_law_any_kind) := ⟨rfl, rfl, rfl, by decide +kernel, rfl, by decide +kernel, by decide +kernel⟩
/-! ### lists of numbers of a kind -/
structure NumsOk (ns : List Int) : Prop where
  l2 : 2 ≤ ns.length
  l8 : ns.length ≤ 8
  z : (0 : Int) ∈ ns
  t : ∃ x ∈ ns, 2 ≤ x
  a : ∀ x ∈ ns, 0 ≤ x ∧ x ≤ 4
def NumsAt (H : Hp) (v : V) : Prop := ∃ l ns, v = .ref l ∧ H l = some (.lst (ns.map V.int)) ∧ NumsOk ns
theorem NumsAt.same {H H' : Hp} {v : V} (h : NumsAt H v) (s : Same H H') : NumsAt H' v := by
  obtain ⟨l, ns, e, h1, h2⟩ := h
  exact ⟨l, ns, e, s _ _ h1, h2⟩
theorem pot_nums {H : Hp} {p c l : Addr} {ns : List Int} (h : Pot H p c) (e : H l = some (.lst (ns.map V.int))) : l ≠ p := by
  obtain ⟨_, _, _, _, h1, _⟩ := h
  rintro rfl
  rw [h1] at e
  cases ns <;> cases e
theorem NumsAt.but {H H' : Hp} {p c : Addr} {v : V} (h : NumsAt H v) (hP : Pot H p c) (b : But p H H') : NumsAt H' v := by
  obtain ⟨l, ns, e, h1, h2⟩ := h
  exact ⟨l, ns, e, b.1 _ _ h1 (pot_nums hP h1), h2⟩
def litA : List Int → TA
  | [] => tNil
  | n :: r => tCons (tC (.int n)) (litA r)
theorem lit_run {σ : L2.St} {H : Hp} : ∀ (ns : List Int) {Q : List V → Hp → Prop}, Q (ns.map V.int) H → litA ns σ H Q
  | [], _, q => q
  | n :: r, Q, q => lit_run r (Q := fun xs H2 => Q (V.int n :: xs) H2) q
def MkN (σ : L2.St) (te : TE) : Prop := ∀ (H : Hp) (Q : VK), (∀ v H', Same H H' → NumsAt H' v → Q v H') → te σ H Q
def MkNL (σ : L2.St) (ta : TA) (n : Nat) : Prop := ∀ (H : Hp) (Q : List V → Hp → Prop), (∀ vs H', Same H H' → (∀ v ∈ vs, NumsAt H' v) → vs.length = n → Q vs H') → ta σ H Q
theorem mk_lit {σ : L2.St} (ns : List Int) (h : NumsOk ns) : MkN σ (tLst (litA ns)) := fun H Q q => by
  refine lit_run ns ⟨fits_few (by rw [List.length_map]; have := h.l8; omega), fun p np => ?_⟩
  exact q _ _ (same_upd np) ⟨p, ns, rfl, upd_same, h⟩
theorem mkn_nil {σ : L2.St} : MkNL σ tNil 0 := fun H Q q => q [] H (My.same_rfl H) (fun _ z => nomatch z) rfl
theorem mkn_cons {σ : L2.St} {te : TE} {ta : TA} {n : Nat} (h : MkN σ te) (r : MkNL σ ta n) : MkNL σ (tCons te ta) (n + 1) := fun H Q q => h H _ fun v H1 s1 hv => r H1 _ fun vs H2 s2 hvs l => q _ _ (s1.trans s2) (fun x hx => by
  rcases List.mem_cons.mp hx with rfl | hx
  · exact hv.same s2
  · exact hvs x hx) (by rw [List.length_cons, l])
theorem mkn_list {σ : L2.St} {ta : TA} {n : Nat} (h : MkNL σ ta n) (hn : n ≤ 50) {H : Hp} {Q : VK} (q : ∀ L vs H', Same H H' → H' L = some (.lst vs) → (∀ v ∈ vs, NumsAt H' v) → vs.length = n → Q (.ref L) H') : tLst ta σ H Q :=
  h H _ fun vs H1 s1 hv l => ⟨fits_few (by omega), fun p np => q p vs _ (s1.trans (same_upd np)) upd_same (fun v m => (hv v m).same (same_upd np)) l⟩
theorem seq_asg {te : TE} {g : TG} {u : TS} {D : Ends} {σ : L2.St} {H : Hp} : tSeq (tAsg te g) u D σ H = te σ H (fun x H1 => g x σ H1 (u D)) := rfl
theorem nx_asg {i : Nat} {v : V} {σ : L2.St} {H : Hp} {te : TE} {g : TG} {u : TS} {D : Ends} : gName i v σ H (tSeq (tAsg te g) u D) = te (σ.set i (some v)) H (fun x H1 => g x (σ.set i (some v)) H1 (u D)) := rfl
theorem n1 : NumsOk [0, 2] := ⟨by decide, by decide, by decide, by decide, by decide⟩
theorem n2 : NumsOk [0, 1, 2] := ⟨by decide, by decide, by decide, by decide, by decide⟩
theorem n3 : NumsOk [0, 0, 1, 2, 2] := ⟨by decide, by decide, by decide, by decide, by decide⟩
theorem n4 : NumsOk [0, 0, 2, 2] := ⟨by decide, by decide, by decide, by decide, by decide⟩
theorem n5 : NumsOk [0, 0, 1, 3, 3] := ⟨by decide, by decide, by decide, by decide, by decide⟩
theorem n6 : NumsOk [0, 0, 0, 1, 2, 2, 2] := ⟨by decide, by decide, by decide, by decide, by decide⟩
theorem n7 : NumsOk [0, 3] := ⟨by decide, by decide, by decide, by decide, by decide⟩
theorem n8 : NumsOk [0, 1, 4] := ⟨by decide, by decide, by decide, by decide, by decide⟩
theorem n9 : NumsOk [0, 0, 1, 1, 1, 2, 2] := ⟨by decide, by decide, by decide, by decide, by decide⟩
theorem n10 : NumsOk [0, 0, 1, 4, 4] := ⟨by decide, by decide, by decide, by decide, by decide⟩
theorem n11 : NumsOk [0, 2, 3] := ⟨by decide, by decide, by decide, by decide, by decide⟩
theorem n12 : NumsOk [0, 0, 1, 2, 2, 3, 3] := ⟨by decide, by decide, by decide, by decide, by decide⟩
theorem n13 : NumsOk [0, 1, 1, 2] := ⟨by decide, by decide, by decide, by decide, by decide⟩
section
variable {P : Program} {w : World} {K : PySem.W.Frag} {mg : Str → Option Value} {base : Heap}
theorem ok_any_kind {f fb fp fn fk : Addr} {fd fdb fdp fdn fdk : FuncData} {k : Nat} (F : Fun K "_law_any_kind" "_law_any_kind" s_law_any_kind f fd) (T : TxtM mg) (F__law_below : Fun K "_law_below" "_law_below" s_law_below fb fdb) (b__law_below : Binds K fdb ["pot", "bound"] []) (g__law_below : mg "_law_below" = some (.ref fb))
    (G__law_below : FnOk P w K mg base CX0 2 fb fdb ["pot", "bound"] spBelow) (F__law_pick : Fun K "_law_pick" "_law_pick" s_law_pick fp fdp) (b__law_pick : Binds K fdp ["pot", "items"] []) (g__law_pick : mg "_law_pick" = some (.ref fp))
    (G__law_pick : FnOk P w K mg base CX0 3 fp fdp ["pot", "items"] (spPick K)) (F__law_some_names : Fun K "_law_some_names" "_law_some_names" s_law_some_names fn fdn) (b__law_some_names : Binds K fdn ["pot", "many"] []) (g__law_some_names : mg "_law_some_names" = some (.ref fn))
    (G__law_some_names : FnOk P w K mg base CX0 4 fn fdn ["pot", "many"] spNames) (F__law_some_kind : Fun K "_law_some_kind" "_law_some_kind" s_law_some_kind fk fdk) (b__law_some_kind : Binds K fdk ["pot"] []) (g__law_some_kind : mg "_law_some_kind" = some (.ref fk))
    (G__law_some_kind : FnOk P w K mg base CX0 5 fk fdk ["pot"] spKind) : FnOk P w K mg base CX0 (k + 6) f fd ["pot"] spKind := by
  refine F.ok sc_law_any_kind (fun vs H Q E h => ?_) (fun cdv A outer s H vs Q E hr h => ?_)
  · obtain ⟨p, c, rfl, _⟩ := h
    rfl
  · obtain ⟨p, c, rfl, hP, q⟩ := h
    refine ⟨_, (pss_cons (ps_set (i := 1) sc_law_any_kind.nd rfl (.inl rfl) (pe_lst (pa_cons (pe_lst (pa_cons pe_int (pa_cons pe_int pa_nil))) (pa_cons (pe_lst (pa_cons pe_int (pa_cons pe_int (pa_cons pe_int pa_nil)))) (pa_cons (pe_lst (pa_cons pe_int (pa_cons pe_int (pa_cons pe_int (pa_cons pe_int (pa_cons pe_int pa_nil)))))) (pa_cons (pe_lst (pa_cons pe_int (pa_cons pe_int (pa_cons pe_int (pa_cons pe_int pa_nil))))) (pa_cons (pe_lst (pa_cons pe_int (pa_cons pe_int (pa_cons pe_int (pa_cons pe_int (pa_cons pe_int pa_nil)))))) (pa_cons (pe_lst (pa_cons pe_int (pa_cons pe_int (pa_cons pe_int (pa_cons pe_int (pa_cons pe_int (pa_cons pe_int (pa_cons pe_int pa_nil)))))))) (pa_cons (pe_lst (pa_cons pe_int (pa_cons pe_int pa_nil))) (pa_cons (pe_lst (pa_cons pe_int (pa_cons pe_int (pa_cons pe_int pa_nil)))) pa_nil))))))))))
  (pss_cons (ps_set (i := 1) sc_law_any_kind.nd rfl (.inl rfl) (pe_op op_cat (pv 1) (pe_lst (pa_cons (pe_lst (pa_cons pe_int (pa_cons pe_int (pa_cons pe_int (pa_cons pe_int (pa_cons pe_int (pa_cons pe_int (pa_cons pe_int pa_nil)))))))) (pa_cons (pe_lst (pa_cons pe_int (pa_cons pe_int (pa_cons pe_int (pa_cons pe_int (pa_cons pe_int pa_nil)))))) (pa_cons (pe_lst (pa_cons pe_int (pa_cons pe_int (pa_cons pe_int pa_nil)))) (pa_cons (pe_lst (pa_cons pe_int (pa_cons pe_int (pa_cons pe_int (pa_cons pe_int (pa_cons pe_int (pa_cons pe_int (pa_cons pe_int pa_nil)))))))) (pa_cons (pe_lst (pa_cons pe_int (pa_cons pe_int (pa_cons pe_int (pa_cons pe_int pa_nil))))) pa_nil))))))))
  (pss_cons (ps_if (pt_cmpR op_eq (pe_call G__law_below (hr.mono (by omega)) (by rfl) g__law_below F__law_below.kp b__law_below .nil pass0 (pa_cons (pv 0) (pa_cons pe_int pa_nil))) pe_int (nomark _))
   (pss_one (ps_ret (pe_call G__law_some_kind (hr.mono (by omega)) (by rfl) g__law_some_kind F__law_some_kind.kp b__law_some_kind .nil pass0 (pa_cons (pv 0) pa_nil))))
   pss_nil)
  (pss_cons (ps_set (i := 2) sc_law_any_kind.nd rfl (.inl rfl) (pe_call G__law_pick (hr.mono (by omega)) (by rfl) g__law_pick F__law_pick.kp b__law_pick .nil pass0 (pa_cons (pv 0) (pa_cons (pv 1) pa_nil))))
  (pss_cons (ps_set (i := 3) sc_law_any_kind.nd rfl (.inl rfl) (pe_call G__law_below (hr.mono (by omega)) (by rfl) g__law_below F__law_below.kp b__law_below .nil pass0 (pa_cons (pv 0) (pa_cons (pe_callB call_len_seq (by rfl) T.n_len (by decide +kernel) (pa_cons (pv 2) pa_nil)) pa_nil))))
  (pss_cons (ps_set (i := 4) sc_law_any_kind.nd rfl (.inl rfl) (pe_call G__law_some_names (hr.mono (by omega)) (by rfl) g__law_some_names F__law_some_names.kp b__law_some_names .nil pass0 (pa_cons (pv 0) (pa_cons (pe_callB call_len_seq (by rfl) T.n_len (by decide +kernel) (pa_cons (pv 2) pa_nil)) pa_nil))))
  (pss_one (ps_ret (pe_callTy call_tupleF (by rfl) T.n_tuple (by decide +kernel) (pa_cons (pe_lc (own := [("tag", 5), ("number", 6)]) (g := gTup K 2 (gCons (gName 5) (gCons (gName 6) gNil))) rfl sc_law_any_kind.nd (pi_zip (by rfl) T.n_zip (pa_cons (pv 4) (pa_cons (pe_op op_cat (pe_slice sl_list (pv 2) (po_some (pv 3)) po_none) (pe_slice sl_list (pv 2) po_none (po_some (pv 3)))) pa_nil))) (blkOk_by (own := [("tag", 5), ("number", 6)]) (N := ["pot", "menu", "numbers", "at", "tags", "tag", "number"]) (sc := defScope s_law_any_kind) (by decide +kernel)) (fun _ _ _ _ _ => (pg_tup rfl (pgs_cons (pg_name (i := 5) sc_law_any_kind.nd rfl (.inl rfl)) (pgs_cons (pg_name (i := 6) sc_law_any_kind.nd rfl (.inl rfl)) pgs_nil)))) (fun _ _ _ _ _ => pts_nil) (fun _ _ _ _ _ => (pe_tup (pa_cons (pv 5) (pa_cons (pv 6) pa_nil))))) pa_nil)))))))))), ?_⟩
    clear G__law_below G__law_pick G__law_some_names G__law_some_kind
    have ok : ∀ ns : List Int, 2 ≤ ns.length → ns.length ≤ 8 → (0 : Int) ∈ ns → (∃ x ∈ ns, 2 ≤ x) → (∀ x ∈ ns, 0 ≤ x ∧ x ≤ 4) → NumsOk ns := fun _ a b c d e => ⟨a, b, c, d, e⟩
    rw [seq_asg]
    refine mkn_list (n := 8) (mkn_cons (mk_lit [0, 2] n1) (mkn_cons (mk_lit [0, 1, 2] n2) (mkn_cons (mk_lit [0, 0, 1, 2, 2] n3) (mkn_cons (mk_lit [0, 0, 2, 2] n4) (mkn_cons (mk_lit [0, 0, 1, 3, 3] n5) (mkn_cons (mk_lit [0, 0, 0, 1, 2, 2, 2] n6) (mkn_cons (mk_lit [0, 3] n7) (mkn_cons (mk_lit [0, 1, 4] n8) mkn_nil)))))))) (by decide) fun L1 vs1 H1 s1 e1 a1 l1 => ?_
    refine ⟨_, rfl, mkn_list (n := 5) (mkn_cons (mk_lit [0, 0, 1, 1, 1, 2, 2] n9) (mkn_cons (mk_lit [0, 0, 1, 4, 4] n10) (mkn_cons (mk_lit [0, 2, 3] n11) (mkn_cons (mk_lit [0, 0, 1, 2, 2, 3, 3] n12) (mkn_cons (mk_lit [0, 1, 1, 2] n13) mkn_nil))))) (by decide) fun L2 vs2 H2 s2 e2 a2 l2 => ⟨L1, L2, _, _, rfl, rfl, s2 _ _ e1, e2, fits_few (by omega), fun M nM => ?_⟩⟩
    have sM := same_upd (o := .lst (vs1 ++ vs2)) nM
    have eM : (upd H2 M (.lst (vs1 ++ vs2))) M = some (.lst (vs1 ++ vs2)) := upd_same
    have aM : ∀ v ∈ vs1 ++ vs2, NumsAt (upd H2 M (.lst (vs1 ++ vs2))) v := fun v hv => by
      rcases List.mem_append.mp hv with hv | hv
      · exact ((a1 v hv).same s2).same sM
      · exact (a2 v hv).same sM
    have lM : (vs1 ++ vs2).length = 13 := by rw [List.length_append]; omega
    have s03 := (s1.trans s2).trans sM
    have npM : p ≠ M := by
      obtain ⟨_, _, _, _, hp, _⟩ := id hP
      exact ne_of_none ((s1.trans s2) _ _ hp) nM
    generalize upd H2 M (.lst (vs1 ++ vs2)) = H3 at eM aM s03
    generalize vs1 ++ vs2 = ms at eM aM lM
    have hP3 := hP.same s03
    have b03 : But p H H3 := by
      obtain ⟨_, _, _, _, hp, _⟩ := id hP
      exact But.of (s03 _ _ hp) s03
    clear e1 a1 e2 a2 s1 s2 sM nM
    refine ⟨_, rfl, p, c, _, rfl, hP3, by decide, by decide, fun v H4 v0 v1 hP4 b4 => ⟨rfl, decide (v = 0), My.eqI _ 0, ?_⟩⟩
    have b04 := b03.trans b4
    by_cases z : v = 0
    · rw [decide_eq_true z]
      refine iteT ?_
      exact ⟨_, rfl, p, c, rfl, hP4, fun a ks H' b hPx na kf rk => q a ks H' (b04.trans b) hPx (b04.free na) kf rk⟩
    rw [decide_eq_false z]
    refine iteF ?_
    have eM4 := b4.1 _ _ eM npM.symm
    refine ⟨_, rfl, _, rfl, p, c, M, _, rfl, hP4, .inl (.inl eM4), (fun z => by rw [z] at lM; cases lM), by omega, fun H' hb => .inl (.inl (hb.1 _ _ eM4 npM.symm)), fun v5 H5 hv5 hP5 b5 => ?_⟩
    obtain ⟨a2, nn, rfl, h5, ok5⟩ := ((aM v5 hv5).but hP3 b4).but hP4 b5
    have b05 := b04.trans b5
    have na2 := pot_nums hP5 h5
    clear eM4 aM eM b4 b5 hP4 b04 hP3 b03
    have n2 := ok5.l2
    have n8 := ok5.l8
    refine ⟨_, rfl, _, rfl, a2, _, rfl, .inl (.inl (.inl h5)), p, c, _, rfl, hP5, by rw [List.length_map]; omega, by rw [List.length_map]; omega, fun t H6 t0 t1 hP6 b6 => ?_⟩
    rw [List.length_map] at t1
    obtain ⟨tn, rfl⟩ : ∃ tn : Nat, t = (tn : Int) := ⟨t.toNat, by omega⟩
    have htn : tn ≤ nn.length := by omega
    have h6 := b6.1 _ _ h5 na2
    have b06 := b05.trans b6
    refine ⟨_, rfl, _, rfl, a2, _, rfl, .inl (.inl (.inl h6)), p, c, nn.length, ?_, hP6, n8, fun l ws H7 b7 hP7 nl hl lw nm nw => ?_⟩
    · rw [List.length_map]
      rfl
    have h7 := b7.1 _ _ h6 na2
    have b07 := b06.trans b7
    -- tuple([(tag, number) for tag, number in zip(..)])
    refine ⟨_, rfl, _, rfl, _, rfl, _, rfl, a2, _, rfl, .inl (.inl h7), fun a3 f3 => ?_⟩
    rw [cutI_post nn tn htn]
    have s7 := same_upd (o := .lst ((nn.drop tn).map V.int)) f3
    refine ⟨_, rfl, _, rfl, _, rfl, a2, _, rfl, .inl (.inl (s7 _ _ h7)), fun a4 f4 => ?_⟩
    rw [cutI_pre nn tn htn]
    have s8 := same_upd (o := .lst ((nn.take tn).map V.int)) f4
    refine ⟨a3, a4, _, _, rfl, rfl, s8 _ _ upd_same, upd_same, fits_few (by rw [List.length_map, List.length_map, List.length_drop, List.length_take]; omega), fun a5 f5 => ?_⟩
    rw [← List.map_append]
    have s9 := same_upd (o := .lst ((nn.drop tn ++ nn.take tn).map V.int)) f5
    generalize hrot : nn.drop tn ++ nn.take tn = rot at s9 ⊢
    have mem : ∀ x, x ∈ rot ↔ x ∈ nn := fun x => by
      rw [← hrot, List.mem_append, Or.comm, ← List.mem_append, List.take_append_drop]
    have lR : rot.length = nn.length := by
      rw [← hrot, List.length_append, List.length_drop, List.length_take]
      omega
    have s69 := (s7.trans s8).trans s9
    have h5a : ∀ G : Hp, upd G a5 (.lst (rot.map V.int)) a5 = some (.lst (rot.map V.int)) := fun G => upd_same
    have h10 := h5a (upd (upd H7 a3 (.lst ((nn.drop tn).map V.int))) a4 (.lst ((nn.take tn).map V.int)))
    generalize upd (upd (upd H7 a3 (.lst ((nn.drop tn).map V.int))) a4 (.lst ((nn.take tn).map V.int))) a5 (.lst (rot.map V.int)) = H10 at s69 h10 ⊢
    have hl10 := s69 _ _ hl
    have hP10 := hP7.same s69
    have b10 := b07.same s69
    have nlr : ws.length = rot.length := by omega
    refine ⟨l, a5, _, _, rfl, .inl (.inl hl10), .inl (.inl h10), fun Y nY => ?_⟩
    have nYH : H Y = none := b10.free nY
    refine lc_it (walk_zip (n := nn.length) (xs := ws.map V.str) (ys := rot.map V.int) (by rw [List.length_map, List.length_map]; omega)) (fun i H11 => Same H10 H11 ∧ ∃ rs : List Addr, H11 Y = some (.lst (rs.map V.ref)) ∧ Prs H11 rs ((ws.zip rot).take i)) ⟨same_upd nY, [], upd_same, .nil⟩ (fun i H11 _ h => ⟨.inl (.inl (h.1 _ _ hl10)), .inl (.inl (h.1 _ _ h10))⟩) ?_ ?_
    · rintro i x H11 H12 hi ⟨s11, rs, hY, pr⟩ ⟨T4, x4, y4, rfl, nT, rfl, ex, ey⟩
      have ex : (ws.map V.str)[i]? = some x4 := ex
      have ey : (rot.map V.int)[i]? = some y4 := ey
      rw [List.getElem?_map, List.getElem?_eq_getElem (show i < ws.length by omega)] at ex
      obtain rfl : V.str ws[i] = x4 := Option.some.inj ex
      obtain ⟨n, rfl, hn⟩ := int_item ey
      have hz : (ws.zip rot)[i]? = some (ws[i], n) := by
        rw [List.getElem?_zip_eq_some]
        exact ⟨List.getElem?_eq_getElem (show i < ws.length by omega), hn⟩
      refine ⟨T4, _, rfl, .inl (.inl upd_same), rfl, _, _, rfl, _, _, rfl, rfl, rfl, ?_⟩
      unfold tYes
      dsimp only
      rw [if_pos rfl]
      have sT := same_upd (o := .tup [.str ws[i], .int n]) nT
      refine ⟨_, rfl, _, rfl, by show 2 ≤ sizeLine; decide, fun r nr => ?_⟩
      have sr := same_upd (o := .tup [.str ws[i], .int n]) nr
      have prl := pr.length
      have nYr : r ≠ Y := fun z => by
        have y := ne_of_none (sT _ _ hY) nr
        exact y z.symm
      refine ⟨_, sr _ _ (sT _ _ hY), ?_, same_at ((s11.trans sT).trans sr) nY, rs ++ [r], ?_, ?_⟩
      · rw [List.length_map, prl, List.length_take]
        exact small1000 (by omega)
      · rw [upd_same, List.map_append]
        rfl
      · rw [List.take_succ, hz]
        refine Prs.snoc ?_ ?_
        · exact ((pr.same sT).same sr).grow (sr _ _ (sT _ _ hY))
        · exact .inl (by rw [upd_ne nYr, upd_same])
    · rintro H11 ⟨s11, rs, hY, pr⟩
      have lz : (ws.zip rot).length = nn.length := by rw [List.length_zip]; omega
      rw [← lz, List.take_length] at pr
      refine ⟨Y, _, rfl, .inl (.inl hY), fun a ob na nob => ?_⟩
      have sa := same_upd (o := .frz ob (.tup (rs.map V.ref))) na
      have e1 : (ws.zip rot).map (·.1) = ws := List.map_fst_zip (by omega)
      have e2 : (ws.zip rot).map (·.2) = rot := List.map_snd_zip (by omega)
      refine q a (ws.zip rot) _ ((b10.same s11).same sa) ((hP10.same s11).same sa) ((b10.same s11).free na) ⟨rs, ob, upd_same, nob, pr.same sa⟩ ⟨by omega, ?_, ?_⟩
      · unfold okK
        rw [e1, e2, decide_eq_true nw, decide_eq_true ((mem 0).mpr ok5.z), Bool.true_and, Bool.true_and, List.any_eq_true]
        obtain ⟨x, hx, h2⟩ := ok5.t
        exact ⟨x, (mem x).mpr hx, decide_eq_true h2⟩
      · rintro ⟨y, n⟩ hq
        obtain ⟨m1, m2⟩ := List.of_mem_zip hq
        exact ⟨nm y m1, ok5.a n ((mem n).mp m2)⟩
end
end My.Kn

namespace My.Kn
open PySem PySem.Spec PyProof.Rows L2
abbrev s_law_by : Stmt := topS 60
theorem sc_law_by : FnScope ["kind", "tag", "number", "found"] ["kind"] (defScope s_law_by) := ⟨rfl, rfl, rfl, by decide +kernel, rfl, by decide +kernel, by decide +kernel⟩
theorem cnt_step {ns : List Int} {n m : Nat} (h : n < m) : (cnt ns m).set n ((cnt ns m).getD n 0 + 1) = cnt (ns ++ [(n : Int)]) m := by
  refine List.ext_getElem (by rw [List.length_set, cnt_len, cnt_len]) fun k h1 h2 => ?_
  rw [cnt_len] at h2
  have e : ∀ (L : List Int) (i : Nat) (hi : i < L.length), L[i] = L.getD i 0 := fun L i hi => by rw [List.getD_eq_getElem?_getD, List.getElem?_eq_getElem hi]; rfl
  rw [e, e, getD_set, cnt_get, cnt_get, cnt_get, if_pos h, if_pos h2, cnt_len, List.count_append, List.count_singleton]
  by_cases z : n = k
  · rw [if_pos ⟨z, h⟩, z]
    simp
    omega
  · rw [if_neg (fun y => z y.1)]
    have : ((n : Int) == (k : Int)) = false := by simp; omega
    rw [this]
    simp
    omega
theorem cnt_nil (m : Nat) : cnt [] m = List.replicate m 0 := by
  unfold cnt
  refine List.ext_getElem (by simp) fun k h1 h2 => ?_
  simp
structure spBy (vs : List V) (H : Hp) (Q : VK) (E : XK) : Prop where
  ex : ∃ a ks m, vs = [.ref a] ∧ KindAt H a ks ∧ Right ks ∧ Best ks m ∧ ∀ l H', Same H H' → H l = none → H' l = some (.lst ((byL (ks.map (·.2)) m).map V.int)) → Q (.ref l) H'
section
variable {P : Program} {w : World} {K : PySem.W.Frag} {mg : Str → Option Value} {base : Heap}
structure TxtB (mg : Str → Option Value) : Prop where
  n_max : mg "max" = none
theorem ok_by {f : Addr} {fd : FuncData} {k : Nat} (F : Fun K "_law_by" "_law_by" s_law_by f fd) (T : TxtB mg) : FnOk P w K mg base CX0 (k + 1) f fd ["kind"] spBy := by
  refine F.ok sc_law_by (fun vs H Q E h => ?_) (fun cdv A outer s H vs Q E hr h => ?_)
  · obtain ⟨a, ks, m, rfl, _⟩ := h
    rfl
  · obtain ⟨a, ks, m, rfl, hk, rk, bm, q⟩ := h
    refine ⟨_, (pss_cons (ps_set (i := 3) sc_law_by.nd rfl (.inl rfl) (pe_op op_rep (pe_lst (pa_cons pe_int pa_nil)) (pe_op op_add pe_int (pe_callB (cr_max (by rfl)) (by rfl) T.n_max (by decide +kernel) (pa_cons (pe_lc (own := [("tag", 1), ("number", 2)]) (g := gTup K 2 (gCons (gName 1) (gCons (gName 2) gNil))) rfl sc_law_by.nd (pi_tup (pv 0)) (blkOk_by (own := [("tag", 1), ("number", 2)]) (N := ["kind", "tag", "number", "found"]) (sc := defScope s_law_by) (by decide +kernel)) (fun _ _ _ _ _ => (pg_tup rfl (pgs_cons (pg_name (i := 1) sc_law_by.nd rfl (.inl rfl)) (pgs_cons (pg_name (i := 2) sc_law_by.nd rfl (.inl rfl)) pgs_nil)))) (fun _ _ _ _ _ => pts_nil) (fun _ _ _ _ _ => (pv 2))) pa_nil)))))
  (pss_cons (ps_for PassesOwn.never rfl (pi_tup (pv 0)) (pg_tup rfl (pgs_cons (pg_name (i := 1) sc_law_by.nd rfl (.inl rfl)) (pgs_cons (pg_name (i := 2) sc_law_by.nd rfl (.inl rfl)) pgs_nil)))
   (pss_one (ps_asg (pe_op op_add (pe_ix ix_list (pv 3) (pv 2) (fun _ _ => rfl)) pe_int) (pg_sub (pv 3) (pv 2) set_list))))
  (pss_cons (ps_asg (pe_op op_sub (pe_ix ix_list (pv 3) pe_int (fun _ _ => rfl)) pe_int) (pg_sub (pv 3) pe_int set_list))
  (pss_one (ps_ret (pv 3)))))), ?_⟩
    obtain ⟨rs, ea, pr⟩ := id hk
    have lr := pr.length
    refine ⟨by show 1 ≤ sizeLine; decide, fun b1 nb1 => ?_⟩
    have s1 := same_upd (o := .lst [V.int 0]) nb1
    have e1 : (upd H b1 (.lst [V.int 0])) b1 = some (.lst [V.int 0]) := upd_same
    generalize upd H b1 (.lst [V.int 0]) = H1 at s1 e1 ⊢
    refine ⟨_, rfl, a, rfl, ⟨_, .inl (ea.same s1)⟩, fun N nN => ?_⟩
    refine lc_it (walk_tup (xs := rs.map V.ref)) (fun i H5 => Same H1 H5 ∧ H5 N = some (.lst ((ks.take i).map fun p => V.int p.2))) ⟨same_upd nN, upd_same⟩ (fun i H5 _ h => .inl ((ea.same s1).same h.1)) ?_ ?_
    · rintro i x H5 H6 hi ⟨s5, hN⟩ ⟨rfl, ex⟩
      obtain ⟨r, pp, rfl, hk, hr2⟩ := (pr.same s1).item ex
      refine ⟨r, _, rfl, .inl (hr2.same s5), rfl, _, _, rfl, _, _, rfl, rfl, rfl, ?_⟩
      unfold tYes
      dsimp only
      rw [if_pos rfl]
      refine ⟨_, rfl, _, hN, ?_, ?_, ?_⟩
      · rw [List.length_map, List.length_take]
        exact small1000 (by have := rk.1.2; omega)
      · exact same_at s5 nN
      · rw [upd_same, take_next hk]
    rintro H5 ⟨s5, hN⟩
    rw [List.length_map, lr, List.take_length] at hN
    have hN2 : H5 N = some (.lst ((ks.map (·.2)).map V.int)) := by
      rw [hN, List.map_map]
      rfl
    have al : ∀ n : Int, n ∈ ks.map (fun p => p.2) → 0 ≤ n ∧ n ≤ (m : Int) := bm.most.2
    have m4 := bm.m4
    have m2 := bm.m2
    refine ⟨N, ks.map (·.2), rfl, .inl (.inl hN2), by rw [List.length_map]; have := rk.1.1; omega, fun mx hmx hall => ⟨_, _, rfl, rfl, ?_⟩⟩
    have emx : mx = (m : Int) := by
      have h1 := hall _ bm.most.1
      have h2 := (al _ hmx).2
      omega
    subst emx
    have s15 := s1.trans s5
    refine ⟨b1, 1 + (m : Int), _, rfl, rfl, s5 _ _ e1, by omega, by omega, by show 1 * Int.toNat (1 + (m : Int)) ≤ sizeLine; exact Nat.le_of_lt (small1000 (by omega)), fun L nL => ?_⟩
    have eL : (upd H5 L (.lst (List.replicate (Int.toNat (1 + (m : Int))) [V.int 0]).flatten)) L = some (.lst ((cnt [] (m + 1)).map V.int)) := by
      rw [upd_same, cnt_nil, show Int.toNat (1 + (m : Int)) = m + 1 by omega]
      simp
    have s6 := s15.trans (same_upd (o := .lst (List.replicate (Int.toNat (1 + (m : Int))) [V.int 0]).flatten) nL)
    have nLH : H L = none := s15.free nL
    generalize upd H5 L (.lst (List.replicate (Int.toNat (1 + (m : Int))) [V.int 0]).flatten) = H6 at s6 eL ⊢
    refine ⟨_, rfl, a, rfl, ⟨_, .inl (ea.same s6)⟩, ?_⟩
    refine for_it (walk_tup (xs := rs.map V.ref)) (fun i σ H7 => Same H H7 ∧ ∃ v1 v2 : Option V, σ = [some (.ref a), v1, v2, some (.ref L)] ∧ H7 L = some (.lst ((cnt ((ks.take i).map (·.2)) (m + 1)).map V.int))) ⟨s6, none, none, rfl, eL⟩ (fun i σ H7 _ h => .inl (ea.same h.1)) ?_ ?_
    · rintro i x σ H7 H8 hi ⟨s7, v1, v2, rfl, eL7⟩ ⟨rfl, ex⟩
      obtain ⟨r, pp, rfl, hkp, hr2⟩ := pr.item ex
      have hp2 := al pp.2 (List.mem_map.mpr ⟨pp, List.mem_of_getElem? hkp, rfl⟩)
      obtain ⟨n, hn⟩ : ∃ n : Nat, pp.2 = (n : Int) := ⟨pp.2.toNat, by omega⟩
      have lt : n < (cnt ((ks.take i).map (·.2)) (m + 1)).length := by rw [cnt_len]; omega
      refine ⟨r, _, rfl, .inl (hr2.same s7), rfl, _, _, rfl, _, _, rfl, rfl, ?_⟩
      rw [hn]
      refine ⟨_, rfl, _, rfl, L, _, (n : Nat), _, rfl, rfl, .inl (.inl eL7), get_nat lt, _, _, rfl, rfl, _, rfl, _, rfl, L, _, (n : Nat), n, rfl, rfl, eL7, ?_, ?_⟩
      · rw [List.length_map]
        exact ix_nat lt
      · rw [← List.map_set, cnt_step (by omega)]
        refine ⟨same_at s7 nLH, _, _, rfl, ?_⟩
        rw [upd_same, List.take_add_one, hkp, List.map_append]
        show some (HO.lst ((cnt (((ks.take i).map (·.2)) ++ [(n : Int)]) (m + 1)).map V.int)) = some (HO.lst ((cnt (((ks.take i).map (·.2)) ++ [pp.2]) (m + 1)).map V.int))
        rw [hn]
    rintro σ H7 ⟨s7, v1, v2, rfl, eL7⟩
    rw [List.length_map, lr, List.take_length] at eL7
    have lt : 1 < (cnt (ks.map (·.2)) (m + 1)).length := by rw [cnt_len]; omega
    refine ⟨_, rfl, L, _, (1 : Nat), _, rfl, rfl, .inl (.inl eL7), get_nat lt, _, _, rfl, rfl, _, rfl, L, _, (1 : Nat), 1, rfl, rfl, eL7, ?_, ?_⟩
    · rw [List.length_map]
      exact ix_nat lt
    · rw [← List.map_set, cnt_get, if_pos (by omega)]
      exact ⟨_, rfl, q L _ (same_at s7 nLH) nLH upd_same⟩
end
end My.Kn

namespace My
open PySem PySem.Spec PyProof.Rows L2
abbrev s_law_less : Stmt := topS 64
theorem sc_law_less : FnScope ["one", "other", "factor"] ["one", "other"] (defScope s_law_less) := ⟨rfl, rfl, rfl, by decide +kernel, rfl, by decide +kernel, by decide +kernel⟩

def negL (ns : List Int) : List Int := ns.map fun z => 0 - z
theorem getD_neg (ns : List Int) (k : Nat) : (negL ns).getD k 0 = -(ns.getD k 0) := by
  unfold negL
  rw [List.getD_eq_getElem?_getD, List.getElem?_map, List.getD_eq_getElem?_getD]
  cases ns[k]? with
  | none => rfl
  | some z =>
    show 0 - z = -z
    omega
structure spLess (vs : List V) (H : Hp) (Q : VK) (E : XK) : Prop where
  ex : ∃ a b as bs, vs = [.ref a, .ref b] ∧ H a = some (.lst (as.map V.int)) ∧ Rd H b (.tup (bs.map V.int)) ∧ as.length ≤ 300 ∧ bs.length ≤ 300 ∧ ∀ l H', Same H H' → H l = none → H' l = some (.lst ((trimN (addL as (negL bs))).map V.int)) → Q (.ref l) H'
theorem get_last {L : List Int} (h : 0 < L.length) : atI (L.map V.int) (-1) = some (V.int (L.getD (L.length - 1) 0)) := by
  unfold atI ixN
  rw [List.length_map, if_neg (by decide), if_pos (by omega), Option.bind_some, show (-1 + ((L.length : Nat) : Int)).toNat = L.length - 1 by omega, List.getElem?_map, List.getD_eq_getElem?_getD, List.getElem?_eq_getElem (by omega)]
  rfl
/-- drawn factors of either sign -/
structure spPoly (vs : List V) (H : Hp) (Q : VK) (E : XK) : Prop where
  ex : ∃ (p c : Addr) (many : Nat), vs = [.ref p, .int (many : Nat)] ∧ Pot H p c ∧ many ≤ 100 ∧ ∀ (l : Addr) (ns : List Int) (H' : Hp), H l = none → Pot H' p c → But p H H' → H' l = some (.lst (ns.map V.int)) → ns.length ≤ many → (∀ n ∈ ns, n.natAbs < 2 ^ 60) → Q (.ref l) H'
structure TxtW (mg : Str → Option Value) : Prop where
  n_list : mg "list" = none
  n_len : mg "len" = none
  n_enumerate : mg "enumerate" = none
  n_range : mg "range" = none
section
variable {P : Program} {w : World} {K : PySem.W.Frag} {mg : Str → Option Value} {base : Heap}
theorem ok_less {f f1 : Addr} {fd fd1 : FuncData} {k : Nat} (F : Fun K "_law_less" "_law_less" s_law_less f fd) (F__law_sum : Fun K "_law_sum" "_law_sum" s_law_sum f1 fd1) (b__law_sum : Binds K fd1 ["one", "other"] []) (g__law_sum : mg "_law_sum" = some (.ref f1)) (G__law_sum : FnOk P w K mg base CX0 2 f1 fd1 ["one", "other"] spSumX) : FnOk P w K mg base CX0 (k + 3) f fd ["one", "other"] spLess := by
  refine F.ok sc_law_less (fun vs H Q E h => ?_) (fun cdv A outer s H vs Q E hr h => ?_)
  · obtain ⟨a, b, as, bs, rfl, _⟩ := h
    rfl
  · obtain ⟨a, b, as, bs, rfl, ha, hb, la, lb, q⟩ := h
    refine ⟨_, (pss_one (ps_ret (pe_call G__law_sum (hr.mono (by omega)) (by rfl) g__law_sum F__law_sum.kp b__law_sum .nil pass0 (pa_cons (pv 0) (pa_cons (pe_lc (own := [("factor", 2)]) (g := gName 2) rfl sc_law_less.nd (pi_tup (pv 1)) (blkOk_by (own := [("factor", 2)]) (N := ["one", "other", "factor"]) (sc := defScope s_law_less) (by decide +kernel)) (fun _ _ _ _ _ => (pg_name (i := 2) sc_law_less.nd rfl (.inl rfl))) (fun _ _ _ _ _ => pts_nil) (fun _ _ _ _ _ => (pe_op op_sub pe_int (pv 2)))) pa_nil))))), ?_⟩
    clear G__law_sum
    refine ⟨_, rfl, _, rfl, b, rfl, ⟨_, .inl hb⟩, fun N nN => ?_⟩
    refine lc_it (walk_tup (xs := bs.map V.int)) (fun i H5 => Same H H5 ∧ H5 N = some (.lst ((negL (bs.take i)).map V.int))) ⟨same_upd nN, upd_same⟩ (fun i H5 _ h => .inl (rd_same hb h.1)) ?_ ?_
    · rintro i z H5 H6 hi ⟨s5, hN⟩ ⟨rfl, ez⟩
      rw [List.length_map] at hi
      rw [List.getElem?_map, List.getElem?_eq_getElem hi] at ez
      obtain rfl : V.int bs[i] = z := Option.some.inj ez
      refine ⟨rfl, ?_⟩
      unfold tYes
      dsimp only
      rw [if_pos rfl]
      refine ⟨_, rfl, _, _, rfl, rfl, _, hN, small1000 (by rw [negL, List.length_map, List.length_map, List.length_take]; omega), same_at s5 nN, ?_⟩
      rw [upd_same, List.take_add_one, List.getElem?_eq_getElem hi, negL, negL, List.map_append, List.map_append]
      rfl
    rintro H5 ⟨s5, hN⟩
    rw [List.length_map, List.take_length] at hN
    exact ⟨a, N, as, negL bs, rfl, s5 _ _ ha, hN, la, by rw [negL, List.length_map]; exact lb, fun l H' s nl e => q l H' (s5.trans s) (s5.free nl) e⟩
end
end My

namespace My
open PySem PySem.Spec PyProof.Rows L2
open Kn (KindAt Right Best byL by_divisor right_best)

structure spLTrimT (K : PySem.W.Frag) (vs : List V) (H : Hp) (Q : VK) (E : XK) : Prop where
  ex : ∃ a ns, vs = [.ref a] ∧ SqT K H a (ns.map V.int) ∧ ns.length ≤ 900 ∧ ∀ l H', Same H H' → H l = none → H' l = some (.lst ((trimN ns).map V.int)) → Q (.ref l) H'

theorem ty_rd {K : PySem.W.Frag} {H : Hp} {r : Addr} {xs : List V} (h : Rd H r (.tup xs)) : TyX K H (.ref r) (.type "tuple") := by
  rcases h with e | ⟨o, e⟩
  · exact .base (.tup e)
  · exact .fTuple e
theorem eqvL_ints (ns : List Int) : PyData.eqv (.list (ns.map PyData.int)) (.list (ns.map PyData.int)) = true := by
  rw [PyData.eqv]
  exact eqvAll_intsS ns
theorem call_isiQ {X : Cx} {K : PySem.W.Frag} (hK : X.K = K) : CallR X (.builtin "isinstance") (rIsi K) := by
  subst hK
  exact call_isi
structure TxtR (mg : Str → Option Value) : Prop where
  n_isinstance : mg "isinstance" = none
  n_tuple : mg "tuple" = none
  n_list : mg "list" = none
  n_int : mg "int" = none
  n_bool : mg "bool" = none
  n_len : mg "len" = none
section
variable {P : Program} {w : World} {K : PySem.W.Frag} {mg : Str → Option Value} {base : Heap}
theorem ok_law_trimmedT {f : Addr} {fd : FuncData} {k : Nat} (F : Fun K "_law_trimmed" "_law_trimmed" s_law_trimmed f fd) (T : TxtL mg) : FnOk P w K mg base CX0 (k + 1) f fd ["factors"] (spLTrimT K) := by
  refine F.ok sc_law_trimmed (fun vs H Q E h => ?_) (fun cdv A outer s H vs Q E hr h => ?_)
  · obtain ⟨a, ns, rfl, _⟩ := h
    rfl
  · obtain ⟨a, ns, rfl, ha, hl9, q⟩ := h
    refine ⟨_, (pss_cons (ps_set (i := 1) sc_law_trimmed.nd rfl (.inl rfl) (pe_callTy call_list_of (by rfl) T.n_list (by decide +kernel) (pa_cons (pv 0) pa_nil)))
  (pss_cons (ps_while PassesOwn.never (PW.pt (pw_and (pt_cmpR (op_neNil hr.units) (pv 1) (pe_lst pa_nil) (nomark _)) (pw_and1 (pt_cmpR op_eq (pe_ix ix_list (pv 1) (pe_un un_neg pe_int) (fun _ _ => rfl)) pe_int (nomark _)))))
   (pss_one (ps_expr (pe_bm0 PySem.F.plainAttrs_list PySem.F.slot_list_pop PySem.F.type_list_pop mt_pop (pv 1)))))
  (pss_one (ps_ret (pv 1))))), ?_⟩
    refine ⟨_, rfl, a, _, rfl, .inr ha, fun l nl => ?_⟩
    have hl : (upd H l (.lst (ns.map V.int))) l = some (.lst (ns.map V.int)) := upd_same
    have s7 := same_upd (o := .lst (ns.map V.int)) nl
    generalize upd H l (.lst (ns.map V.int)) = H7 at hl s7 ⊢
    refine ⟨fun j σ H8 => j ≤ ns.length ∧ lastN ns j = lastN ns ns.length ∧ Same H H8 ∧ H8 l = some (.lst ((ns.take j).map V.int)) ∧ σ = [some (.ref a), some (.ref l)], ⟨ns.length, Nat.le_refl _, rfl, s7, by rw [hl, List.take_length], rfl⟩, ?_⟩
    rintro j σ H8 ⟨hj, hlast, s8, hl8, rfl⟩
    refine ⟨_, rfl, by show 0 ≤ sizeLine; decide, fun b2 nb2 => ?_⟩
    have hl9 : (upd H8 b2 (.lst [])) l = some (.lst ((ns.take j).map V.int)) := by
      rw [upd_ne (ne_of_none hl8 nb2)]
      exact hl8
    refine ⟨l, b2, _, rfl, rfl, hl9, upd_same, _, rfl, ?_⟩
    have s9 := s8.trans (same_upd (o := .lst []) nb2)
    generalize upd H8 b2 (.lst []) = H9 at s9 hl9 ⊢
    cases j with
    | zero =>
      refine iteF ?_
      refine iteF ?_
      have tm : trimN ns = ns.take 0 := by
        unfold trimN
        rw [← hlast, show lastN ns 0 = 0 from rfl]
      exact ⟨_, rfl, q l H9 s9 nl (by rw [hl9, tm])⟩
    | succ i =>
      have hi : i < ns.length := hj
      have ts : (ns.take (i + 1)).map V.int = (ns.take i).map V.int ++ [V.int ns[i]] := by
        rw [List.take_add_one, List.getElem?_eq_getElem hi, List.map_append]
        rfl
      have ne : (!((ns.take (i + 1)).map V.int).isEmpty) = true := by
        rw [ts]
        simp
      rw [ne]
      refine iteT ?_
      have hl10 := hl9
      rw [ts] at hl10
      refine ⟨_, rfl, _, rfl, l, _, _, _, rfl, rfl, .inl (.inl hl10), at_last _ _, rfl, decide (ns[i] = 0), eqI _ 0, ?_⟩
      by_cases hz : ns[i] = 0
      · rw [decide_eq_true hz]
        refine iteT ?_
        have gz : ns[i]? = some 0 := by rw [List.getElem?_eq_getElem hi, hz]
        refine ⟨fun σ' H' => i ≤ ns.length ∧ lastN ns i = lastN ns ns.length ∧ Same H H' ∧ H' l = some (.lst ((ns.take i).map V.int)) ∧ σ' = [some (.ref a), some (.ref l)], fun σ' H' h => ⟨i, by omega, h⟩, ?_⟩
        refine ⟨_, rfl, .inl ⟨rfl, _, .inl (.inl hl10)⟩, l, _, _, rfl, rfl, hl10, last_get _ _, Nat.le_of_lt hi, by rw [← hlast, last_go gz], same_at s9 nl, ?_, rfl⟩
        rw [upd_same, List.dropLast_concat]
      · rw [decide_eq_false hz]
        refine iteF ?_
        have z0 : ns[i]? ≠ some 0 := fun z => by
          rw [List.getElem?_eq_getElem hi] at z
          exact hz (Option.some.inj z)
        have tm : trimN ns = ns.take (i + 1) := by
          unfold trimN
          rw [← hlast, last_stay z0]
        exact ⟨_, rfl, q l H9 s9 nl (by rw [hl9, tm])⟩

/-- a def as its callers want it -/
structure Def (P : Program) (w : World) (K : PySem.W.Frag) (mg : Str → Option Value) (base : Heap) (x : Str) (st : Stmt) (ps : List Str) (k : Nat) (sp : Sp) (f : Addr) (fd : FuncData) : Prop where
  F : Fun K x x st f fd
  b : Binds K fd ps []
  g : mg x = some (.ref f)
  G : FnOk P w K mg base CX0 k f fd ps sp
end
end My

namespace My
open PySem PySem.Spec PyProof.Rows L2
open Kn (KindAt Right Best byL by_divisor right_best)

/-! ### products as sums of shifted multiples -/
def cvF : List Int → Nat → List Int → Nat → Int
  | [], _, _, _ => 0
  | x :: r, j, bs, m => x * shF bs m j + cvF r (j + 1) bs m
theorem all_get (bs : List Int) : ∀ (as : List Int) (j : Nat) (L : List Int) (m : Nat), j + as.length + bs.length ≤ L.length + 1 → (mulAll bs j as L).getD m 0 = L.getD m 0 + cvF as j bs m
  | [], _, _, _, _ => by
    show _ = _ + 0
    rw [Int.add_zero]
    rfl
  | x :: r, j, L, m, h => by
    rw [List.length_cons] at h
    show (mulAll bs (j + 1) r (mulRow j x 0 bs L)).getD m 0 = _ + (x * shF bs m j + cvF r (j + 1) bs m)
    rw [all_get bs r (j + 1) _ m (by rw [row_len]; omega), row_get j x bs 0 L m (by omega), shF]
    show _ + (if j ≤ m then x * bs.getD (m - j) 0 else 0) + _ = _
    by_cases z : j ≤ m
    · rw [if_pos z, if_pos z]
      omega
    · rw [if_neg z, if_neg z, Int.mul_zero]
      omega
theorem cvF_next (bs : List Int) : ∀ (r : List Int) (j m : Nat), cvF r (j + 1) bs (m + 1) = cvF r j bs m
  | [], _, _ => rfl
  | x :: r, j, m => by
    show x * shF bs (m + 1) (j + 1) + cvF r (j + 2) bs (m + 1) = x * shF bs m j + cvF r (j + 1) bs m
    rw [cvF_next bs r (j + 1) m]
    unfold shF
    by_cases z : j ≤ m
    · rw [if_pos z, if_pos (by omega), show m + 1 - (j + 1) = m - j by omega]
    · rw [if_neg z, if_neg (by omega)]
theorem cvF_zero (bs : List Int) : ∀ (r : List Int) (j : Nat), cvF r (j + 1) bs 0 = 0
  | [], _ => rfl
  | x :: r, j => by
    show x * shF bs 0 (j + 1) + cvF r (j + 2) bs 0 = 0
    rw [cvF_zero bs r (j + 1), shF, if_neg (by omega), Int.mul_zero]
    rfl
theorem cv_cons (q : Nat → Int) (x : Int) (r : List Int) : ∀ n m, cv q (x :: r) n m = (if m < n then q m * x else 0) + (match m with | 0 => 0 | m' + 1 => cv q r n m')
  | 0, m => by
    rw [if_neg (by omega)]
    cases m <;> rfl
  | n + 1, m => by
    show cv q (x :: r) n m + q n * shF (x :: r) m n = _
    rw [cv_cons q x r n m]
    cases m with
    | zero =>
      dsimp only
      by_cases z : n = 0
      · subst z
        rw [if_neg (by omega), if_pos (by omega), shF, if_pos (by omega)]
        show 0 + 0 + q 0 * x = q 0 * x + 0
        omega
      · rw [if_pos (by omega), if_pos (by omega), shF, if_neg (by omega), Int.mul_zero]
        omega
    | succ m' =>
      show _ + cv q r n m' + _ = _ + (cv q r n m' + q n * shF r m' n)
      unfold shF
      rcases Nat.lt_trichotomy n (m' + 1) with z | z | z
      · rw [if_neg (show ¬ m' + 1 < n by omega), if_neg (show ¬ m' + 1 < n + 1 by omega), if_pos (show n ≤ m' + 1 by omega), if_pos (show n ≤ m' by omega)]
        obtain ⟨i, hi⟩ : ∃ i, m' + 1 - n = i + 1 := ⟨m' - n, by omega⟩
        rw [hi, show m' - n = i by omega]
        show 0 + _ + q n * r.getD i 0 = _
        omega
      · subst z
        rw [if_neg (show ¬ m' + 1 < m' + 1 by omega), if_pos (show m' + 1 < m' + 1 + 1 by omega), if_pos (show m' + 1 ≤ m' + 1 by omega), if_neg (show ¬ m' + 1 ≤ m' by omega), Nat.sub_self, Int.mul_zero]
        show 0 + _ + q (m' + 1) * x = _
        omega
      · rw [if_pos (show m' + 1 < n by omega), if_pos (show m' + 1 < n + 1 by omega), if_neg (show ¬ n ≤ m' + 1 by omega), if_neg (show ¬ n ≤ m' by omega), Int.mul_zero]
        omega
theorem cv_comm (bs : List Int) : ∀ (as : List Int) (m : Nat), cvF as 0 bs m = cv (fn bs) as bs.length m
  | [], m => by
    have : ∀ n, cv (fn bs) [] n m = 0 := fun n => by
      induction n with
      | zero => rfl
      | succ n ih =>
        show cv (fn bs) [] n m + _ * shF [] m n = 0
        rw [ih, shF, List.getD_nil, ite_self, Int.mul_zero]
        rfl
    rw [this]
    rfl
  | x :: r, m => by
    show x * shF bs m 0 + cvF r 1 bs m = _
    rw [cv_cons, shF, if_pos (Nat.zero_le _), Nat.sub_zero]
    have e : (if m < bs.length then fn bs m * x else 0) = x * bs.getD m 0 := by
      by_cases z : m < bs.length
      · rw [if_pos z, Int.mul_comm]
      · rw [if_neg z, getD_off (by omega), Int.mul_zero]
    rw [e]
    cases m with
    | zero => rw [cvF_zero bs r 0]
    | succ m' =>
      rw [cvF_next bs r 0 m', cv_comm bs r m']
theorem mul_cv (F gs : List Int) (k : Nat) : (mulL F gs).getD k 0 = cv (fn gs) F gs.length k := by
  unfold mulL
  rw [all_get gs F 0 _ k (by rw [List.length_replicate]; omega), getD_rep, cv_comm]
  omega
/-! ### rests that are told otherwise -/
theorem RestR.trim {ks : List (Str × Int)} {ns fs : List Int} (h : RestR ks (trimN ns) fs) : RestR ks ns fs := by
  obtain ⟨m, c, b, d, ⟨⟨q, n, e⟩, l, t⟩, le⟩ := h.ex
  exact ⟨m, c, b, d, ⟨⟨q, n, fun k => by rw [← e k, getD_trim]⟩, l, t⟩, Nat.le_trans le (trimN_len _)⟩
theorem rest_nil {ks : List (Str × Int)} {m : Nat} {ns fs : List Int} (rk : Right ks) (b : Best ks m) (h : RestR ks ns fs) (d : ∃ q n, ∀ k, ns.getD k 0 = cv q (byL (ks.map (·.2)) m) n k) : fs = [] := by
  obtain ⟨m1, c1, b1, d1, r1, _⟩ := h.ex
  cases best_one b b1
  obtain ⟨q, n, e⟩ := d
  exact rest_one d1.lead r1 (s := []) (gs := []) ⟨⟨fun _ => 0, 0, fun k => rfl⟩, fun k _ => ⟨Int.le_refl _, d1.lead.pos⟩, rfl⟩ ⟨q, n, fun k => by rw [e k, List.getD_nil]; omega⟩
theorem by_cv (F : List Int) (k : Nat) : F.getD k 0 = cv (fun _ => 1) F 1 k := by
  show _ = 0 + 1 * shF F k 0
  rw [shF, if_pos (Nat.zero_le _), Nat.sub_zero]
  omega
/-! ### what stands where a list grows -/
theorem rd_upd {l a : Addr} {H : Hp} {o : HO} {xs ys : List V} (e : H l = some (.lst xs)) (h : Rd H a (.tup ys)) : Rd (L2.upd H l o) a (.tup ys) := by
  rcases h with h | ⟨ob, h⟩
  · exact .inl (by rw [upd_ne (fun z => by rw [z, e] at h; cases h)]; exact h)
  · exact .inr ⟨ob, by rw [upd_ne (fun z => by rw [z, e] at h; cases h)]; exact h⟩
theorem prs_upd {l : Addr} {H : Hp} {o : HO} {xs : List V} (e : H l = some (.lst xs)) {rs : List Addr} {ks : List (Str × Int)} (h : Kn.Prs H rs ks) : Kn.Prs (L2.upd H l o) rs ks := by
  induction h with
  | nil => exact .nil
  | cons y _ ih => exact .cons (rd_upd e y) ih
theorem kind_upd {l a : Addr} {H : Hp} {o : HO} {xs : List V} {ks : List (Str × Int)} (e : H l = some (.lst xs)) (h : KindAt H a ks) : KindAt (L2.upd H l o) a ks := by
  obtain ⟨rs, y, pr⟩ := h
  exact ⟨rs, rd_upd e y, prs_upd e pr⟩
theorem rest_upd {d : RestD} {l x : Addr} {H : Hp} {o : HO} {xs : List V} {ks : List (Str × Int)} {fs : List Int} (e : H l = some (.lst xs)) (h : RestAt d H x ks fs) : RestAt d (L2.upd H l o) x ks fs := by
  obtain ⟨dx, a, r, h1, h2, h3⟩ := h
  exact ⟨dx, a, r, by rw [upd_ne (fun z => by rw [z, e] at h1; cases h1)]; exact h1, kind_upd e h2, rd_upd e h3⟩
theorem LayAt.but {C a p : Addr} {H H' : Hp} {ns : List Int} {xs : List V} (h : LayAt C H a ns) (e : H p = some (.lst xs)) (b : But p H H') : LayAt C H' a ns := by
  obtain ⟨dx, r, h1, h2, h3, h4⟩ := h
  exact ⟨dx, r, b.1 _ _ h1 (fun z => by rw [z, e] at h1; cases h1), Kn.rd_but e b h2, h3, h4⟩
theorem Pot.lst {H : Hp} {p c : Addr} (h : Pot H p c) : ∃ xs, H p = some (.lst xs) := by
  obtain ⟨ns, pl, am, sz, h1, _⟩ := h
  exact ⟨_, h1⟩
theorem pot_at {H : Hp} {p c l : Addr} (h : Pot H p c) (n : H l = none) : l ≠ p := by
  obtain ⟨xs, e⟩ := h.lst
  rintro rfl
  rw [e] at n
  cases n

section
variable {P : Program} {w : World} {K : PySem.W.Frag} {mg : Str → Option Value} {base : Heap}
theorem lay_ty {d : LayD} {mc : Value} {H : Hp} {b : Addr} {ms : List Int} (lb : LayAt d.lay H b ms) (D : LayF P K mg d) (LG : LayG K d.lay mc) : TyX K H (.ref b) (.ref d.lay) := by
  obtain ⟨dy, r2, hb, _⟩ := lb
  exact .base (.ins hb D.lay LG.ca LG.cn LG.ct LG.cm)
end
end My

namespace My
open PySem PySem.Spec PyProof.Rows L2
open Kn (KindAt Right Best byL by_divisor right_best)
abbrev s_negated : Stmt := topS 28
theorem sc_negated : FnScope ["factors", "factor"] ["factors"] (defScope s_negated) := ⟨rfl, rfl, rfl, by decide +kernel, rfl, by decide +kernel, by decide +kernel⟩

/-! ### a rest is the rest of all that differs from its polynomial by a multiple of F -/
theorem RestR.move {ks : List (Str × Int)} {m : Nat} {ns ms hs : List Int} (b : Best ks m) (h : RestR ks ns hs) (d : ∃ q n, ∀ k, ms.getD k 0 = ns.getD k 0 + cv q (byL (ks.map (·.2)) m) n k) : RestR ks ms hs := by
  obtain ⟨m1, c1, b1, d1, r1, _⟩ := h.ex
  cases best_one b b1
  have e : restL ms (byL (ks.map (·.2)) m) m c1 = hs := rest_add r1 d d1.lead
  have r2 := div_at (fs := ms) d1.lead (.inr trivial)
  rw [e] at r2
  exact ⟨m, c1, b, d1, r2, by rw [← e]; exact rest_len _ _ _ _⟩
theorem eqvAll_pairs2 : ∀ {a b : List (Str × Int)}, PyData.eqvAll (Kn.dPairs a) (Kn.dPairs b) = decide (a = b)
  | [], [] => by simp [Kn.dPairs, PyData.eqvAll]
  | [], _ :: _ => by simp [Kn.dPairs, PyData.eqvAll]
  | _ :: _, [] => by simp [Kn.dPairs, PyData.eqvAll]
  | (x, i) :: r, (y, j) :: t => by
    have ih := eqvAll_pairs2 (a := r) (b := t)
    unfold Kn.dPairs at ih ⊢
    rw [List.map_cons, List.map_cons, PyData.eqvAll, ih]
    by_cases h : x = y
    · subst h
      by_cases h2 : i = j
      · subst h2
        simp [PyData.eqv, PyData.eqvAll]
      · simp [PyData.eqv, PyData.eqvAll, h2]
    · simp [PyData.eqv, PyData.eqvAll, h]
theorem eqv_kind2 (a b : List (Str × Int)) : PyData.eqv (Kn.dKind a) (Kn.dKind b) = decide (a = b) := by
  unfold Kn.dKind
  rw [PyData.eqv]
  exact eqvAll_pairs2
theorem neg_get (ns : List Int) (k : Nat) : (negL ns).getD k 0 = - ns.getD k 0 := by
  unfold negL
  rw [List.getD_eq_getElem?_getD, List.getD_eq_getElem?_getD, List.getElem?_map]
  cases ns[k]? with
  | none => rfl
  | some z =>
    show 0 - z = - z
    omega
structure spNeg (vs : List V) (H : Hp) (Q : VK) (E : XK) : Prop where
  ex : ∃ a ns, vs = [.ref a] ∧ Rd H a (.tup (ns.map V.int)) ∧ ns.length ≤ 900 ∧ ∀ r H', Same H H' → H' r = some (.tup ((negL ns).map V.int)) → Q (.ref r) H'
structure TxtN (mg : Str → Option Value) : Prop where
  n_tuple : mg "tuple" = none
/-- the class Mismatch; what isinstance asks of an int beside Rest -/
structure MisF (K : PySem.W.Frag) (mg : Str → Option Value) (mx C : Addr) : Prop where
  mm : PlainCls K mg "Mismatch" mx
  mmB : PySem.W.subIn K (.ref mx) (.type "BaseException") = some true
  mmT : PySem.W.typeIn K (.ref mx) = some (.type "type")
  isI : PySem.W.kitOne K (.type "int") (.ref C) = some false

section
variable {P : Program} {w : World} {K : PySem.W.Frag} {mg : Str → Option Value} {base : Heap}
theorem ok_negated {f : Addr} {fd : FuncData} {k : Nat} (F : Fun K "negated" "negated" s_negated f fd) (T : TxtN mg) : FnOk P w K mg base CX0 (k + 1) f fd ["factors"] spNeg := by
  refine F.ok sc_negated (fun vs H Q E h => ?_) (fun cdv A outer s H vs Q E hr h => ?_)
  · obtain ⟨a, ns, rfl, _⟩ := h
    rfl
  · obtain ⟨a, ns, rfl, ha, few, q⟩ := h
    refine ⟨_, (pss_one (ps_ret (pe_callTy call_tuple_of (by rfl) T.n_tuple (by decide +kernel) (pa_cons (pe_lc (own := [("factor", 1)]) (g := gName 1) rfl sc_negated.nd (pi_tup (pv 0)) (blkOk_by (own := [("factor", 1)]) (N := ["factors", "factor"]) (sc := defScope s_negated) (by decide +kernel)) (fun _ _ _ _ _ => (pg_name (i := 1) sc_negated.nd rfl (.inl rfl))) (fun _ _ _ _ _ => pts_nil) (fun _ _ _ _ _ => (pe_un un_neg (pv 1)))) pa_nil)))), ?_⟩
    refine ⟨_, rfl, a, rfl, ⟨_, .inl ha⟩, fun L nL => ?_⟩
    refine lc_it (walk_tup (xs := ns.map V.int)) (fun i H5 => Same H H5 ∧ H5 L = some (.lst ((negL (ns.take i)).map V.int))) ⟨same_upd nL, upd_same⟩ (fun i H5 _ h => .inl (rd_same ha h.1)) ?_ ?_
    · rintro i z H5 H6 hi ⟨s5, hL⟩ ⟨rfl, ez⟩
      rw [List.getElem?_map] at ez
      rw [List.length_map] at hi
      rw [List.getElem?_eq_getElem hi] at ez
      obtain rfl : V.int ns[i] = z := Option.some.inj ez
      refine ⟨rfl, ?_⟩
      unfold tYes
      dsimp only
      rw [if_pos rfl]
      refine ⟨_, rfl, _, rfl, _, hL, small1000 ?_, same_at s5 nL, ?_⟩
      · unfold negL
        rw [List.length_map, List.length_map, List.length_take]
        omega
      · rw [upd_same, List.take_add_one, List.getElem?_eq_getElem hi]
        unfold negL
        rw [List.map_append, List.map_append]
        show _ = some (HO.lst (_ ++ [V.int (0 - ns[i])]))
        rw [Int.zero_sub]
    rintro H5 ⟨s5, hL⟩
    rw [List.length_map, List.take_length] at hL
    exact ⟨L, _, rfl, .inl ⟨.inl (.inl hL), fun l nl => q l _ (s5.trans (same_upd nl)) upd_same⟩⟩
end
end My

namespace My
open PySem PySem.Spec PyProof.Rows L2
open Kn (KindAt Right Best byL by_divisor right_best)

/-! ### multiples of a polynomial -/
def Mu (F : List Int) (p : Nat → Int) : Prop := ∃ q n, ∀ k, p k = cv q F n k
theorem cv_pad {q : Nat → Int} {F : List Int} {n : Nat} (d k : Nat) : cv (fun j => if j < n then q j else 0) F (n + d) k = cv q F n k := by
  rw [cv_more (fun j hj => if_neg (by omega)) k d]
  exact cv_ext (fun j hj => if_pos hj) k
theorem cv_add2 {q p : Nat → Int} {F : List Int} (k : Nat) : ∀ m, cv (fun j => q j + p j) F m k = cv q F m k + cv p F m k
  | 0 => rfl
  | m + 1 => by
    show cv (fun j => q j + p j) F m k + (q m + p m) * _ = _ + _ + (_ + _)
    rw [cv_add2 k m, Int.add_mul]
    omega
theorem cv_mulc {q : Nat → Int} {F : List Int} (c : Int) (k : Nat) : ∀ m, cv (fun j => c * q j) F m k = c * cv q F m k
  | 0 => (Int.mul_zero c).symm
  | m + 1 => by
    show cv (fun j => c * q j) F m k + c * q m * _ = c * (cv q F m k + q m * _)
    rw [cv_mulc c k m, Int.mul_add, Int.mul_assoc]
theorem cv_nil0 {q : Nat → Int} {F : List Int} {k : Nat} : ∀ {m : Nat}, (∀ j, j < m → q j = 0) → cv q F m k = 0
  | 0, _ => rfl
  | m + 1, h => by
    show cv q F m k + q m * _ = 0
    rw [cv_nil0 fun j hj => h j (by omega), h m (by omega), Int.zero_mul]
    rfl
theorem cv_shift {q : Nat → Int} {F : List Int} (j k : Nat) : ∀ m, cv (fun i => if i < j then 0 else q (i - j)) F (j + m) k = if j ≤ k then cv q F m (k - j) else 0
  | 0 => by
    rw [Nat.add_zero, cv_nil0 fun i hi => if_pos hi]
    split <;> rfl
  | m + 1 => by
    show cv (fun i => if i < j then 0 else q (i - j)) F (j + m) k + (if j + m < j then 0 else q (j + m - j)) * shF F k (j + m) = _
    have e1 : (if j + m < j then (0 : Int) else q (j + m - j)) = q m := by rw [if_neg (by omega), show j + m - j = m by omega]
    rw [cv_shift j k m, e1]
    by_cases z : j ≤ k
    · rw [if_pos z, if_pos z]
      show _ = cv q F m (k - j) + q m * shF F (k - j) m
      unfold shF
      by_cases y : j + m ≤ k
      · rw [if_pos y, if_pos (by omega), show k - (j + m) = k - j - m by omega]
      · rw [if_neg y, if_neg (by omega)]
    · rw [if_neg z, if_neg z, shF, if_neg (by omega), Int.mul_zero]
      rfl
theorem Mu.add {F : List Int} {p r : Nat → Int} (a : Mu F p) (b : Mu F r) : Mu F fun k => p k + r k := by
  obtain ⟨q, n, e⟩ := a
  obtain ⟨u, m, f⟩ := b
  refine ⟨fun j => (if j < n then q j else 0) + (if j < m then u j else 0), n + m, fun k => ?_⟩
  show p k + r k = _
  rw [cv_add2, cv_pad, Nat.add_comm n m, cv_pad, e, f]
theorem Mu.mulc {F : List Int} {p : Nat → Int} (c : Int) (a : Mu F p) : Mu F fun k => c * p k := by
  obtain ⟨q, n, e⟩ := a
  exact ⟨fun j => c * q j, n, fun k => by
    show c * p k = _
    rw [cv_mulc, e]⟩
theorem Mu.shift {F : List Int} {p : Nat → Int} (j : Nat) (a : Mu F p) : Mu F fun k => if j ≤ k then p (k - j) else 0 := by
  obtain ⟨q, n, e⟩ := a
  refine ⟨fun i => if i < j then 0 else q (i - j), j + n, fun k => ?_⟩
  show (if j ≤ k then p (k - j) else 0) = _
  rw [cv_shift j k n]
  split
  · exact e _
  · rfl
theorem Mu.ext {F : List Int} {p r : Nat → Int} (a : Mu F p) (h : ∀ k, r k = p k) : Mu F r := by
  obtain ⟨q, n, e⟩ := a
  exact ⟨q, n, fun k => (h k).trans (e k)⟩
theorem Mu.zero {F : List Int} : Mu F fun _ => 0 := ⟨fun _ => 0, 0, fun _ => rfl⟩
theorem Mu.cv {F A B : List Int} (q : Nat → Int) (a : Mu F fun k => A.getD k 0 - B.getD k 0) : ∀ m, Mu F fun k => cv q A m k - cv q B m k
  | 0 => Mu.zero
  | m + 1 => by
    refine ((Mu.cv q a m).add ((a.shift m).mulc (q m))).ext fun k => ?_
    show My.cv q A m k + q m * shF A k m - (My.cv q B m k + q m * shF B k m) = _
    unfold shF
    by_cases z : m ≤ k
    · rw [if_pos z, if_pos z, if_pos z, Int.mul_sub]
      omega
    · rw [if_neg z, if_neg z, if_neg z]
      omega
theorem cvF_cv {as bs : List Int} {m : Nat} : ∀ (r : List Int) (j : Nat), as.drop j = r → cv (fn as) bs j m + cvF r j bs m = cv (fn as) bs (j + r.length) m
  | [], j, _ => by
    show _ + 0 = _
    rw [Int.add_zero]
    rfl
  | x :: r, j, h => by
    have lt : j < as.length := by
      rcases Nat.lt_or_ge j as.length with g | g
      · exact g
      · rw [List.drop_eq_nil_of_le g] at h
        cases h
    rw [List.drop_eq_getElem_cons lt] at h
    obtain ⟨h1, h2⟩ := List.cons.inj h
    have ih := cvF_cv (as := as) (bs := bs) (m := m) r (j + 1) h2
    rw [List.length_cons, show j + (r.length + 1) = j + 1 + r.length by omega, ← ih]
    show _ + (x * shF bs m j + _) = cv (fn as) bs j m + fn as j * shF bs m j + _
    have e : fn as j = x := by
      show as.getD j 0 = x
      rw [List.getD_eq_getElem?_getD, List.getElem?_eq_getElem lt]
      exact h1
    rw [e]
    omega
theorem mul_cv2 (as bs : List Int) (k : Nat) : (mulL as bs).getD k 0 = cv (fn as) bs as.length k := by
  rw [mul_cv, ← cv_comm]
  have h := cvF_cv (as := as) (bs := bs) (m := k) as 0 rfl
  rw [Nat.zero_add] at h
  rw [← h]
  exact (Int.zero_add _).symm
theorem mul_comm2 (A B : List Int) (k : Nat) : (mulL A B).getD k 0 = (mulL B A).getD k 0 := by rw [mul_cv, mul_cv2]
theorem shF_cv (A B : List Int) (k m N : Nat) (h : m + B.length ≤ N) : shF (mulL A B) k m = cv (fun i => shF B i m) A N k := by
  obtain ⟨d, rfl⟩ : ∃ d, N = m + B.length + d := ⟨N - (m + B.length), by omega⟩
  have z : ∀ j, m + B.length ≤ j → shF B j m = 0 := fun j hj => by
    unfold shF
    split
    · exact getD_off (by omega)
    · rfl
  rw [cv_more z k d]
  have e : cv (fun i => shF B i m) A (m + B.length) k = cv (fun i => if i < m then 0 else fn B (i - m)) A (m + B.length) k := cv_ext (fun j _ => by
    unfold shF
    by_cases y : m ≤ j
    · rw [if_pos y, if_neg (by omega)]
    · rw [if_neg y, if_pos (by omega)]) k
  rw [e, cv_shift m k B.length]
  unfold shF
  by_cases y : m ≤ k
  · rw [if_pos y, if_pos y, mul_cv]
  · rw [if_neg y, if_neg y]
theorem cv_assoc (A B C : List Int) (k N : Nat) : ∀ m, m + B.length ≤ N + 1 → cv (fn C) (mulL A B) m k = cv (fun i => cv (fn C) B m i) A N k
  | 0, _ => (cv_nil0 fun _ _ => rfl).symm
  | m + 1, h => by
    show cv (fn C) (mulL A B) m k + fn C m * shF (mulL A B) k m = cv (fun i => cv (fn C) B m i + fn C m * shF B i m) A N k
    rw [cv_add2, cv_mulc, cv_assoc A B C k N m (by omega), shF_cv A B k m N (by omega)]
theorem mul_assoc2 (A B C : List Int) (k : Nat) : (mulL (mulL A B) C).getD k 0 = (mulL A (mulL B C)).getD k 0 := by
  rw [mul_cv, mul_cv, cv_assoc A B C k (mulL B C).length C.length (by rw [mul_len]; omega)]
  exact cv_ext (fun j _ => (mul_cv B C j).symm) k
theorem mul_one2 (A : List Int) (k : Nat) : (mulL [1] A).getD k 0 = A.getD k 0 := by
  rw [mul_cv2]
  show 0 + 1 * shF A k 0 = _
  rw [shF, if_pos (Nat.zero_le _), Nat.sub_zero]
  omega
def subL (as bs : List Int) : List Int := addL as (negL bs)
def Cg (F A B : List Int) : Prop := Mu F fun k => A.getD k 0 - B.getD k 0
theorem Cg.rfl {F A : List Int} : Cg F A A := Mu.zero.ext fun k => Int.sub_self _
theorem Cg.symm {F A B : List Int} (h : Cg F A B) : Cg F B A := (Mu.mulc (-1) h).ext fun k => by omega
theorem Cg.trans {F A B C : List Int} (h : Cg F A B) (g : Cg F B C) : Cg F A C := (Mu.add h g).ext fun k => by omega
theorem Cg.of {F A B : List Int} (h : ∀ k, A.getD k 0 = B.getD k 0) : Cg F A B := Mu.zero.ext fun k => by rw [h k]; exact Int.sub_self _
theorem Cg.trim {F A : List Int} : Cg F (trimN A) A := Cg.of fun k => getD_trim _ _
theorem Cg.add {F A B C D : List Int} (h : Cg F A B) (g : Cg F C D) : Cg F (addL A C) (addL B D) := (Mu.add h g).ext fun k => by rw [getD_addL, getD_addL]; omega
theorem Cg.neg {F A B : List Int} (h : Cg F A B) : Cg F (negL A) (negL B) := (Mu.mulc (-1) h).ext fun k => by rw [getD_neg, getD_neg]; omega
theorem Cg.sub {F A B C D : List Int} (h : Cg F A B) (g : Cg F C D) : Cg F (subL A C) (subL B D) := h.add g.neg
theorem Cg.mul {F A B C D : List Int} (h : Cg F A B) (g : Cg F C D) : Cg F (mulL A C) (mulL B D) := by
  have a : Cg F (mulL A C) (mulL B C) := (Mu.cv (fn C) h C.length).ext fun k => by rw [mul_cv, mul_cv]
  have b : Cg F (mulL B C) (mulL B D) := (Mu.cv (fn B) g B.length).ext fun k => by rw [mul_cv2, mul_cv2]
  exact a.trans b
theorem RestR.cg {ks : List (Str × Int)} {m : Nat} {ns hs : List Int} (b : Best ks m) (h : RestR ks ns hs) : Cg (byL (ks.map (·.2)) m) ns hs := by
  obtain ⟨m1, c1, b1, d1, ⟨⟨q, n, e⟩, _, _⟩, _⟩ := h.ex
  cases best_one b b1
  exact ⟨q, n, fun k => by
    show ns.getD k 0 - hs.getD k 0 = _
    rw [e k]
    omega⟩
theorem RestR.to {ks : List (Str × Int)} {m : Nat} {ns ms hs : List Int} (b : Best ks m) (h : RestR ks ns hs) (d : Cg (byL (ks.map (·.2)) m) ms ns) : RestR ks ms hs := by
  obtain ⟨q, n, e⟩ := d
  exact h.move b ⟨q, n, fun k => by
    have z : ms.getD k 0 - ns.getD k 0 = _ := e k
    omega⟩
theorem RestR.tr {ks : List (Str × Int)} {ns hs : List Int} (h : RestR ks ns hs) : trimN hs = hs := by
  obtain ⟨_, _, _, _, r, _⟩ := h.ex
  exact r.tr
theorem RestR.len {ks : List (Str × Int)} {ns hs : List Int} (h : RestR ks ns hs) : hs.length ≤ ns.length := by
  obtain ⟨_, _, _, _, _, l⟩ := h.ex
  exact l
/-! ### how large the factors are -/
def LtE (e : Nat) (ns : List Int) : Prop := ∀ k, (ns.getD k 0).natAbs < 2 ^ e
theorem two_pos (e : Nat) : 0 < 2 ^ e := Nat.pow_pos (by decide)
theorem LtE.of {e : Nat} {ns : List Int} (h : ∀ n ∈ ns, n.natAbs < 2 ^ e) : LtE e ns := fun k => by
  rw [List.getD_eq_getElem?_getD]
  by_cases hk : k < ns.length
  · rw [List.getElem?_eq_getElem hk]
    exact h _ (List.getElem_mem hk)
  · rw [List.getElem?_eq_none (by omega)]
    exact two_pos e
theorem LtE.mem {e : Nat} {ns : List Int} (h : LtE e ns) : ∀ n ∈ ns, n.natAbs < 2 ^ e := fun n hn => by
  obtain ⟨k, hk, rfl⟩ := List.getElem_of_mem hn
  have := h k
  rw [List.getD_eq_getElem?_getD, List.getElem?_eq_getElem hk] at this
  exact this
theorem LtE.mono {a b : Nat} {ns : List Int} (h : LtE a ns) (l : a ≤ b) : LtE b ns := fun k => Nat.lt_of_lt_of_le (h k) (Nat.pow_le_pow_right (by decide) l)
theorem LtE.trim {e : Nat} {ns : List Int} (h : LtE e ns) : LtE e (trimN ns) := fun k => by rw [getD_trim]; exact h k
theorem LtE.neg {e : Nat} {ns : List Int} (h : LtE e ns) : LtE e (negL ns) := fun k => by rw [getD_neg, Int.natAbs_neg]; exact h k
theorem LtE.add {e : Nat} {as bs : List Int} (h : LtE e as) (g : LtE e bs) : LtE (e + 1) (addL as bs) := fun k => by
  rw [getD_addL, Nat.pow_succ]
  have a := h k
  have b := g k
  have c := Int.natAbs_add_le (as.getD k 0) (bs.getD k 0)
  omega
theorem cv_lt {q : Nat → Int} {F : List Int} {a b : Nat} (hq : ∀ j, (q j).natAbs < 2 ^ a) (hF : LtE b F) (k : Nat) : ∀ m, (cv q F m k).natAbs ≤ m * 2 ^ (a + b)
  | 0 => Nat.zero_le _
  | m + 1 => by
    show (cv q F m k + q m * shF F k m).natAbs ≤ _
    have ih := cv_lt hq hF k m
    have c := Int.natAbs_add_le (cv q F m k) (q m * shF F k m)
    have s : (shF F k m).natAbs < 2 ^ b := by
      unfold shF
      split
      · exact hF _
      · exact two_pos b
    have p : (q m * shF F k m).natAbs ≤ 2 ^ (a + b) := by
      rw [Int.natAbs_mul, Nat.pow_add]
      exact Nat.mul_le_mul (Nat.le_of_lt (hq m)) (Nat.le_of_lt s)
    rw [Nat.succ_mul]
    omega
theorem LtE.mul {a b : Nat} {as bs : List Int} (h : LtE a as) (g : LtE b bs) (l : bs.length ≤ 511) : LtE (a + b + 9) (mulL as bs) := fun k => by
  rw [mul_cv]
  refine Nat.lt_of_le_of_lt (cv_lt (q := fn bs) (fun j => g j) h k bs.length) ?_
  have e : (2 : Nat) ^ (a + b + 9) = 2 ^ (b + a) * 512 := by rw [Nat.add_comm a b, Nat.pow_add]
  rw [e, Nat.mul_comm]
  exact Nat.mul_lt_mul_of_pos_left (Nat.lt_of_le_of_lt l (by decide)) (two_pos _)
theorem ediv_abs (x c : Int) : (x / c).natAbs ≤ x.natAbs := Int.natAbs_ediv_le_natAbs x c
theorem go_lt {F : List Int} {c : Int} {deg : Nat} (L : Lead F deg c) (hF : LtE 20 F) : ∀ (n e : Nat) (Q R : List Int), deg + n ≤ R.length → LtE e R → LtE (e + 21 * n) (divGo F c deg n Q R).2
  | 0, _, _, _, _, h => h
  | n + 1, e, Q, R, hr, h => by
    show LtE _ (divGo F c deg n (Q.set n _) (mulRow n _ 0 F R)).2
    have ih := go_lt L hF n (e + 21) (Q.set n (R.getD (deg + n) 0 / c)) (mulRow n (-(R.getD (deg + n) 0 / c)) 0 F R) (by rw [row_len]; omega) fun k => by
      rw [row_get n _ F 0 R k (by rw [L.len]; omega)]
      have a := h k
      have t : (-(R.getD (deg + n) 0 / c)).natAbs < 2 ^ e := by
        rw [Int.natAbs_neg]
        exact Nat.lt_of_le_of_lt (ediv_abs _ _) (h _)
      have s := hF (k - (n + 0))
      generalize -(R.getD (deg + n) 0 / c) = u at t
      have p : (if n + 0 ≤ k then u * F.getD (k - (n + 0)) 0 else 0).natAbs ≤ 2 ^ e * 2 ^ 20 := by
        split
        · rw [Int.natAbs_mul]
          exact Nat.mul_le_mul (Nat.le_of_lt t) (Nat.le_of_lt s)
        · exact Nat.zero_le _
      have d := Int.natAbs_add_le (R.getD k 0) (if n + 0 ≤ k then u * F.getD (k - (n + 0)) 0 else 0)
      rw [Nat.pow_add]
      have w : (2 : Nat) ^ 21 = 2 ^ 20 + 2 ^ 20 := by decide
      rw [w, Nat.mul_add]
      have v : 2 ^ e ≤ 2 ^ e * 2 ^ 20 := Nat.le_mul_of_pos_right _ (by decide)
      generalize 2 ^ e * 2 ^ 20 = A at *
      omega
    exact ih.mono (by omega)
theorem RestR.lt {ks : List (Str × Int)} {e : Nat} {ns hs : List Int} (h : RestR ks ns hs) (l : LtE e ns) : LtE (e + 21 * ns.length) hs := by
  obtain ⟨m, c, b, d, r, le⟩ := h.ex
  have L := d.lead
  have hF : LtE 20 (byL (ks.map (·.2)) m) := LtE.of fun z hz => by
    have := d.each z hz
    have : (1000000 : Nat) < 2 ^ 20 := by decide
    omega
  have e1 := rest_one L (div_at (fs := ns) L (.inr trivial)) r ⟨fun _ => 0, 0, fun k => by show _ = _ + 0; omega⟩
  rw [← e1]
  unfold restL divL
  refine LtE.trim ?_
  by_cases z : m ≤ ns.length
  · exact (go_lt L hF (ns.length - m) e _ ns (by omega) l).mono (by omega)
  · rw [show ns.length - m = 0 by omega]
    exact LtE.mono l (by omega)
theorem LtE.big {e : Nat} {ns : List Int} (h : LtE e ns) (he : e ≤ 400000) (l : ns.length ≤ 300) : Big ns := ⟨l, fun n hn => Nat.lt_of_lt_of_le (h.mem n hn) (Nat.pow_le_pow_right (by decide) he)⟩
/-! ### powers -/
def pwL (fs : List Int) : Nat → List Int
  | 0 => [1]
  | n + 1 => mulL (pwL fs n) fs
structure spRestPow (d : RestD) (vs : List V) (H : Hp) (Q : VK) (E : XK) : Prop where
  ex : ∃ (x : Addr) (n : Nat) (ks : List (Str × Int)) (fs : List Int), vs = [.ref x, .int (n : Nat)] ∧ RestAt d H x ks fs ∧ Right ks ∧ n ≤ 20 ∧ fs.length ≤ 10 ∧ LtE 4000 fs ∧ ∀ r hs H', Same H H' → H r = none → RestAt d H' r ks hs → RestR ks (pwL fs n) hs → Q (.ref r) H'
section
variable {P : Program} {w : World} {K : PySem.W.Frag} {mg : Str → Option Value} {base : Heap}
end
end My

namespace My
open PySem PySem.Spec PyProof.Rows L2
open Kn (KindAt Right Best byL by_divisor right_best)
theorem eqvAll_ints2 : ∀ {a b : List Int}, PyData.eqvAll (a.map PyData.int) (b.map PyData.int) = decide (a = b)
  | [], [] => by simp [PyData.eqvAll]
  | [], _ :: _ => by simp [PyData.eqvAll]
  | _ :: _, [] => by simp [PyData.eqvAll]
  | i :: r, j :: t => by
    have ih := eqvAll_ints2 (a := r) (b := t)
    rw [List.map_cons, List.map_cons, PyData.eqvAll, ih]
    by_cases h : i = j
    · subst h
      simp [PyData.eqv]
    · simp [PyData.eqv, h]
theorem eqvT_ints2 (a b : List Int) : PyData.eqv (.tuple (a.map PyData.int)) (.tuple (b.map PyData.int)) = decide (a = b) := by
  rw [PyData.eqv]
  exact eqvAll_ints2
/-- a thing that is no rest, nor a layout -/
def OddV (K : PySem.W.Frag) (H : Hp) (x : V) : Prop := ∃ T ∈ ["NoneType", "int", "tuple", "str"], TyX K H x (.type T)
theorem odd_rd {K : PySem.W.Frag} {H : Hp} {r : Addr} {xs : List V} (h : Rd H r (.tup xs)) : OddV K H (.ref r) := by
  refine ⟨"tuple", by simp, ?_⟩
  rcases h with e | ⟨o, e⟩
  · exact .base (.tup e)
  · exact .fTuple e
/-- the built-in types are not below the class -/
def OddC (K : PySem.W.Frag) (C : Addr) : Prop := ∀ T ∈ ["NoneType", "int", "tuple", "str"], PySem.W.notFirst K C (.type T) = true ∧ PySem.W.kitOne K (.type T) (.ref C) = some false
/-- a rest beside a rest, or beside another thing -/
structure spRestEqG (K : PySem.W.Frag) (d : RestD) (vs : List V) (H : Hp) (Q : VK) (E : XK) : Prop where
  ex : ∃ x z ks fs, vs = [.ref x, z] ∧ RestAt d H x ks fs ∧ (∀ q ∈ ks, Kn.isNm q.1 = true ∧ 0 ≤ q.2 ∧ q.2 ≤ 4) ∧ ((∃ y ks2 gs, z = .ref y ∧ RestAt d H y ks2 gs ∧ (∀ q ∈ ks2, Kn.isNm q.1 = true ∧ 0 ≤ q.2 ∧ q.2 ≤ 4) ∧ Q (.bl (decide (ks = ks2 ∧ fs = gs))) H) ∨
    (∃ T, TyX K H z T ∧ PySem.W.kitOne K T (.ref d.rest) = some false ∧ Q (.bl false) H))

section
variable {P : Program} {w : World} {K : PySem.W.Frag} {mg : Str → Option Value} {base : Heap}
theorem ok_ResteqG {dr : RestD} {mc : Value} {f : Addr} {fd : FuncData} {k : Nat} (F : Fun K "__eq__" "Rest.__eq__" s_Resteq f fd) (T : TxtL mg) (R : RestF P K mg dr) (RG : RestG K dr.rest mc) : FnOk P w K mg base CX0 (k + 1) f fd ["self", "other"] (spRestEqG K dr) := by
  refine F.ok sc_Resteq (fun vs H Q E h => ?_) (fun cdv A outer s H vs Q E hr h => ?_)
  · obtain ⟨x, z, ks, fs, rfl, _⟩ := h
    rfl
  · obtain ⟨x, z, ks, fs, rfl, ⟨dx, a, r, hx, hk, hf⟩, nm, h⟩ := h
    refine ⟨_, (pss_one (ps_ret (pe_and (pe_callB call_isi (by rfl) T.n_isinstance (by decide +kernel) (pa_cons (pv 1) (pa_cons (pe_glob (v := .ref dr.rest) (by rfl) R.gRest rfl) pa_nil))) (pe_and (pe_cmpR (op_eqD hr.units) (pe_fld (pv 0) rfl) (pe_fld (pv 1) rfl) (nomark _)) (pe_one (pe_cmpR (op_eqD hr.units) (pe_fld (pv 0) rfl) (pe_fld (pv 1) rfl) (nomark _))))))), ?_⟩
    rcases h with ⟨y, ks2, gs, rfl, ⟨dy, b, s2, hy, hk2, hf2⟩, nm2, q⟩ | ⟨ty, ht, hk1, q⟩
    · refine ⟨_, rfl, _, _, _, _, true, rfl, .own _, .base (.ins hy R.rest RG.ca RG.cn RG.ct RG.cm), RG.isR, _, rfl, ?_⟩
      refine iteT ?_
      refine ⟨_, rfl, x, dr.rest, dx, _, .ref a, rfl, hx, R.rest, R.naK, rfl, _, rfl, y, dr.rest, dy, _, .ref b, rfl, hy, R.rest, R.naK, rfl, _, _, dp_kindAt hk, dp_kindAt hk2, sh_kind nm, sh_kind nm2, ?_⟩
      rw [eqv_kind2]
      refine ⟨_, rfl, ?_⟩
      by_cases e : ks = ks2
      · rw [decide_eq_true e]
        refine iteT ?_
        refine ⟨_, rfl, x, dr.rest, dx, _, .ref r, rfl, hx, R.rest, R.naF, rfl, _, rfl, y, dr.rest, dy, _, .ref s2, rfl, hy, R.rest, R.naF, rfl, _, _, .tup (.inl hf) (dp_ints fs), .tup (.inl hf2) (dp_ints gs), shT_intsS fs, shT_intsS gs, ?_⟩
        rw [eqvT_ints2]
        have e2 : decide (ks = ks2 ∧ fs = gs) = decide (fs = gs) := by
          by_cases y : fs = gs
          · rw [decide_eq_true y, decide_eq_true ⟨e, y⟩]
          · rw [decide_eq_false y, decide_eq_false (fun z => y z.2)]
        rw [e2] at q
        exact q
      · rw [decide_eq_false e]
        refine iteF ?_
        rw [decide_eq_false (fun z : ks = ks2 ∧ fs = gs => e z.1)] at q
        exact q
    · refine ⟨_, rfl, _, _, _, _, false, rfl, .own _, ht, hk1, _, rfl, ?_⟩
      exact iteF q
end
end My

namespace My
open PySem PySem.Spec PyProof.Rows L2
open Kn (KindAt Right Best byL by_divisor right_best)
abbrev s_common_divisor : Stmt := topS 32
theorem sc_common_divisor : FnScope ["factors", "divisor", "factor"] ["factors"] (defScope s_common_divisor) := ⟨rfl, rfl, rfl, by decide +kernel, rfl, by decide +kernel, by decide +kernel⟩
/-! ### common divisors -/
def gcdL : Nat → List Int → Nat
  | g, [] => g
  | g, x :: r => gcdL (Nat.gcd g x.natAbs) r
theorem gcdL_dvd : ∀ (ns : List Int) (g : Nat), gcdL g ns ∣ g ∧ ∀ x ∈ ns, gcdL g ns ∣ x.natAbs
  | [], g => ⟨Nat.dvd_refl g, fun _ z => nomatch z⟩
  | y :: r, g => by
    obtain ⟨h1, h2⟩ := gcdL_dvd r (Nat.gcd g y.natAbs)
    refine ⟨Nat.dvd_trans h1 (Nat.gcd_dvd_left _ _), fun x hx => ?_⟩
    rcases List.mem_cons.mp hx with rfl | hx
    · exact Nat.dvd_trans h1 (Nat.gcd_dvd_right _ _)
    · exact h2 x hx
theorem gcdL_pos {ns : List Int} {x : Int} (g : Nat) (hx : x ∈ ns) (h : 0 < x) : 0 < gcdL g ns ∧ (gcdL g ns : Int) ≤ x := by
  have d := (gcdL_dvd ns g).2 x hx
  have p : 0 < x.natAbs := by omega
  have l := Nat.le_of_dvd p d
  exact ⟨Nat.pos_of_dvd_of_pos d p, by omega⟩
theorem div_common {F : List Int} {deg : Nat} {c : Int} {g : Nat} (D : Divisor F deg c) (hg : 0 < g) (hc : (g : Int) ≤ c) : Divisor (F.map fun z => z / (g : Int)) deg (c / (g : Int)) := by
  have g0 : (0 : Int) < (g : Int) := by omega
  have lt : deg < F.length := by rw [D.lead.len]; omega
  refine ⟨⟨by rw [List.length_map, D.lead.len], ?_, ?_⟩, ?_, D.few, fun z hz => ?_⟩
  · have t := D.lead.top
    rw [List.getD_eq_getElem?_getD, List.getElem?_eq_getElem lt] at t
    rw [List.getD_eq_getElem?_getD, List.getElem?_map, List.getElem?_eq_getElem lt]
    show F[deg] / (g : Int) = _
    rw [← t]
    rfl
  · have : 1 ≤ c / (g : Int) := Int.le_ediv_of_mul_le g0 (by omega)
    omega
  · have := Int.ediv_le_self (g : Int) (show 0 ≤ c by have := D.lead.pos; omega)
    have := D.small
    omega
  · obtain ⟨y, hy, rfl⟩ := List.mem_map.mp hz
    have := D.each y hy
    have a : -999999 ≤ y / (g : Int) := Int.le_ediv_of_mul_le g0 (by omega)
    have b : y / (g : Int) < 1000000 := Int.ediv_lt_of_lt_mul g0 (by omega)
    omega
theorem byl_top {ks : List (Str × Int)} {m : Nat} {c : Int} (d : Divisor (byL (ks.map (·.2)) m) m c) : c ∈ byL (ks.map (·.2)) m := by
  have lt : m < (byL (ks.map (·.2)) m).length := by rw [d.lead.len]; omega
  have t := d.lead.top
  rw [List.getD_eq_getElem?_getD, List.getElem?_eq_getElem lt] at t
  exact t ▸ List.getElem_mem lt
theorem go_lenq (F : List Int) (c : Int) (deg : Nat) : ∀ (n : Nat) (Q R : List Int), (divGo F c deg n Q R).1.length = Q.length
  | 0, _, _ => rfl
  | n + 1, Q, R => by
    show (divGo F c deg n (Q.set n _) _).1.length = _
    rw [go_lenq F c deg n, List.length_set]
structure spDividedL (vs : List V) (H : Hp) (Q : VK) (E : XK) : Prop where
  ex : ∃ a b fs F deg c, vs = [.ref a, .ref b] ∧ IntsAt H a fs ∧ H b = some (.lst (F.map V.int)) ∧ Divisor F deg c ∧ fs.length ≤ 900 ∧ ∀ r q1 r1 H', Same H H' → H r = none → H' r = some (.tup [.ref q1, .ref r1]) → Rd H' q1 (.tup ((trimN (divL fs F deg c).1).map V.int)) → Rd H' r1 (.tup ((restL fs F deg c).map V.int)) → Q (.ref r) H'
structure spCommon (vs : List V) (H : Hp) (Q : VK) (E : XK) : Prop where
  ex : ∃ a ns, vs = [.ref a] ∧ Rd H a (.tup (ns.map V.int)) ∧ Q (.int (gcdL 0 ns : Nat)) H
section
variable {P : Program} {w : World} {K : PySem.W.Frag} {mg : Str → Option Value} {base : Heap}
theorem ok_common {f : Addr} {fd : FuncData} {k : Nat} (F : Fun K "common_divisor" "common_divisor" s_common_divisor f fd) (g_gcd : mg "gcd" = some (.builtin "math.gcd")) : FnOk P w K mg base CX0 (k + 1) f fd ["factors"] spCommon := by
  refine F.ok sc_common_divisor (fun vs H Q E h => ?_) (fun cdv A outer s H vs Q E hr h => ?_)
  · obtain ⟨a, ns, rfl, _⟩ := h
    rfl
  · obtain ⟨a, ns, rfl, ha, q⟩ := h
    refine ⟨_, (pss_cons (ps_set (i := 1) sc_common_divisor.nd rfl (.inl rfl) pe_int)
  (pss_cons (ps_for PassesOwn.never rfl (pi_tup (pv 0)) (pg_name (i := 2) sc_common_divisor.nd rfl (.inl rfl))
   (pss_one (ps_set (i := 1) sc_common_divisor.nd rfl (.inl rfl) (pe_callBfun cr_gcd (by rfl) g_gcd (pa_cons (pv 1) (pa_cons (pv 2) pa_nil))))))
  (pss_one (ps_ret (pv 1))))), ?_⟩
    refine ⟨_, rfl, a, rfl, ⟨_, .inl ha⟩, ?_⟩
    refine for_it (walk_tup (xs := ns.map V.int)) (fun i σ H5 => H5 = H ∧ ∃ (g : Nat) (v : Option V), σ = [some (.ref a), some (.int (g : Nat)), v] ∧ gcdL g (ns.drop i) = gcdL 0 ns) ⟨rfl, 0, none, rfl, rfl⟩ (fun i σ H5 _ h => .inl (by rw [h.1]; exact ha)) ?_ ?_
    · rintro i x σ H5 H6 hi ⟨rfl, g, v, rfl, inv⟩ ⟨rfl, ex⟩
      rw [List.length_map] at hi
      rw [List.getElem?_map, List.getElem?_eq_getElem hi] at ex
      obtain rfl : V.int ns[i] = x := Option.some.inj ex
      rw [List.drop_eq_getElem_cons hi] at inv
      exact ⟨_, rfl, _, rfl, _, _, rfl, rfl, Nat.gcd g ns[i].natAbs, _, rfl, inv⟩
    · rintro σ H5 ⟨rfl, g, v, rfl, inv⟩
      rw [List.length_map, List.drop_length] at inv
      have e : g = gcdL 0 ns := inv
      rw [← e] at q
      exact ⟨_, rfl, q⟩
theorem ok_dividedL {f f1 : Addr} {fd fd1 : FuncData} {k : Nat} (F : Fun K "divided" "divided" s_divided f fd) (T : TxtV mg) (F_trimmed : Fun K "trimmed" "trimmed" s_trimmed f1 fd1) (b_trimmed : Binds K fd1 ["factors"] []) (g_trimmed : mg "trimmed" = some (.ref f1)) (G_trimmed : FnOk P w K mg base CX0 1 f1 fd1 ["factors"] spTrim) :
    FnOk P w K mg base CX0 (k + 2) f fd ["factors", "divisor"] spDividedL := by
  refine F.ok sc_divided (fun vs H Q E h => ?_) (fun cdv A outer s H vs Q E hr h => ?_)
  · obtain ⟨a, b, fs, F, deg, c, rfl, _⟩ := h
    rfl
  · obtain ⟨a, b, fs, F, deg, c, rfl, ih, hb, dv, few, q⟩ := h
    refine ⟨_, (pss_cons (ps_set (i := 2) sc_divided.nd rfl (.inl rfl) (pe_callTy call_list_of (by rfl) T.n_list (by decide +kernel) (pa_cons (pv 0) pa_nil)))
  (pss_cons (ps_set (i := 3) sc_divided.nd rfl (.inl rfl) (pe_op op_sub (pe_callB call_len_seq (by rfl) T.n_len (by decide +kernel) (pa_cons (pv 1) pa_nil)) pe_int))
  (C8.pss_cut (ps_setLc (i := 4) (own := [("_", 9)]) (g := gName 9) rfl sc_divided.nd rfl rfl (sw_true rfl rfl rfl (by decide +kernel)) (pi_either (K := K) rfl (pv 0)) (blkOk_by (own := [("_", 9)]) (N := ["factors", "divisor", "rest", "degree", "quotient", "k", "times", "j", "factor", "_"]) (sc := defScope s_divided) (by decide +kernel)) (fun _ _ _ _ _ => (pg_name (i := 9) sc_divided.nd rfl (.inl rfl))) (fun _ _ _ _ _ => pts_nil) (fun _ _ _ _ _ => pe_int))
  (pss_cons (ps_for PassesOwn.never rfl (pi_revR (by rfl) T.n_reversed (prg_2 (by rfl) T.n_range (pv 3) (pe_callB call_len_seq (by rfl) T.n_len (by decide +kernel) (pa_cons (pv 0) pa_nil)))) (pg_name (i := 5) sc_divided.nd rfl (.inl rfl))
   (pss_cons (ps_set (i := 6) sc_divided.nd rfl (.inl rfl) (pe_op op_fdiv (pe_ix ix_list (pv 2) (pv 5) (fun _ _ => rfl)) (pe_ix ix_list (pv 1) (pv 3) (fun _ _ => rfl))))
  (pss_cons (ps_asg (pv 6) (pg_sub (pv 4) (pe_op op_sub (pv 5) (pv 3)) set_list))
  (pss_one (ps_for PassesOwn.never rfl (pi_enum (by rfl) T.n_enumerate (pa_cons (pv 1) pa_nil)) (pg_tup rfl (pgs_cons (pg_name (i := 7) sc_divided.nd rfl (.inl rfl)) (pgs_cons (pg_name (i := 8) sc_divided.nd rfl (.inl rfl)) pgs_nil)))
   (pss_one (ps_asg (pe_op op_sub (pe_ix ix_list (pv 2) (pe_op op_add (pe_op op_sub (pv 5) (pv 3)) (pv 7)) (fun _ _ => rfl)) (pe_op op_mul (pv 6) (pv 8))) (pg_sub (pv 2) (pe_op op_add (pe_op op_sub (pv 5) (pv 3)) (pv 7)) set_list))))))))
  (pss_one (ps_ret (pe_tup (pa_cons (pe_call G_trimmed (hr.mono (by omega)) (by rfl) g_trimmed F_trimmed.kp b_trimmed .nil pass0 (pa_cons (pv 4) pa_nil)) (pa_cons (pe_call G_trimmed (hr.mono (by omega)) (by rfl) g_trimmed F_trimmed.kp b_trimmed .nil pass0 (pa_cons (pv 2) pa_nil)) pa_nil))))))))), ?_⟩
    clear G_trimmed
    have L := dv.lead
    refine ⟨_, rfl, a, _, rfl, ih.sq, fun l nl => ?_⟩
    have s1 := same_upd (o := .lst (fs.map V.int)) nl
    have el1 : (upd H l (.lst (fs.map V.int))) l = some (.lst (fs.map V.int)) := upd_same
    generalize upd H l (.lst (fs.map V.int)) = H1 at s1 el1 ⊢
    refine ⟨_, rfl, b, _, rfl, .inl (.inl (.inl (s1 _ _ hb))), _, _, rfl, rfl, ?_⟩
    have ed : V.int (((F.map V.int).length : Nat) - (1 : Int)) = V.int ((deg : Nat) : Int) := by
      rw [List.length_map, L.len]
      congr 1
      omega
    dsimp only
    rw [ed]
    have ih1 := ih.same s1
    refine ⟨fun σ' H' => Same H1 H' ∧ ∃ D, σ' = [some (.ref a), some (.ref b), some (.ref l), some (.int (deg : Nat)), some (.ref D), none, none, none, none, none] ∧ H1 D = none ∧ H' D = some (.lst ((List.replicate fs.length (0 : Int)).map V.int)), ?_, ?_⟩
    · have fin : ∀ (D : Addr) (H5 : Hp) (i : Nat), i < fs.length → H1 D = none → Same H1 H5 → H5 D = some (.lst ((List.replicate i (0 : Int)).map V.int)) → ∃ acc, H5 D = some (.lst acc) ∧ acc.length < sizeLine ∧ Same H1 (upd H5 D (.lst (acc ++ [V.int 0]))) ∧ (upd H5 D (.lst (acc ++ [V.int 0]))) D = some (.lst ((List.replicate (i + 1) (0 : Int)).map V.int)) := fun D H5 i hi nD s5 hD =>
        ⟨_, hD, small1000 (by rw [List.length_map, List.length_replicate]; omega), same_at s5 nD, by rw [upd_same, List.replicate_succ', List.map_append]; rfl⟩
      rcases ih1 with e0 | e0
      · refine ⟨_, rfl, a, rfl, .inl ⟨⟨_, .inl (.inl e0)⟩, fun D nD => ?_⟩⟩
        refine lc_it (walk_list (xs := fs.map V.int)) (fun i H5 => Same H1 H5 ∧ H5 D = some (.lst ((List.replicate i (0 : Int)).map V.int))) ⟨same_upd nD, upd_same⟩ (fun i H5 _ h => .inl (.inl (h.1 _ _ e0))) ?_ ?_
        · rintro i z H5 H6 hi ⟨s5, hD⟩ ⟨rfl, ez⟩
          rw [List.length_map] at hi
          refine ⟨rfl, ?_⟩
          unfold tYes
          dsimp only
          rw [if_pos rfl]
          exact fin D H6 i hi nD s5 hD
        rintro H5 ⟨s5, hD⟩
        rw [List.length_map] at hD
        exact ⟨s5, D, rfl, nD, hD⟩
      · refine ⟨_, rfl, a, rfl, .inr ⟨⟨_, .inl e0⟩, fun D nD => ?_⟩⟩
        refine lc_it (walk_tup (xs := fs.map V.int)) (fun i H5 => Same H1 H5 ∧ H5 D = some (.lst ((List.replicate i (0 : Int)).map V.int))) ⟨same_upd nD, upd_same⟩ (fun i H5 _ h => .inl (rd_same e0 h.1)) ?_ ?_
        · rintro i z H5 H6 hi ⟨s5, hD⟩ ⟨rfl, ez⟩
          rw [List.length_map] at hi
          refine ⟨rfl, ?_⟩
          unfold tYes
          dsimp only
          rw [if_pos rfl]
          exact fin D H6 i hi nD s5 hD
        rintro H5 ⟨s5, hD⟩
        rw [List.length_map] at hD
        exact ⟨s5, D, rfl, nD, hD⟩
    rintro σ H2 ⟨s2, D, rfl, nD, eD⟩
    have s12 := s1.trans s2
    have el2 := s2 _ _ el1
    have nDH : H D = none := s1.free nD
    have nDl : l ≠ D := ne_of_none el1 nD
    clear nD
    refine ⟨_, rfl, _, rfl, a, _, rfl, (ih.same s12).sq, ?_⟩
    rw [List.length_map]
    have hN : ((fs.length : Int) - ((deg : Nat) : Int)).toNat = fs.length - deg := by omega
    have fw := dv.few
    refine ⟨_, _, rfl, rfl, by omega, by omega, by omega, by omega, ?_⟩
    rw [hN]
    generalize hn : fs.length - deg = n
    have kk : ∀ i m : Nat, n = i + (m + 1) → ((deg : Nat) : Int) + ((n : Nat) : Int) - 1 + ((i : Nat) : Int) * (-1) = ((deg + m : Nat) : Int) := fun i m e => by omega
    refine for_it (walk_rangeC (n := n)) (fun i σ H5 => Same H H5 ∧ ∃ (M R : List Int) (v5 v6 v7 v8 : Option V), σ = [some (.ref a), some (.ref b), some (.ref l), some (.int (deg : Nat)), some (.ref D), v5, v6, v7, v8, none] ∧ H5 D = some (.lst (M.map V.int)) ∧ H5 l = some (.lst (R.map V.int)) ∧ M.length = fs.length ∧ R.length = fs.length ∧ divGo F c deg (n - i) M R = divL fs F deg c)
      ⟨s12, _, _, none, none, none, none, rfl, eD, el2, List.length_replicate, rfl, by unfold divL; rw [hn]; rfl⟩ (fun _ _ _ _ _ => True.intro) ?_ ?_
    · rintro i x σ H5 H6 hi ⟨s5, M, R, v5, v6, v7, v8, rfl, eM, eR, lM, lR, inv⟩ ⟨rfl, ex⟩
      obtain ⟨m, hm⟩ : ∃ m, n = i + (m + 1) := ⟨n - i - 1, by omega⟩
      have ex : x = V.int ((deg + m : Nat) : Int) := by rw [ex, ← kk i m hm]
      subst ex
      have em : n - i = m + 1 := by omega
      rw [em] at inv
      have lt : deg + m < R.length := by omega
      have ltF : deg < F.length := by rw [L.len]; omega
      have hb5 := s5 _ _ hb
      -- times
      refine ⟨_, rfl, _, rfl, l, _, ((deg + m : Nat) : Int), _, rfl, rfl, .inl (.inl eR), get_nat lt, _, rfl, _, rfl, b, _, ((deg : Nat) : Int), _, rfl, rfl, .inl (.inl hb5), get_nat ltF, _, _, rfl, rfl, by rw [L.top]; exact ⟨L.pos, dv.small⟩, ?_⟩
      rw [L.top]
      have ht : ∃ t, R.getD (deg + m) 0 / c = t := ⟨_, rfl⟩
      obtain ⟨t, ht⟩ := ht
      have inv : divGo F c deg m (M.set m (R.getD (deg + m) 0 / c)) (mulRow m (-(R.getD (deg + m) 0 / c)) 0 F R) = divL fs F deg c := inv
      dsimp only
      rw [ht] at inv ⊢
      -- quotient[k - degree] = times
      have kd : V.int (((deg + m : Nat) : Int) - ((deg : Nat) : Int)) = V.int ((m : Nat) : Int) := by
        congr 1
        omega
      refine ⟨_, rfl, _, rfl, _, rfl, _, rfl, _, _, rfl, rfl, D, _, ((m : Nat) : Int), m, rfl, kd, eM, ?_, ?_⟩
      · rw [List.length_map]
        exact ix_nat (by omega)
      rw [← List.map_set]
      have s6 := same_at (o := .lst ((M.set m t).map V.int)) s5 nDH
      have eM6 : (upd H6 D (.lst ((M.set m t).map V.int))) D = some (.lst ((M.set m t).map V.int)) := upd_same
      have eR6 : (upd H6 D (.lst ((M.set m t).map V.int))) l = some (.lst (R.map V.int)) := by
        rw [upd_ne nDl]
        exact eR
      generalize upd H6 D (.lst ((M.set m t).map V.int)) = H7 at s6 eM6 eR6 ⊢
      have hb7 := s6 _ _ hb
      refine ⟨_, rfl, b, _, rfl, .inl (.inl hb7), ?_⟩
      refine for_it (walk_enum (xs := F.map V.int)) (fun j σ H8 => Same H H8 ∧ ∃ (N : List Int) (v7 v8 : Option V), σ = [some (.ref a), some (.ref b), some (.ref l), some (.int (deg : Nat)), some (.ref D), some (.int ((deg + m : Nat) : Int)), some (.int t), v7, v8, none] ∧ H8 D = some (.lst ((M.set m t).map V.int)) ∧ H8 l = some (.lst (N.map V.int)) ∧ N.length = fs.length ∧ mulRow m (-t) j (F.drop j) N = mulRow m (-t) 0 F R) ⟨s6, R, _, _, rfl, eM6, eR6, lR, rfl⟩ (fun j σ H8 _ h => .inl (.inl (h.1 _ _ hb))) ?_ ?_
      · rintro j x σ H8 H9 hj ⟨s8, N, v7, v8, rfl, eM8, eN, lN, inv2⟩ ⟨T9, x9, y9, rfl, nT9, rfl, ex9, ey9⟩
        rw [List.length_map] at hj
        have ey9 : (F.map V.int)[j]? = some y9 := ey9
        rw [List.getElem?_map, List.getElem?_eq_getElem hj] at ey9
        obtain rfl : V.int F[j] = y9 := Option.some.inj ey9
        obtain rfl : V.int (j : Nat) = x9 := Option.some.inj ex9
        rw [List.drop_eq_getElem_cons hj] at inv2
        have sT := same_upd (o := .tup [V.int (j : Nat), V.int F[j]]) nT9
        have s9 := s8.trans sT
        have eN9 := sT _ _ eN
        have eM9 := sT _ _ eM8
        refine ⟨T9, _, rfl, .inl (.inl upd_same), rfl, _, _, rfl, _, _, rfl, rfl, ?_⟩
        generalize upd H8 T9 (.tup [V.int (j : Nat), V.int F[j]]) = H9 at s9 eN9 eM9 ⊢
        have lt2 : m + j < N.length := by rw [L.len] at hj; omega
        have hF := dv.each F[j] (List.getElem_mem hj)
        have ei : V.int (((deg + m : Nat) : Int) - ((deg : Nat) : Int) + ((j : Nat) : Int)) = V.int ((m + j : Nat) : Int) := by
          congr 1
          omega
        refine ⟨_, rfl, _, rfl, _, rfl, _, _, rfl, rfl, _, rfl, _, _, rfl, rfl, l, _, ((m + j : Nat) : Int), _, rfl, ei, .inl (.inl eN9), get_nat lt2, _, rfl, _, rfl, _, _, rfl, rfl, .inr ⟨by omega, by omega⟩, _, _, rfl, rfl, _, rfl, _, rfl, _, rfl, _, _, rfl, rfl, _, rfl, _, _, rfl, rfl, l, _, ((m + j : Nat) : Int), m + j, rfl, ei, eN9, ?_, ?_⟩
        · rw [List.length_map]
          exact ix_nat lt2
        · rw [← List.map_set]
          have inv3 : mulRow m (-t) (j + 1) (F.drop (j + 1)) (N.set (m + j) (N.getD (m + j) 0 + -t * F[j])) = mulRow m (-t) 0 F R := inv2
          rw [show N.getD (m + j) 0 + -t * F[j] = N.getD (m + j) 0 - t * F[j] by rw [Int.neg_mul]; omega] at inv3
          have nlH : H l = none := nl
          refine ⟨same_at s9 nlH, _, _, _, rfl, ?_, upd_same, by rw [List.length_set]; exact lN, inv3⟩
          rw [upd_ne nDl.symm]
          exact eM9
      · rintro σ H8 ⟨s8, N, v7, v8, rfl, eM8, eN, lN, inv2⟩
        rw [List.length_map, List.drop_length] at inv2
        have e : N = mulRow m (-t) 0 F R := inv2
        refine ⟨s8, _, N, _, _, _, _, rfl, eM8, eN, by rw [List.length_set]; exact lM, lN, ?_⟩
        rw [e, show n - (i + 1) = m by omega]
        exact inv
    · rintro σ H5 ⟨s5, M, R, v5, v6, v7, v8, rfl, eM, eR, lM, lR, inv⟩
      rw [Nat.sub_self] at inv
      have e1 : M = (divL fs F deg c).1 := congrArg Prod.fst inv
      have e2 : R = (divL fs F deg c).2 := congrArg Prod.snd inv
      refine ⟨_, rfl, ⟨D, M, rfl, .inl eM, by omega, fun q1 H6 s6 er1 => ?_⟩⟩
      refine ⟨_, rfl, ⟨l, R, rfl, .inl (s6 _ _ eR), by omega, fun r1 H7 s7 er2 => ?_⟩⟩
      refine ⟨by show 2 ≤ sizeLine; decide, fun r nr => ?_⟩
      have sr := same_upd (o := .tup [V.ref q1, V.ref r1]) nr
      have sA := (s5.trans s6).trans s7
      refine q r q1 r1 _ (sA.trans sr) (sA.free nr) upd_same (rd_same (rd_same (e1 ▸ er1) s7) sr) (rd_same ?_ sr)
      unfold restL
      rw [← e2]
      exact er2
end
end My

namespace My
open PySem PySem.Spec PyProof.Rows L2
/-! ### numbers with no divisors but 1 and themselves -/
def IsP (p : Nat) : Prop := 1 < p ∧ ∀ d, d ∣ p → d = 1 ∨ d = p
theorem some_p : ∀ (n m : Nat), m ≤ n → 1 < m → ∃ p, IsP p ∧ p ∣ m
  | 0, m, h, h1 => by omega
  | n + 1, m, h, h1 => by
    by_cases e : IsP m
    · exact ⟨m, e, Nat.dvd_refl m⟩
    · have : ∃ d, d ∣ m ∧ d ≠ 1 ∧ d ≠ m := by
        refine Classical.byContradiction fun z => e ⟨h1, fun d hd => ?_⟩
        refine Classical.byContradiction fun y => z ⟨d, hd, fun a => y (.inl a), fun a => y (.inr a)⟩
      obtain ⟨d, hd, d1, dm⟩ := this
      have dpos : 0 < d := Nat.pos_of_dvd_of_pos hd (by omega)
      have dle := Nat.le_of_dvd (by omega) hd
      obtain ⟨p, hp, pd⟩ := some_p n d (by omega) (by omega)
      exact ⟨p, hp, Nat.dvd_trans pd hd⟩
theorem IsP.mul {p : Nat} (h : IsP p) {a b : Int} (d : (p : Int) ∣ a * b) : (p : Int) ∣ a ∨ (p : Int) ∣ b := by
  have dn : p ∣ a.natAbs * b.natAbs := by
    rw [← Int.natAbs_mul]
    exact Int.ofNat_dvd_left.mp d
  rcases h.2 (Nat.gcd p a.natAbs) (Nat.gcd_dvd_left _ _) with e | e
  · exact .inr (Int.ofNat_dvd_left.mpr (Nat.Coprime.dvd_of_dvd_mul_left e dn))
  · refine .inl (Int.ofNat_dvd_left.mpr ?_)
    rw [← e]
    exact Nat.gcd_dvd_right _ _
/-! ### common divisors -/
theorem gcdL_mul (m : Nat) : ∀ (ns : List Int) (g : Nat), gcdL (m * g) (ns.map fun z => (m : Int) * z) = m * gcdL g ns
  | [], _ => rfl
  | x :: r, g => by
    show gcdL (Nat.gcd (m * g) ((m : Int) * x).natAbs) _ = m * gcdL (Nat.gcd g x.natAbs) r
    rw [Int.natAbs_mul, Int.natAbs_natCast, Nat.gcd_mul_left, gcdL_mul m r]
theorem dvd_gcdL {d : Nat} : ∀ {ns : List Int} {g : Nat}, d ∣ g → (∀ x ∈ ns, (d : Int) ∣ x) → d ∣ gcdL g ns
  | [], _, h, _ => h
  | x :: r, g, h, a => (dvd_gcdL (ns := r) (g := Nat.gcd g x.natAbs) (Nat.dvd_gcd h (Int.ofNat_dvd_left.mp (a x List.mem_cons_self))) fun y hy => a y (List.mem_cons_of_mem _ hy) : d ∣ gcdL (Nat.gcd g x.natAbs) r)
theorem gcdL_dvdI (ns : List Int) (g : Nat) : ∀ x ∈ ns, (gcdL g ns : Int) ∣ x := fun x hx => Int.ofNat_dvd_left.mpr ((gcdL_dvd ns g).2 x hx)
/-! ### products with a factor in common -/
theorem cv_scale {q : Nat → Int} {P : List Int} {k : Nat} (c : Int) (m : Nat) : cv q (P.map fun z => c * z) m k = c * cv q P m k := by
  induction m with
  | zero => exact (Int.mul_zero c).symm
  | succ m ih =>
    show cv q (P.map fun z => c * z) m k + q m * shF (P.map fun z => c * z) k m = c * (cv q P m k + q m * shF P k m)
    have e : shF (P.map fun z => c * z) k m = c * shF P k m := by
      unfold shF
      split
      · rw [List.getD_eq_getElem?_getD, List.getElem?_map, List.getD_eq_getElem?_getD]
        cases P[k - m]? with
        | none => exact (Int.mul_zero c).symm
        | some z => rfl
      · exact (Int.mul_zero c).symm
    rw [ih, e, Int.mul_add, ← Int.mul_assoc, ← Int.mul_assoc, Int.mul_comm (q m) c]
theorem cv_dvd {p : Int} {q : Nat → Int} {P : List Int} {k : Nat} : ∀ {n : Nat}, (∀ j, j < n → p ∣ q j * shF P k j) → p ∣ cv q P n k
  | 0, _ => ⟨0, (Int.mul_zero p).symm⟩
  | n + 1, h => Int.dvd_add (cv_dvd fun j hj => h j (by omega)) (h n (by omega))
theorem cv_one {p : Int} {q : Nat → Int} {P : List Int} {k i : Nat} : ∀ {n : Nat}, i < n → (∀ j, j < n → j ≠ i → p ∣ q j * shF P k j) → p ∣ cv q P n k - q i * shF P k i
  | 0, h, _ => by omega
  | n + 1, h, a => by
    show p ∣ cv q P n k + q n * shF P k n - q i * shF P k i
    by_cases e : n = i
    · subst e
      have := cv_dvd (p := p) (q := q) (P := P) (k := k) (n := n) fun j hj => a j (by omega) (by omega)
      rw [Int.add_sub_cancel]
      exact this
    · have h1 := cv_one (p := p) (q := q) (P := P) (k := k) (i := i) (n := n) (by omega) fun j hj ne => a j (by omega) ne
      have h2 := a n (by omega) e
      have e3 : cv q P n k + q n * shF P k n - q i * shF P k i = (cv q P n k - q i * shF P k i) + q n * shF P k n := by omega
      rw [e3]
      exact Int.dvd_add h1 h2
theorem least_not {f : Nat → Prop} [DecidablePred f] : ∀ n, (∃ j, j < n ∧ ¬ f j) → ∃ i, i < n ∧ ¬ f i ∧ ∀ j, j < i → f j
  | 0, ⟨j, hj, _⟩ => by omega
  | n + 1, ⟨j, hj, hf⟩ => by
    by_cases e : ∃ j, j < n ∧ ¬ f j
    · obtain ⟨i, hi, h1, h2⟩ := least_not n e
      exact ⟨i, by omega, h1, h2⟩
    · refine ⟨j, hj, hf, fun z hz => ?_⟩
      refine Classical.byContradiction fun y => e ⟨z, by omega, y⟩
/-- a prime that divides a product with a primitive polynomial divides the other factor -/
theorem gauss_p {p : Nat} (hp : IsP p) {q : Nat → Int} {P : List Int} {n : Nat} (prim : gcdL 0 P = 1) (h : ∀ k, (p : Int) ∣ cv q P n k) : ∀ j, j < n → (p : Int) ∣ q j := by
  refine Classical.byContradiction fun z => ?_
  have ex : ∃ j, j < n ∧ ¬ (p : Int) ∣ q j := Classical.byContradiction fun y => z fun j hj => Classical.byContradiction fun w => y ⟨j, hj, w⟩
  obtain ⟨j0, hj, nq, lq⟩ := least_not (f := fun j => (p : Int) ∣ q j) n ex
  have exP : ∃ i, i < P.length ∧ ¬ (p : Int) ∣ P.getD i 0 := by
    refine Classical.byContradiction fun y => ?_
    have all : ∀ x ∈ P, (p : Int) ∣ x := fun x hx => by
      obtain ⟨i, hi, rfl⟩ := List.getElem_of_mem hx
      refine Classical.byContradiction fun w => y ⟨i, hi, ?_⟩
      rw [List.getD_eq_getElem?_getD, List.getElem?_eq_getElem hi]
      exact w
    have d := dvd_gcdL (d := p) (g := 0) (Nat.dvd_zero p) all
    rw [prim] at d
    have := Nat.le_of_dvd (by omega) d
    have := hp.1
    omega
  obtain ⟨i0, hi, nP, lP⟩ := least_not (f := fun i => (p : Int) ∣ P.getD i 0) P.length exP
  have one := cv_one (p := (p : Int)) (q := q) (P := P) (k := i0 + j0) (i := j0) hj fun j hj2 ne => by
    rcases Nat.lt_or_ge j j0 with g | g
    · exact Int.dvd_mul_of_dvd_left (lq j g)
    · unfold shF
      split
      · exact Int.dvd_mul_of_dvd_right (lP _ (by omega))
      · exact ⟨0, by rw [Int.mul_zero, Int.mul_zero]⟩
  have sum := Int.dvd_sub (h (i0 + j0)) one
  have e : shF P (i0 + j0) j0 = P.getD i0 0 := by
    rw [shF, if_pos (by omega), show i0 + j0 - j0 = i0 by omega]
  rw [e] at sum
  have e2 : cv q P n (i0 + j0) - (cv q P n (i0 + j0) - q j0 * P.getD i0 0) = q j0 * P.getD i0 0 := by omega
  rw [e2] at sum
  rcases hp.mul sum with d | d
  · exact nq d
  · exact nP d
/-- .. any number that divides it -/
theorem gauss {P : List Int} (prim : gcdL 0 P = 1) : ∀ (N m : Nat), m ≤ N → 1 ≤ m → ∀ {q : Nat → Int} {n : Nat}, (∀ k, (m : Int) ∣ cv q P n k) → ∀ j, j < n → (m : Int) ∣ q j
  | 0, m, h, h1, _, _, _ => by omega
  | N + 1, m, h, h1, q, n, hd => by
    by_cases e : m = 1
    · subst e
      exact fun j _ => Int.one_dvd _
    obtain ⟨p, hp, m', rfl⟩ := some_p m m (Nat.le_refl _) (by omega)
    have p1 := hp.1
    have ppos : (p : Int) ≠ 0 := by omega
    have hm' : 1 ≤ m' := by
      rcases Nat.eq_zero_or_pos m' with z | z
      · subst z
        omega
      · exact z
    have lt : m' < p * m' := by
      have := Nat.mul_le_mul_right m' (show 2 ≤ p by omega)
      omega
    have cast : ((p * m' : Nat) : Int) = (p : Int) * (m' : Int) := Int.natCast_mul p m'
    have dq := gauss_p hp (q := q) (n := n) prim fun k => Int.dvd_trans ⟨(m' : Int), cast⟩ (hd k)
    have ex : ∀ j, j < n → q j = p * (q j / p) := fun j hj => (Int.mul_ediv_cancel' (dq j hj)).symm
    have e2 : ∀ k, cv q P n k = p * cv (fun j => q j / p) P n k := fun k => by
      rw [← cv_mulc]
      exact cv_ext (fun j hj => ex j hj) k
    have ih := gauss prim N m' (by omega) hm' (q := fun j => q j / p) (n := n) fun k => by
      have h3 := hd k
      rw [cast, e2] at h3
      exact Int.dvd_of_mul_dvd_mul_left ppos h3
    intro j hj
    rw [cast, ex j hj]
    exact Int.mul_dvd_mul_left _ (ih j hj)
/-! ### quotients are told by their products -/
theorem cv_nought {q : Nat → Int} {P : List Int} {deg : Nat} {c : Int} (L : Lead P deg c) : ∀ n, (∀ k, cv q P n k = 0) → ∀ j, j < n → q j = 0
  | 0, _, j, hj => by omega
  | n + 1, h, j, hj => by
    have t := h (n + deg)
    rw [cv_top L] at t
    have z : q n = 0 := by
      rcases Int.mul_eq_zero.mp t with z | z
      · exact z
      · have := L.pos
        omega
    by_cases e : j = n
    · rw [e]
      exact z
    · refine cv_nought L n (fun k => ?_) j (by omega)
      have := h k
      have e2 : cv q P (n + 1) k = cv q P n k + q n * shF P k n := rfl
      rw [e2, z, Int.zero_mul, Int.add_zero] at this
      exact this
theorem cv_uniq {a b : Nat → Int} {P : List Int} {deg n m : Nat} {c : Int} (L : Lead P deg c) (h : ∀ k, cv a P n k = cv b P m k) : ∀ j, j < n → a j = if j < m then b j else 0 := by
  intro j hj
  have e : ∀ k, cv (fun j => (if j < n then a j else 0) - (if j < m then b j else 0)) P (n + m) k = 0 := fun k => by
    rw [cv_sub, cv_pad, Nat.add_comm n m, cv_pad, h k, Int.sub_self]
  have z := cv_nought L (n + m) e j (by omega)
  have z : (if j < n then a j else 0) - (if j < m then b j else 0) = 0 := z
  rw [if_pos hj] at z
  omega
theorem quo_at {fs F : List Int} {deg : Nat} {c : Int} (L : Lead F deg c) (k : Nat) : fs.getD k 0 = (restL fs F deg c).getD k 0 + cv (fn (trimN (divL fs F deg c).1)) F (fs.length - deg) k := by
  have et : cv (fn (trimN (divL fs F deg c).1)) F (fs.length - deg) k = cv (fn (divL fs F deg c).1) F (fs.length - deg) k := cv_ext (fun j _ => getD_trim _ j) k
  rw [et]
  unfold restL
  rw [getD_trim]
  by_cases g : deg ≤ fs.length
  · exact (div_go L (fs.length - deg) (List.replicate fs.length 0) fs (by rw [List.length_replicate]; omega) (by omega)).eq k
  · unfold divL
    rw [show fs.length - deg = 0 by omega]
    show _ = fs.getD k 0 + 0
    omega
theorem quo_hi {fs F : List Int} {deg : Nat} {c : Int} (L : Lead F deg c) {j : Nat} (hj : fs.length - deg ≤ j) : (trimN (divL fs F deg c).1).getD j 0 = 0 := by
  rw [getD_trim]
  by_cases g : deg ≤ fs.length
  · have := (div_go L (fs.length - deg) (List.replicate fs.length 0) fs (by rw [List.length_replicate]; omega) (by omega)).qh j hj
    unfold divL
    rw [this]
    exact getD_rep _ _
  · unfold divL
    rw [show fs.length - deg = 0 by omega]
    exact getD_rep _ _
/-! ### orders -/
/-- what order tells of factors -/
def ordV (F fs : List Int) (deg : Nat) (c : Int) : Option Nat :=
  if restL fs (F.map fun z => z / (gcdL 0 F : Int)) deg (c / (gcdL 0 F : Int)) = [] then some (gcdL 0 F / gcdL 0 (trimN (divL fs (F.map fun z => z / (gcdL 0 F : Int)) deg (c / (gcdL 0 F : Int))).1 ++ [(gcdL 0 F : Int)])) else none
/-- m times the factors are a multiple of F -/
def Zm (F fs : List Int) (m : Nat) : Prop := Mu F fun k => (m : Int) * fs.getD k 0
theorem map_mul_div {F : List Int} {g : Nat} (h : ∀ x ∈ F, (g : Int) ∣ x) : (F.map fun z => z / (g : Int)).map (fun z => (g : Int) * z) = F := by
  rw [List.map_map]
  conv => rhs; rw [← List.map_id F]
  refine List.map_congr_left fun x hx => ?_
  exact Int.mul_ediv_cancel' (h x hx)
theorem ord_spec {F fs : List Int} {deg : Nat} {c : Int} (L : Lead F deg c) : (ordV F fs deg c = none → ∀ m, 1 ≤ m → ¬ Zm F fs m) ∧ ∀ d, ordV F fs deg c = some d → 1 ≤ d ∧ d ∣ gcdL 0 F ∧ ∀ m, Zm F fs m ↔ d ∣ m := by
  have lt : deg < F.length := by rw [L.len]; omega
  have tm : c ∈ F := by
    have t := L.top
    rw [List.getD_eq_getElem?_getD, List.getElem?_eq_getElem lt] at t
    exact t ▸ List.getElem_mem lt
  obtain ⟨g0, gle⟩ := gcdL_pos 0 tm L.pos
  have dv := gcdL_dvdI F 0
  unfold ordV
  generalize hg : gcdL 0 F = g at *
  have gI : (g : Int) ≠ 0 := by omega
  have eF := map_mul_div dv
  have L2 : Lead (F.map fun z => z / (g : Int)) deg (c / (g : Int)) := by
    refine ⟨by rw [List.length_map, L.len], ?_, ?_⟩
    · have t := L.top
      rw [List.getD_eq_getElem?_getD, List.getElem?_eq_getElem lt] at t
      rw [List.getD_eq_getElem?_getD, List.getElem?_map, List.getElem?_eq_getElem lt]
      show F[deg] / (g : Int) = _
      rw [← t]
      rfl
    · have : 1 ≤ c / (g : Int) := Int.le_ediv_of_mul_le (by omega) (by omega)
      omega
  generalize F.map (fun z => z / (g : Int)) = P at eF L2 ⊢
  generalize c / (g : Int) = c' at L2 ⊢
  have prim : gcdL 0 P = 1 := by
    have e := gcdL_mul g P 0
    rw [eF, Nat.mul_zero, hg] at e
    have : g * gcdL 0 P = g * 1 := by omega
    exact Nat.eq_of_mul_eq_mul_left g0 this
  have toP : ∀ {q : Nat → Int} {n k : Nat}, cv q F n k = g * cv q P n k := fun {q n k} => by
    conv => lhs; rw [← eF]
    exact cv_scale _ _
  -- P divides
  have A : ∀ m, 1 ≤ m → Zm F fs m → restL fs P deg c' = [] := by
    rintro m hm ⟨q, n, e⟩
    have e : ∀ k, (m : Int) * fs.getD k 0 = cv q F n k := e
    have e2 : ∀ k, (m : Int) * fs.getD k 0 = cv (fun j => (g : Int) * q j) P n k := fun k => by rw [e, toP, cv_mulc]
    have dq := gauss prim m m (Nat.le_refl _) hm (q := fun j => (g : Int) * q j) (n := n) fun k => ⟨_, (e2 k).symm⟩
    have mI : (m : Int) ≠ 0 := by omega
    have e3 : ∀ k, fs.getD k 0 = cv (fun j => ((g : Int) * q j) / (m : Int)) P n k := fun k => by
      refine Int.eq_of_mul_eq_mul_left mI ?_
      rw [e2, ← cv_mulc]
      exact cv_ext (fun j hj => (Int.mul_ediv_cancel' (dq j hj)).symm) k
    exact rest_one L2 (div_at (fs := fs) L2 (.inr trivial)) (s := []) (gs := []) ⟨⟨fun _ => 0, 0, fun k => rfl⟩, fun k _ => ⟨Int.le_refl _, L2.pos⟩, rfl⟩ ⟨fun j => ((g : Int) * q j) / (m : Int), n, fun k => by rw [e3 k, List.getD_nil]; omega⟩
  refine ⟨fun h m hm z => ?_, fun d h => ?_⟩
  · rw [if_pos (A m hm z)] at h
    cases h
  · by_cases r0 : restL fs P deg c' = []
    rotate_left
    · rw [if_neg r0] at h
      cases h
    rw [if_pos r0] at h
    have h := Option.some.inj h
    have qa : ∀ k, fs.getD k 0 = cv (fn (trimN (divL fs P deg c').1)) P (fs.length - deg) k := fun k => by
      have := quo_at (fs := fs) L2 k
      rw [r0, List.getD_nil] at this
      omega
    have qh : ∀ j, fs.length - deg ≤ j → (trimN (divL fs P deg c').1).getD j 0 = 0 := fun j hj => quo_hi L2 hj
    generalize trimN (divL fs P deg c').1 = T at h qa qh
    generalize fs.length - deg = n at qa qh
    have hp : 0 < gcdL 0 (T ++ [(g : Int)]) := (gcdL_pos 0 (List.mem_append_right T List.mem_cons_self) (show (0 : Int) < (g : Int) by omega)).1
    have hdg : gcdL 0 (T ++ [(g : Int)]) ∣ g := by
      have := (gcdL_dvd (T ++ [(g : Int)]) 0).2 (g : Int) (List.mem_append_right T List.mem_cons_self)
      rwa [Int.natAbs_natCast] at this
    have hdT : ∀ x ∈ T, (gcdL 0 (T ++ [(g : Int)]) : Int) ∣ x := fun x hx => gcdL_dvdI _ 0 x (List.mem_append_left _ hx)
    have B : ∀ m : Nat, Zm F fs m ↔ ∀ j, (g : Int) ∣ (m : Int) * T.getD j 0 := by
      intro m
      constructor
      · rintro ⟨q, N, e⟩ j
        have e : ∀ k, (m : Int) * fs.getD k 0 = cv q F N k := e
        by_cases hj : j < n
        · have u := cv_uniq L2 (a := fun j => (m : Int) * fn T j) (b := fun j => (g : Int) * q j) (n := n) (m := N) (fun k => by rw [cv_mulc, cv_mulc, ← qa, e, toP]) j hj
          have u : (m : Int) * T.getD j 0 = if j < N then (g : Int) * q j else 0 := u
          rw [u]
          split
          · exact ⟨_, rfl⟩
          · exact ⟨0, (Int.mul_zero _).symm⟩
        · rw [qh j (by omega), Int.mul_zero]
          exact ⟨0, (Int.mul_zero _).symm⟩
      · intro a
        refine ⟨fun j => ((m : Int) * T.getD j 0) / (g : Int), n, fun k => ?_⟩
        show (m : Int) * fs.getD k 0 = _
        rw [toP, ← cv_mulc, qa, ← cv_mulc]
        exact cv_ext (fun j _ => (Int.mul_ediv_cancel' (a j)).symm) k
    have C : ∀ m : Nat, (∀ j, (g : Int) ∣ (m : Int) * T.getD j 0) ↔ g / gcdL 0 (T ++ [(g : Int)]) ∣ m := by
      intro m
      have gm := gcdL_mul m (T ++ [(g : Int)]) 0
      rw [Nat.mul_zero] at gm
      obtain ⟨g', eg⟩ := hdg
      constructor
      · intro a
        have dm : g ∣ gcdL 0 ((T ++ [(g : Int)]).map fun z => (m : Int) * z) := by
          refine dvd_gcdL (Nat.dvd_zero g) fun x hx => ?_
          obtain ⟨y, hy, rfl⟩ := List.mem_map.mp hx
          rcases List.mem_append.mp hy with hy | hy
          · obtain ⟨i, hi, rfl⟩ := List.getElem_of_mem hy
            have := a i
            rw [List.getD_eq_getElem?_getD, List.getElem?_eq_getElem hi] at this
            exact this
          · rw [List.mem_singleton.mp hy]
            exact ⟨(m : Int), Int.mul_comm _ _⟩
        rw [gm] at dm
        generalize gcdL 0 (T ++ [(g : Int)]) = hh at *
        rw [eg] at dm ⊢
        rw [Nat.mul_div_cancel_left _ hp]
        rw [Nat.mul_comm m hh] at dm
        exact Nat.dvd_of_mul_dvd_mul_left hp dm
      · intro a j
        have dt : (gcdL 0 (T ++ [(g : Int)]) : Int) ∣ T.getD j 0 := by
          rw [List.getD_eq_getElem?_getD]
          by_cases hj : j < T.length
          · rw [List.getElem?_eq_getElem hj]
            exact hdT _ (List.getElem_mem hj)
          · rw [List.getElem?_eq_none (by omega)]
            exact ⟨0, (Int.mul_zero _).symm⟩
        generalize gcdL 0 (T ++ [(g : Int)]) = hh at *
        obtain ⟨t, et⟩ := dt
        rw [eg, Nat.mul_div_cancel_left _ hp] at a
        obtain ⟨m', em⟩ := a
        refine ⟨(m' : Int) * t, ?_⟩
        rw [et, em, eg, Int.natCast_mul, Int.natCast_mul]
        ac_rfl
    subst h
    refine ⟨?_, ?_, fun m => (B m).trans (C m)⟩
    · obtain ⟨g', eg⟩ := hdg
      generalize gcdL 0 (T ++ [(g : Int)]) = hh at *
      rw [eg, Nat.mul_div_cancel_left _ hp]
      rcases Nat.eq_zero_or_pos g' with z | z
      · rw [z] at eg
        omega
      · exact z
    · obtain ⟨g', eg⟩ := hdg
      generalize gcdL 0 (T ++ [(g : Int)]) = hh at *
      refine ⟨hh, ?_⟩
      rw [eg, Nat.mul_div_cancel_left _ hp]
      exact Nat.mul_comm _ _
end My

namespace My
open PySem PySem.Spec PyProof.Rows L2
open Kn (KindAt Right Best byL by_divisor right_best)
abbrev s_Restorder : Stmt := inClass (topS 40) 2
theorem sc_Restorder : FnScope ["self", "whole", "common", "times", "left", "factor"] ["self"] (defScope s_Restorder) := ⟨rfl, rfl, rfl, by decide +kernel, rfl, by decide +kernel, by decide +kernel⟩
/-- the order of a rest -/
structure spOrder (d : RestD) (vs : List V) (H : Hp) (Q : VK) (E : XK) : Prop where
  ex : ∃ x ks fs, vs = [.ref x] ∧ RestAt d H x ks fs ∧ Right ks ∧ fs.length ≤ 800 ∧ ∀ m c, Best ks m → Divisor (byL (ks.map (·.2)) m) m c → ∀ H', Same H H' → Q (match ordV (byL (ks.map (·.2)) m) fs m c with | none => .non | some o => .int (o : Nat)) H'
section
variable {P : Program} {w : World} {K : PySem.W.Frag} {mg : Str → Option Value} {base : Heap}
theorem ok_order {dr : RestD} {f f1 f2 f3 : Addr} {fd fd1 fd2 fd3 : FuncData} {k : Nat} (F : Fun K "order" "Rest.order" s_Restorder f fd) (R : RestF P K mg dr)
    (F_difference : Fun K "difference" "difference" Kn.s_difference f1 fd1) (b_difference : Binds K fd1 ["kind"] []) (g_difference : mg "difference" = some (.ref f1)) (G_difference : FnOk P w K mg base CX0 2 f1 fd1 ["kind"] Kn.spDiff)
    (F_common_divisor : Fun K "common_divisor" "common_divisor" s_common_divisor f2 fd2) (b_common_divisor : Binds K fd2 ["factors"] []) (g_common_divisor : mg "common_divisor" = some (.ref f2)) (G_common_divisor : FnOk P w K mg base CX0 1 f2 fd2 ["factors"] spCommon)
    (F_divided : Fun K "divided" "divided" s_divided f3 fd3) (b_divided : Binds K fd3 ["factors", "divisor"] []) (g_divided : mg "divided" = some (.ref f3)) (G_divided : FnOk P w K mg base CX0 2 f3 fd3 ["factors", "divisor"] spDividedL) : FnOk P w K mg base CX0 (k + 3) f fd ["self"] (spOrder dr) := by
  refine F.ok sc_Restorder (fun vs H Q E h => ?_) (fun cdv A outer s H vs Q E hr h => ?_)
  · obtain ⟨x, ks, fs, rfl, _⟩ := h
    rfl
  · obtain ⟨x, ks, fs, rfl, ra, rk, few, q⟩ := h
    refine ⟨_, (pss_cons (ps_set (i := 1) sc_Restorder.nd rfl (.inl rfl) (pe_call G_difference (hr.mono (by omega)) (by rfl) g_difference F_difference.kp b_difference .nil pass0 (pa_cons (pe_fld (pv 0) rfl) pa_nil)))
  (pss_cons (ps_set (i := 2) sc_Restorder.nd rfl (.inr rfl) (pe_call G_common_divisor (hr.mono (by omega)) (by rfl) g_common_divisor F_common_divisor.kp b_common_divisor .nil pass0 (pa_cons (pv 1) pa_nil)))
  (pss_cons (ps_asg (pe_call G_divided (hr.mono (by omega)) (by rfl) g_divided F_divided.kp b_divided .nil pass0 (pa_cons (pe_fld (pv 0) rfl) (pa_cons (pe_lc (own := [("factor", 5)]) (g := gName 5) rfl sc_Restorder.nd (pi_tup (pv 1)) (blkOk_by (own := [("factor", 5)]) (N := ["self", "whole", "common", "times", "left", "factor"]) (sc := defScope s_Restorder) (by decide +kernel)) (fun _ _ _ _ _ => (pg_name (i := 5) sc_Restorder.nd rfl (.inl rfl))) (fun _ _ _ _ _ => pts_nil) (fun _ _ _ _ _ => (pe_op op_fdiv (pv 5) (pv 2)))) pa_nil))) (pg_tup rfl (pgs_cons (pg_name (i := 3) sc_Restorder.nd rfl (.inl rfl)) (pgs_cons (pg_name (i := 4) sc_Restorder.nd rfl (.inl rfl)) pgs_nil))))
  (pss_cons (ps_if (pt_cmpR (op_neD hr.units) (pv 4) (pe_tup pa_nil) (nomark _))
   (pss_one (ps_ret pe_non))
   pss_nil)
  (pss_one (ps_ret (pe_op op_fdiv (pv 2) (pe_call G_common_divisor (hr.mono (by omega)) (by rfl) g_common_divisor F_common_divisor.kp b_common_divisor .nil pass0 (pa_cons (pe_op op_catA (pv 3) (pe_tup (pa_cons (pv 2) pa_nil))) pa_nil))))))))), ?_⟩
    clear G_difference G_common_divisor G_divided
    obtain ⟨dx, a, r, hx, hk, hf⟩ := id ra
    obtain ⟨m, bm⟩ := right_best rk
    obtain ⟨c, dv, c8⟩ := by_divisor rk bm
    refine ⟨_, rfl, x, dr.rest, dx, _, .ref a, rfl, hx, R.rest, R.naK, rfl, ⟨a, ks, m, rfl, hk, by have := rk.1.2; omega, bm.most, bm.m2, bm.m4, fun l H1 s1 nl el => ?_⟩⟩
    have el : H1 l = some (.tup ((byL (ks.map (·.2)) m).map V.int)) := el
    obtain ⟨gp, gle⟩ := gcdL_pos 0 (byl_top dv) dv.lead.pos
    have q := q m c bm dv
    unfold ordV at q
    refine ⟨_, rfl, ⟨l, _, rfl, .inl el, ?_⟩⟩
    generalize gcdL 0 (byL (ks.map (·.2)) m) = g at gp gle q ⊢
    have dg := div_common dv gp gle
    have g0 : (0 : Int) < (g : Int) := by omega
    have lF : (byL (ks.map (·.2)) m).length ≤ 5 := by rw [dv.lead.len]; have := bm.m4; omega
    have hx1 := s1 _ _ hx
    have hf1 := rd_same hf s1
    refine ⟨_, rfl, x, dr.rest, dx, _, .ref r, rfl, hx1, R.rest, R.naF, rfl, _, rfl, l, rfl, ⟨_, .inl (.inl el)⟩, fun D nD => ?_⟩
    generalize byL (ks.map (·.2)) m = F at dv dg el lF q ⊢
    refine lc_it (walk_tup (xs := F.map V.int)) (fun i H5 => Same H1 H5 ∧ H5 D = some (.lst (((F.take i).map fun z => z / (g : Int)).map V.int))) ⟨same_upd nD, upd_same⟩ (fun i H5 _ h => .inl (.inl (h.1 _ _ el))) ?_ ?_
    · rintro i z H5 H6 hi ⟨s5, hL⟩ ⟨rfl, ez⟩
      rw [List.getElem?_map] at ez
      rw [List.length_map] at hi
      rw [List.getElem?_eq_getElem hi] at ez
      obtain rfl : V.int F[i] = z := Option.some.inj ez
      refine ⟨rfl, ?_⟩
      unfold tYes
      dsimp only
      rw [if_pos rfl]
      refine ⟨_, rfl, _, rfl, _, _, rfl, rfl, ⟨g0, by omega⟩, _, hL, small1000 ?_, same_at s5 nD, ?_⟩
      · rw [List.length_map, List.length_map, List.length_take]
        omega
      · rw [upd_same, List.take_add_one, List.getElem?_eq_getElem hi, List.map_append, List.map_append]
        rfl
    rintro H5 ⟨s5, hL⟩
    rw [List.length_map, List.take_length] at hL
    refine ⟨r, D, fs, _, m, _, rfl, .inr (rd_same hf1 s5), hL, dg, by omega, fun r0 q1 r1 H6 s6 nr er eq1 er1 => ?_⟩
    refine ⟨r0, _, rfl, .inl (.inl er), rfl, _, _, rfl, _, _, rfl, rfl, ?_⟩
    have s16 := s1.trans (s5.trans s6)
    refine ⟨_, rfl, by show 0 ≤ sizeLine; decide, fun e ne => ?_⟩
    have s7 := same_upd (o := .tup []) ne
    have ee : (upd H6 e (.tup [])) e = some (.tup []) := upd_same
    generalize upd H6 e (.tup []) = H7 at s7 ee ⊢
    refine ⟨_, _, .tup (.inl (rd_same er1 s7)) (dp_ints _), .tup (.inl (.inl ee)) (dp_ints []), shT_intsS _, shT_intsS [], _, rfl, ?_⟩
    rw [eqvT_ints2]
    by_cases r0 : restL fs (F.map fun z => z / (g : Int)) m (c / (g : Int)) = []
    rotate_left
    · rw [decide_eq_false r0]
      rw [if_neg r0] at q
      exact iteT (q _ (s16.trans s7))
    rw [decide_eq_true r0]
    rw [if_pos r0] at q
    refine iteF ?_
    dsimp only at q
    have lq : (trimN (divL fs (F.map fun z => z / (g : Int)) m (c / (g : Int))).1).length ≤ fs.length := by
      refine Nat.le_trans (trimN_len _) ?_
      unfold divL
      rw [go_lenq, List.length_replicate]
      exact Nat.le_refl _
    have eq7 := rd_same eq1 s7
    generalize trimN (divL fs (F.map fun z => z / (g : Int)) m (c / (g : Int))).1 = T at lq eq7 q
    have fin : ∀ (b : Addr) (H8 : Hp), Same H7 H8 → Rd H8 b (.tup ((T ++ [(g : Int)]).map V.int)) → spCommon [.ref b] H8 (fun v H9 => ∃ i j, V.int (g : Nat) = .int i ∧ v = .int j ∧ (0 < j ∧ j < 1073741824) ∧ Q (.int (i / j)) H9) E0 := fun b H8 s8 hb => by
      obtain ⟨p1, p2⟩ := gcdL_pos 0 (List.mem_append_right T (List.mem_cons_self (a := (g : Int)) (l := []))) g0
      exact ⟨b, _, rfl, hb, _, _, rfl, rfl, ⟨by omega, by omega⟩, q _ ((s16.trans s7).trans s8)⟩
    refine ⟨_, rfl, _, rfl, _, rfl, by show 1 ≤ sizeLine; decide, fun u nu => ?_⟩
    have s8 := same_upd (o := .tup [V.int (g : Nat)]) nu
    have eu : (upd H7 u (.tup [V.int (g : Nat)])) u = some (.tup [V.int (g : Nat)]) := upd_same
    generalize upd H7 u (.tup [V.int (g : Nat)]) = H8 at s8 eu ⊢
    refine ⟨q1, u, _, _, rfl, rfl, .inl (rd_same eq7 s8), .inl (.inl eu), Nat.le_of_lt (small1000 (by rw [List.length_map, List.length_singleton]; omega)), fun z => ?_, fun _ z => (by cases z), fun _ _ p np => ?_⟩
    · have tn : T = [] := List.map_eq_nil_iff.mp z
      exact fin u H8 s8 (by rw [tn]; exact .inl eu)
    · exact fin p _ (s8.trans (same_upd np)) (.inl (by rw [upd_same, List.map_append]; rfl))
end
end My

namespace My
open PySem PySem.Spec PyProof.Rows L2
abbrev s_law_share : Stmt := topS 65
theorem sc_law_share : FnScope ["factors", "by", "some", "found", "top", "share", "spot", "factor", "place"] ["factors", "by"] (defScope s_law_share) := ⟨rfl, rfl, rfl, by decide +kernel, rfl, by decide +kernel, by decide +kernel⟩
/-- the quotient, or None -/
structure spShareG (vs : List V) (H : Hp) (Q : VK) (E : XK) : Prop where
  ex : ∃ (a b : Addr) (ns F : List Int) (deg : Nat) (c : Int), vs = [.ref a, .ref b] ∧ H a = some (.lst (ns.map V.int)) ∧ H b = some (.lst (F.map V.int)) ∧ Divisor F deg c ∧ ns.length ≤ 600 ∧ (Mu F (fn ns) → ∀ l H', Same H H' → Q (.ref l) H') ∧ (¬ Mu F (fn ns) → ∀ H', Same H H' → Q .non H')
section
variable {P : Program} {w : World} {K : PySem.W.Frag} {mg : Str → Option Value} {base : Heap}
theorem ok_share {f f1 : Addr} {fd fd1 : FuncData} {k : Nat} (Fu : Fun K "_law_share" "_law_share" s_law_share f fd) (T : TxtW mg) (F__law_trimmed : Fun K "_law_trimmed" "_law_trimmed" s_law_trimmed f1 fd1) (b__law_trimmed : Binds K fd1 ["factors"] []) (g__law_trimmed : mg "_law_trimmed" = some (.ref f1)) (G__law_trimmed : FnOk P w K mg base CX0 1 f1 fd1 ["factors"] (spLTrim K)) : FnOk P w K mg base CX0 (k + 2) f fd ["factors", "by"] spShareG := by
  refine Fu.ok sc_law_share (fun vs H Q E h => ?_) (fun cdv A outer s H vs Q E hr h => ?_)
  · obtain ⟨a, b, ns, F, deg, c, rfl, _⟩ := h
    rfl
  · obtain ⟨a, b, ns, F, deg, c, rfl, ha, hb, dv, few, q1, q2⟩ := h
    refine ⟨_, (pss_cons (ps_par3 (i := 2) (j := 3) (l := 4) (by rfl) sc_law_share.nd rfl rfl rfl (by decide) (by decide) (by decide) rfl rfl rfl (pa_cons (pe_callTy call_list_of (by rfl) T.n_list (by decide +kernel) (pa_cons (pv 0) pa_nil)) (pa_cons (pe_lst pa_nil) (pa_cons (pe_op op_sub (pe_callB call_len_seq (by rfl) T.n_len (by decide +kernel) (pa_cons (pv 1) pa_nil)) pe_int) pa_nil))) (by rfl))
  (pss_cons (ps_while PassesOwn.never (pt_cmpR op_gt (pe_callB call_len_seq (by rfl) T.n_len (by decide +kernel) (pa_cons (pv 2) pa_nil)) (pv 4) (nomark _))
   (pss_cons (ps_set (i := 5) sc_law_share.nd rfl (.inl rfl) (pe_op op_fdiv (pe_ix ix_list (pv 2) (pe_un un_neg pe_int) (fun _ _ => rfl)) (pe_ix ix_list (pv 1) (pv 4) (fun _ _ => rfl))))
  (pss_cons (ps_if (pt_cmpR op_ne (pe_op op_mul (pv 5) (pe_ix ix_list (pv 1) (pv 4) (fun _ _ => rfl))) (pe_ix ix_list (pv 2) (pe_un un_neg pe_int) (fun _ _ => rfl)) (nomark _))
   (pss_one (ps_ret pe_non))
   pss_nil)
  (pss_cons (ps_for PassesOwn.never rfl (pi_enum (by rfl) T.n_enumerate (pa_cons (pv 1) pa_nil)) (pg_tup rfl (pgs_cons (pg_name (i := 6) sc_law_share.nd rfl (.inl rfl)) (pgs_cons (pg_name (i := 7) sc_law_share.nd rfl (.inl rfl)) pgs_nil)))
   (pss_cons (ps_set (i := 8) sc_law_share.nd rfl (.inl rfl) (pe_op op_add (pe_op op_sub (pe_op op_sub (pe_callB call_len_seq (by rfl) T.n_len (by decide +kernel) (pa_cons (pv 2) pa_nil)) pe_int) (pv 4)) (pv 6)))
  (pss_one (ps_asg (pe_op op_sub (pe_ix ix_list (pv 2) (pv 8) (fun _ _ => rfl)) (pe_op op_mul (pv 5) (pv 7))) (pg_sub (pv 2) (pv 8) set_list)))))
  (pss_cons (ps_expr (pe_bm0 PySem.F.plainAttrs_list PySem.F.slot_list_pop PySem.F.type_list_pop mt_pop (pv 2)))
  (pss_one (ps_set (i := 3) sc_law_share.nd rfl (.inl rfl) (pe_op op_cat (pe_lst (pa_cons (pv 5) pa_nil)) (pv 3)))))))))
  (pss_one (ps_ret (pe_ifExp (pt_cmpR (op_eqD hr.units) (pe_call G__law_trimmed (hr.mono (by omega)) (by rfl) g__law_trimmed F__law_trimmed.kp b__law_trimmed .nil pass0 (pa_cons (pv 2) pa_nil)) (pe_lst pa_nil) (nomark _)) (pe_call G__law_trimmed (hr.mono (by omega)) (by rfl) g__law_trimmed F__law_trimmed.kp b__law_trimmed .nil pass0 (pa_cons (pv 3) pa_nil)) pe_non))))), ?_⟩
    clear G__law_trimmed
    have L := dv.lead
    have fw := dv.few
    have lF := L.len
    refine ⟨_, rfl, a, _, rfl, .inl (.inl (.inl ha)), fun S nS => ?_⟩
    have s1 := same_upd (o := .lst (ns.map V.int)) nS
    have eS : (upd H S (.lst (ns.map V.int))) S = some (.lst (ns.map V.int)) := upd_same
    generalize upd H S (.lst (ns.map V.int)) = H1 at s1 eS ⊢
    refine ⟨by show 0 ≤ sizeLine; decide, fun Fd nF => ?_⟩
    have nFS : Fd ≠ S := (ne_of_none eS nF).symm
    have s2 := s1.trans (same_upd (o := .lst []) nF)
    have eS2 := (same_upd (o := .lst []) nF) _ _ eS
    have eF2 : (upd H1 Fd (.lst [])) Fd = some (.lst (([] : List Int).map V.int)) := upd_same
    generalize upd H1 Fd (.lst []) = H2 at s2 eS2 eF2 ⊢
    refine ⟨_, rfl, b, _, rfl, .inl (.inl (.inl (s2 _ _ hb))), _, _, rfl, rfl, _, _, _, rfl, ?_⟩
    have ed : V.int (((F.map V.int).length : Nat) - (1 : Int)) = V.int ((deg : Nat) : Int) := by
      rw [List.length_map, L.len]
      congr 1
      omega
    dsimp only
    rw [ed]
    have nSH : H S = none := nS
    refine ⟨fun j σ H8 => ∃ (M fo : List Int) (Fd : Addr) (v5 v6 v7 v8 : Option V), σ = [some (.ref a), some (.ref b), some (.ref S), some (.ref Fd), some (.int (deg : Nat)), v5, v6, v7, v8] ∧ Fd ≠ S ∧ Same H H8 ∧ H8 S = some (.lst (M.map V.int)) ∧ H8 Fd = some (.lst (fo.map V.int)) ∧ M.length - deg = j ∧ M.length ≤ 600 ∧ fo.length + j ≤ 600 ∧ (Mu F (fn ns) ↔ Mu F (fn M)), ⟨ns.length - deg, ns, [], Fd, none, none, none, none, rfl, nFS, s2, eS2, eF2, rfl, few, by simp; omega, Iff.rfl⟩, ?_⟩
    rintro j σ H8 ⟨M, fo, Fd, v5, v6, v7, v8, rfl, nFS8, s8, eS8, eF8, lj, l6, lf, inv⟩
    refine ⟨_, rfl, S, _, rfl, .inl (.inl (.inl eS8)), _, rfl, _, _, rfl, rfl, _, rfl, ?_⟩
    rw [List.length_map]
    by_cases big : deg < M.length
    · rw [decide_eq_true (show ((deg : Nat) : Int) < (M.length : Int) by omega)]
      refine iteT ?_
      obtain ⟨i, rfl⟩ : ∃ i, j = i + 1 := ⟨j - 1, by omega⟩
      refine ⟨fun σ' H9 => ∃ (M fo : List Int) (Fd : Addr) (v5 v6 v7 v8 : Option V), σ' = [some (.ref a), some (.ref b), some (.ref S), some (.ref Fd), some (.int (deg : Nat)), v5, v6, v7, v8] ∧ Fd ≠ S ∧ Same H H9 ∧ H9 S = some (.lst (M.map V.int)) ∧ H9 Fd = some (.lst (fo.map V.int)) ∧ M.length - deg = i ∧ M.length ≤ 600 ∧ fo.length + i ≤ 600 ∧ (Mu F (fn ns) ↔ Mu F (fn M)), fun σ' H' h => ⟨i, by omega, h⟩, ?_⟩
      have hb8 := s8 _ _ hb
      have ltF : deg < F.length := by omega
      have lM : M.length - 1 = i + deg := by omega
      generalize htop : M.getD (M.length - 1) 0 = tp
      -- share
      refine ⟨_, rfl, _, rfl, S, _, -1, _, rfl, rfl, .inl (.inl eS8), get_last (by omega), _, rfl, _, rfl, b, _, ((deg : Nat) : Int), _, rfl, rfl, .inl (.inl hb8), get_nat ltF, _, _, rfl, rfl, by rw [L.top]; exact ⟨L.pos, dv.small⟩, ?_⟩
      rw [L.top, htop]
      dsimp only
      have shd : ∀ s : Int, s * c = tp → s = tp / c := fun s e => by rw [← e]; exact (Int.mul_ediv_cancel _ (by have := L.pos; omega)).symm
      have cvs : Mu F (fn M) → (tp / c) * c = tp := fun ⟨q0, m0, h0⟩ => by
        obtain ⟨p0, hp0, hp⟩ := cv_cut L m0 (N := M.length) (fun k hk => by rw [← h0]; exact getD_off hk)
        have e1 : tp = p0 i * c := by rw [← htop, lM]; exact (h0 _).trans ((hp _).trans (by rw [show M.length - deg = i + 1 by omega]; exact cv_top L i))
        rw [e1, Int.mul_ediv_cancel _ (by have := L.pos; omega)]
      generalize tp / c = sh at shd cvs ⊢
      -- share * by[top] != some[-1]
      refine ⟨_, rfl, _, rfl, _, rfl, b, _, ((deg : Nat) : Int), _, rfl, rfl, .inl (.inl hb8), get_nat ltF, _, _, rfl, rfl, ?_, ?_⟩
      · rw [L.top]
        exact .inr ⟨by have := L.pos; omega, by have := dv.small; omega⟩
      rw [L.top]
      refine ⟨_, rfl, _, rfl, S, _, -1, _, rfl, rfl, .inl (.inl eS8), get_last (by omega), rfl, _, bl_int, ?_⟩
      rw [htop]
      by_cases es : sh * c = tp
      rotate_left
      · rw [decide_eq_false es]
        exact iteT (q2 (fun y => es (cvs (inv.mp y))) _ s8)
      rw [decide_eq_true es]
      refine iteF ?_
      -- the row is taken off
      refine ⟨_, rfl, b, _, rfl, .inl (.inl hb8), ?_⟩
      refine for_it (walk_enum (xs := F.map V.int)) (fun jj σ H9 => Same H H9 ∧ ∃ (N : List Int) (v6 v7 v8 : Option V), σ = [some (.ref a), some (.ref b), some (.ref S), some (.ref Fd), some (.int (deg : Nat)), some (.int sh), v6, v7, v8] ∧ H9 S = some (.lst (N.map V.int)) ∧ H9 Fd = some (.lst (fo.map V.int)) ∧ N.length = M.length ∧ mulRow i (-sh) jj (F.drop jj) N = mulRow i (-sh) 0 F M) ⟨s8, M, _, _, _, rfl, eS8, eF8, rfl, rfl⟩ (fun jj σ H9 _ h => .inl (.inl (h.1 _ _ hb))) ?_ ?_
      · rintro jj x σ H9 H10 hj ⟨s9, N, v6, v7, v8, rfl, eS9, eF9, lN, inv2⟩ ⟨T9, x9, y9, rfl, nT9, rfl, ex9, ey9⟩
        rw [List.length_map] at hj
        have ey9 : (F.map V.int)[jj]? = some y9 := ey9
        rw [List.getElem?_map, List.getElem?_eq_getElem hj] at ey9
        obtain rfl : V.int F[jj] = y9 := Option.some.inj ey9
        obtain rfl : V.int (jj : Nat) = x9 := Option.some.inj ex9
        rw [List.drop_eq_getElem_cons hj] at inv2
        have sT := same_upd (o := .tup [V.int (jj : Nat), V.int F[jj]]) nT9
        have s10 := s9.trans sT
        have eS10 := sT _ _ eS9
        have eF10 := sT _ _ eF9
        refine ⟨T9, _, rfl, .inl (.inl upd_same), rfl, _, _, rfl, _, _, rfl, rfl, ?_⟩
        generalize upd H9 T9 (.tup [V.int (jj : Nat), V.int F[jj]]) = H10 at s10 eS10 eF10 ⊢
        have lt2 : i + jj < N.length := by omega
        have hF := dv.each F[jj] (List.getElem_mem hj)
        have ei : V.int (((N.map V.int).length : Nat) - (1 : Int) - ((deg : Nat) : Int) + ((jj : Nat) : Int)) = V.int ((i + jj : Nat) : Int) := by
          rw [List.length_map]
          congr 1
          omega
        refine ⟨_, rfl, S, _, rfl, .inl (.inl (.inl eS10)), _, _, rfl, rfl, _, rfl, _, _, rfl, rfl, _, rfl, _, _, rfl, rfl, ?_⟩
        dsimp only
        rw [ei]
        refine ⟨_, rfl, _, rfl, S, _, ((i + jj : Nat) : Int), _, rfl, rfl, .inl (.inl eS10), get_nat lt2, _, rfl, _, rfl, _, _, rfl, rfl, .inr ⟨by omega, by omega⟩, _, _, rfl, rfl, _, rfl, _, rfl, S, _, ((i + jj : Nat) : Int), i + jj, rfl, rfl, eS10, ?_, ?_⟩
        · rw [List.length_map]
          exact ix_nat lt2
        · rw [← List.map_set]
          have inv3 : mulRow i (-sh) (jj + 1) (F.drop (jj + 1)) (N.set (i + jj) (N.getD (i + jj) 0 + -sh * F[jj])) = mulRow i (-sh) 0 F M := inv2
          rw [show N.getD (i + jj) 0 + -sh * F[jj] = N.getD (i + jj) 0 - sh * F[jj] by rw [Int.neg_mul]; omega] at inv3
          refine ⟨same_at s10 nSH, _, _, _, _, rfl, upd_same, ?_, by rw [List.length_set]; exact lN, inv3⟩
          rw [upd_ne nFS8]
          exact eF10
      rintro σ H9 ⟨s9, N, v6, v7, v8, rfl, eS9, eF9, lN, inv2⟩
      rw [List.length_map, List.drop_length] at inv2
      have e : N = mulRow i (-sh) 0 F M := inv2
      have ng : ∀ k, N.getD k 0 = M.getD k 0 - sh * shF F k i := fun k => by
        rw [e, row_get i (-sh) F 0 M k (by omega), shF]
        show _ + (if i ≤ k then -sh * F.getD (k - i) 0 else 0) = _
        by_cases z : i ≤ k
        · rw [if_pos z, if_pos z, Int.neg_mul]
          omega
        · rw [if_neg z, if_neg z, Int.mul_zero]
          omega
      -- some.pop()
      have hl : (N.map V.int)[(N.map V.int).length - 1]? = some (V.int (N.getD (N.length - 1) 0)) := by
        rw [List.length_map, List.getElem?_map, List.getD_eq_getElem?_getD, List.getElem?_eq_getElem (by omega)]
        rfl
      refine ⟨_, rfl, .inl ⟨rfl, _, .inl (.inl eS9)⟩, S, _, _, rfl, rfl, eS9, hl, ?_⟩
      have s10 := same_at (o := .lst (N.map V.int).dropLast) s9 nSH
      have eS10 : (upd H9 S (.lst (N.map V.int).dropLast)) S = some (.lst (N.dropLast.map V.int)) := by
        rw [upd_same, List.map_dropLast]
      have eF10 : (upd H9 S (.lst (N.map V.int).dropLast)) Fd = some (.lst (fo.map V.int)) := by
        rw [upd_ne nFS8]
        exact eF9
      generalize upd H9 S (.lst (N.map V.int).dropLast) = H10 at s10 eS10 eF10 ⊢
      -- found
      refine ⟨_, rfl, by show 1 ≤ sizeLine; decide, fun b3 nb3 => ?_⟩
      have t3 := same_upd (o := .lst [V.int sh]) nb3
      have e3 : (upd H10 b3 (.lst [V.int sh])) b3 = some (.lst [V.int sh]) := upd_same
      refine ⟨_, rfl, b3, Fd, _, _, rfl, rfl, e3, t3 _ _ eF10, Nat.le_of_lt (small1000 (by rw [List.length_map]; show 1 + fo.length ≤ 1000; omega)), fun b4 nb4 => ?_⟩
      have t34 := t3.trans (same_upd (o := .lst ([V.int sh] ++ fo.map V.int)) nb4)
      have nb4S : b4 ≠ S := (ne_of_none (t3 _ _ eS10) nb4).symm
      refine ⟨N.dropLast, sh :: fo, b4, _, _, _, _, rfl, nb4S, s10.trans t34, t34 _ _ eS10, upd_same, ?_, ?_, ?_, inv.trans ?_⟩
      · rw [List.length_dropLast]
        omega
      · rw [List.length_dropLast]
        omega
      · rw [List.length_cons]
        omega
      · have eN : ∀ k, fn N.dropLast k = fn M k - sh * shF F k i := fun k => by
          show N.dropLast.getD k 0 = M.getD k 0 - _
          rw [List.dropLast_eq_take, List.getD_eq_getElem?_getD]
          by_cases z : k < N.length - 1
          · rw [List.getElem?_take_of_lt z, ← List.getD_eq_getElem?_getD, ng]
          · rw [List.getElem?_take_eq_none (by omega)]
            show (0 : Int) = _
            rcases Nat.lt_or_ge k M.length with g | g
            · rw [show k = M.length - 1 by omega, htop, lM, shF, if_pos (by omega), show i + deg - i = deg by omega, L.top, es, Int.sub_self]
            · rw [getD_off g, shF, if_pos (by omega), getD_off (L := F) (by omega), Int.mul_zero, Int.sub_self]
        have one : Mu F fun k => sh * shF F k i := ⟨fun j => if j = i then sh else 0, i + 1, fun k => by
          show _ = cv (fun j => if j = i then sh else 0) F i k + (if i = i then sh else 0) * shF F k i
          rw [cv_nil0 fun j hj => if_neg (by omega), if_pos rfl, Int.zero_add]⟩
        constructor
        · intro y
          exact (y.add (one.mulc (-1))).ext fun k => by rw [eN]; omega
        · intro y
          exact (y.add one).ext fun k => by rw [eN]; omega
    · rw [decide_eq_false (show ¬ ((deg : Nat) : Int) < (M.length : Int) by omega)]
      refine iteF ?_
      refine ⟨_, rfl, ⟨S, M, rfl, .inl (.inl eS8), by omega, fun l H9 s9 nl el => ?_⟩⟩
      refine ⟨by show 0 ≤ sizeLine; decide, fun o no => ?_⟩
      have so := same_upd (o := .lst []) no
      refine ⟨_, _, .lst (.inl (.inl (so _ _ el))) (dp_ints _), .lst (.inl (.inl upd_same)) .nil, sh_ints _, sh_nil, ?_⟩
      rw [eqv_nil]
      have sAll := (s8.trans s9).trans so
      by_cases z : (trimN M).map PyData.int = []
      · rw [decide_eq_true z]
        refine ⟨_, rfl, iteT ?_⟩
        have z2 : trimN M = [] := List.map_eq_nil_iff.mp z
        have my : Mu F (fn M) := Mu.zero.ext fun k => by
          show M.getD k 0 = 0
          rw [← getD_trim, z2, List.getD_nil]
        exact ⟨_, rfl, ⟨Fd, fo, rfl, .inl (.inl ((s9.trans so) _ _ eF8)), by omega, fun l2 H10 s10 _ _ => q1 (inv.mpr my) l2 H10 (sAll.trans s10)⟩⟩
      · rw [decide_eq_false z]
        refine ⟨_, rfl, iteF ?_⟩
        refine q2 (fun y => z ?_) _ sAll
        obtain ⟨q0, m0, h0⟩ := inv.mp y
        obtain ⟨p0, hp0, hp⟩ := cv_cut L m0 (N := M.length) (fun k hk => by rw [← h0]; exact getD_off hk)
        have zz : ∀ k, M.getD k 0 = 0 := fun k => (h0 k).trans ((hp k).trans (by rw [show M.length - deg = 0 by omega]; rfl))
        rw [trim_zero zz]
        rfl
end
end My

/-! ### an int on the left of an instance; in-place operators that fall back -/
namespace My
open PySem PySem.Spec PyProof.Rows L2
theorem int_add_ins (a : Int) (t : Tok) (l C dx : Addr) :
    Meets (Builtin.«int.__add__» ⟨[.int a t, .ref l], []⟩) (fun _ R s => s.heap.get? l = some (PySem.W.instObj C dx) ∧ R (.ok (.ret Value.notImplemented)) s) :=
  .of_wp fun prog w A R s h => by obtain ⟨hp, g, d, tk, os⟩ := s; obtain ⟨hl, h⟩ := h; wp_walk; exact ⟨_, rfl, h⟩
theorem int_mul_ins (a : Int) (t : Tok) (l C dx : Addr) :
    Meets (Builtin.«int.__mul__» ⟨[.int a t, .ref l], []⟩) (fun _ R s => s.heap.get? l = some (PySem.W.instObj C dx) ∧ R (.ok (.ret Value.notImplemented)) s) :=
  .of_wp fun prog w A R s h => by obtain ⟨hp, g, d, tk, os⟩ := s; obtain ⟨hl, h⟩ := h; wp_walk; exact ⟨_, rfl, h⟩
section
open PySem.W
variable {prog : Program} {w : World} {A : Around} {E : Value → Shared → Prop} {s : Shared} {K : PySem.W.Frag} {x C L f g : Addr} {h₀ : Heap} {m : Str → Option Value} {ox : Obj} {od : Option Obj}
theorem rbin_K {op : Operator} {i : Int} {t : Tok} {fo ro : Option Value} {Q : Value → Shared → Prop} (F : Fr h₀ L s.heap m) (X₀ : K.In h₀) (I : PySem.W.InstAt s.heap x ox C od) (hc : selfFirst K C = true)
    (hs : findIn K (.ref C) (PySem.dunder op.info.2) = some (some (.ref g))) (hr : findIn K (.ref C) (dunderR op.info.2) = some (some (.ref f))) (hf : isFn K (.ref f) = true)
    (h1 : findIn K (.type "int") (PySem.dunder op.info.2) = some fo) (h2 : findIn K (.type "int") (dunderR op.info.2) = some ro) (hsub : subIn K (.ref C) (.type "int") = some false)
    (hno : ∀ Q' : Option Value → Shared → Prop, Q' none s → wpAny (model prog w) A (tryMethod (.int i t) (PySem.dunder op.info.2) (.ref x)) Q' E s)
    (h : wpAny (model prog w) A (call (.ref f) [.ref x, .int i t]) (PySem.W.CmpBack Q) E s) : wpAny (model prog w) A (binaryOp op (.int i t) (.ref x)) Q E s := by
  have X := X₀.keeps F.keep
  obtain ⟨cd, rest, hcd, hm⟩ := ksp_first hc
  rcases hi : op.info with ⟨sym, nm'⟩
  rw [hi] at hs hr h1 h2 hno
  dsimp only at hs hr h1 h2 hno
  have one := ksp_try X I hr hf h
  obtain ⟨hh, g', d, tk, os⟩ := s
  have L1 : Looks (model prog w) hh (typeOf (.int i t)) (.type "int") := Looks.of_pure rfl
  have L2 : Looks (model prog w) hh (typeOf (.ref x)) (.ref C) := I.type
  have L3 : Looks (model prog w) hh (fillsNumberSlot (.type "int") nm') ((fo.isSome && !isSeqSlot fo) || (ro.isSome && !isSeqSlot ro)) := ksp_fillsT X h1 h2
  have L4 : Looks (model prog w) hh (fillsNumberSlot (.ref C) nm') true := fills_K X hcd hm hs
  have L5 : Looks (model prog w) hh (isSubtype (.ref C) (.type "int")) false := looks_subIn X hsub
  have L6 : Looks (model prog w) hh (numberSlotInPython (.type "int") nm') false := Looks.of_pure rfl
  generalize ((fo.isSome && !isSeqSlot fo) || (ro.isSome && !isSeqSlot ro)) = left at L3
  have hne : (Value.type "int" == Value.ref C) = false := Bool.eq_false_iff.mpr fun q => by cases beq_iff_eq.mp q
  simp only [binaryOp, hi]
  refine wpAny_holding (wpAny_bind ?_)
  unfold binaryOp1
  refine wpAny_bind (L1.at (wpAny_bind (L2.at (wpAny_bind (L3.at ?_)))))
  simp only [hne, Bool.false_eq_true, if_false]
  cases left with
  | false =>
    ksp_lk
    refine wpAny_mono one (fun r s' hr' => ?_) fun _ _ e => e
    obtain ⟨v, rfl, hq⟩ := hr'
    ksp_lk
    exact hq
  | true =>
    ksp_lk
    refine hno _ ?_
    ksp_lk
    refine wpAny_mono one (fun r s' hr' => ?_) fun _ _ e => e
    obtain ⟨v, rfl, hq⟩ := hr'
    ksp_lk
    exact hq
theorem bin1_K {nm : String} {b : Value} {Q : Option Value → Shared → Prop} (F : Fr h₀ L s.heap m) (X₀ : K.In h₀) (I : PySem.W.InstAt s.heap x ox C od) (hb : Looks (model prog w) s.heap (typeOf b) (.ref C)) (hc : selfFirst K C = true)
    (hs : findIn K (.ref C) (PySem.dunder nm) = some (some (.ref f))) (hf : isFn K (.ref f) = true)
    (h : wpAny (model prog w) A (call (.ref f) [.ref x, b]) (PySem.W.CmpBack fun v s' => Q (some v) s') E s) : wpAny (model prog w) A (binaryOp1 nm (.ref x) b) Q E s := by
  have X := X₀.keeps F.keep
  obtain ⟨cd, rest, hcd, hm⟩ := ksp_first hc
  have one := ksp_try X I hs hf h
  unfold binaryOp1
  refine wpAny_bind (I.type.here (wpAny_bind (hb.here (wpAny_bind ((fills_K X hcd hm hs).here ?_)))))
  simp only [beq_self_eq_true, if_true]
  refine wpAny_bind (wpAny_pure ?_)
  simp only [Bool.and_false, Bool.false_eq_true, if_false, Bool.false_and]
  refine wpAny_bind (wpAny_pure ?_)
  simp only [Bool.false_eq_true, if_false]
  refine wpAny_bind (wpAny_mono one (fun r s' hr' => ?_) fun _ _ e => e)
  obtain ⟨v, rfl, hq⟩ := hr'
  exact wpAny_pure hq
theorem bin1_I {nm : String} {i : Int} {t : Tok} {fo ro rc : Option Value} {Q : Option Value → Shared → Prop} (F : Fr h₀ L s.heap m) (X₀ : K.In h₀) (I : PySem.W.InstAt s.heap x ox C od) (hc : selfFirst K C = true)
    (hs : findIn K (.ref C) (PySem.dunder nm) = some (some (.ref f))) (hf : isFn K (.ref f) = true) (hr : findIn K (.ref C) (dunderR nm) = some rc) (hp : rc = none ∨ ∃ g : Addr, rc = some (.ref g))
    (h1 : findIn K (.type "int") (PySem.dunder nm) = some fo) (h2 : findIn K (.type "int") (dunderR nm) = some ro) (hsub : subIn K (.type "int") (.ref C) = some false)
    (h : wpAny (model prog w) A (call (.ref f) [.ref x, .int i t]) (PySem.W.CmpBack fun v s' => Q (some v) s') E s) : wpAny (model prog w) A (binaryOp1 nm (.ref x) (.int i t)) Q E s := by
  have X := X₀.keeps F.keep
  obtain ⟨cd, rest, hcd, hm⟩ := ksp_first hc
  have one := ksp_try X I hs hf h
  obtain ⟨hh, g', d, tk, os⟩ := s
  have L1 : Looks (model prog w) hh (typeOf (.ref x)) (.ref C) := I.type
  have L2 : Looks (model prog w) hh (typeOf (.int i t)) (.type "int") := Looks.of_pure rfl
  have L3 : Looks (model prog w) hh (fillsNumberSlot (.ref C) nm) true := fills_K X hcd hm hs
  have L4 : Looks (model prog w) hh (fillsNumberSlot (.type "int") nm) ((fo.isSome && !isSeqSlot fo) || (ro.isSome && !isSeqSlot ro)) := ksp_fillsT X h1 h2
  have L5 : Looks (model prog w) hh (isSubtype (.type "int") (.ref C)) false := looks_subIn X hsub
  have L6 : Looks (model prog w) hh (numberSlotInPython (.ref C) nm) true := ksp_inPy X hs hr hp
  have L7 : Looks (model prog w) hh (numberSlotInPython (.type "int") nm) false := Looks.of_pure rfl
  have L8 : Looks (model prog w) hh (typeLookup (.type "int") (dunderR nm)) ro := looks_findIn X h2
  generalize ((fo.isSome && !isSeqSlot fo) || (ro.isSome && !isSeqSlot ro)) = right at L4
  have hne : (Value.ref C == Value.type "int") = false := Bool.eq_false_iff.mpr fun q => by cases beq_iff_eq.mp q
  unfold binaryOp1
  refine wpAny_bind (L1.at (wpAny_bind (L2.at (wpAny_bind (L3.at ?_)))))
  simp only [hne, Bool.false_eq_true, if_false]
  cases right with
  | false =>
    ksp_lk
    refine wpAny_mono one (fun r s' hr' => ?_) fun _ _ e => e
    obtain ⟨v, rfl, hq⟩ := hr'
    ksp_lk
    exact hq
  | true =>
    ksp_lk
    refine wpAny_mono one (fun r s' hr' => ?_) fun _ _ e => e
    obtain ⟨v, rfl, hq⟩ := hr'
    ksp_lk
    exact hq
theorem noInpl_K {M : Model} {h : Heap} {nm : String} {cd : ClassData} {add : Bool} (X : K.In h) (hc : clsIn K C = some cd) (hm : cd.mro = [.ref C, .type "object"]) (h1 : findIn K (.ref C) (dunderI nm) = some none) (h2 : findIn K (.type "object") (dunderI nm) = some none) : Looks M h (fillsInplaceSlot (.ref C) nm add) false := by
  intro A Q E s k q
  have Lm : Looks M h (mroOf (.ref C)) cd.mro := (looks_clsIn X hc).andThen (f := fun cd => pure cd.mro) .now
  have Lm' := Lm.keeps k
  obtain ⟨hh, g, d, tk, os⟩ := s
  have X' : K.In hh := X.keeps k
  have L1 : Looks M hh (typeLookup (.ref C) (dunderI nm)) none := looks_findIn X' h1
  have L2 : Looks M hh (typeLookup (.type "object") (dunderI nm)) none := looks_findIn X' h2
  unfold fillsInplaceSlot
  refine wpAny_bind (Lm'.at ?_)
  rw [hm, List.anyM_cons]
  refine wpAny_bind ?_
  repeat lk
  exact q
theorem inpl_K {op : Operator} {cd : ClassData} {b : Value} {Q : Value → Shared → Prop} (F : Fr h₀ L s.heap m) (X₀ : K.In h₀) (I : PySem.W.InstAt s.heap x ox C od) (hc : clsIn K C = some cd) (hm : cd.mro = [.ref C, .type "object"]) (h1 : findIn K (.ref C) (dunderI op.info.2) = some none) (h2 : findIn K (.type "object") (dunderI op.info.2) = some none)
    (h : wpAny (model prog w) A (binaryOp1 op.info.2 (.ref x) b) (fun r s' => ∃ v, r = some v ∧ Q v s') E s) : wpAny (model prog w) A (inplaceOp op (.ref x) b) Q E s := by
  have X := X₀.keeps F.keep
  unfold inplaceOp
  refine wpAny_holding ?_
  refine wpAny_bind (I.type.here (wpAny_bind ((noInpl_K X hc hm h1 h2).here ?_)))
  simp only [Bool.false_eq_true, if_false]
  refine wpAny_bind (wpAny_mono h (fun r s' hr => ?_) fun _ _ e => e)
  obtain ⟨v, rfl, hq⟩ := hr
  exact wpAny_pure hq
end
end My

namespace My
open PySem PySem.Spec PyProof.Rows L2
section
variable {prog : Program} {w : World} {A : Around} {E : Value → Shared → Prop} {s : Shared}
theorem no_add {i : Int} {t : Tok} {x C dx : Addr} (hx : s.heap.get? x = some (PySem.W.instObj C dx)) (Q' : Option Value → Shared → Prop) (q : Q' none s) : wpAny (model prog w) A (tryMethod (.int i t) (PySem.dunder "add") (.ref x)) Q' E s := by
  have hT : s.TypeIs (.int i t) "int" := rfl
  refine wpAny_tryMethod_declines hT F.slot_int_add ?_
  refine call_meets F.slot_int_add hT F.entry_int_add (F.args_int_add_2 _ _) (int_add_ins i t x C dx) ?_
  exact ⟨hx, rfl, q⟩
theorem no_mul {i : Int} {t : Tok} {x C dx : Addr} (hx : s.heap.get? x = some (PySem.W.instObj C dx)) (Q' : Option Value → Shared → Prop) (q : Q' none s) : wpAny (model prog w) A (tryMethod (.int i t) (PySem.dunder "mul") (.ref x)) Q' E s := by
  have hT : s.TypeIs (.int i t) "int" := rfl
  refine wpAny_tryMethod_declines hT F.slot_int_mul ?_
  refine call_meets F.slot_int_mul hT F.entry_int_mul (F.args_int_mul_2 _ _) (int_mul_ins i t x C dx) ?_
  exact ⟨hx, rfl, q⟩
end
section
variable {X : Cx} {CX : CXT} {k : Nat} {C g : Addr} {sp : Sp} {E : XK}
/-- what an int on the left asks of the class -/
structure BinR (K : PySem.W.Frag) (C : Addr) (m rm : Str) : Prop where
  own : ∃ g0 : Addr, PySem.W.findIn K (.ref C) m = some (some (.ref g0))
  t1 : ∃ fo, PySem.W.findIn K (.type "int") m = some fo
  t2 : ∃ ro, PySem.W.findIn K (.type "int") rm = some ro
  sub : PySem.W.subIn K (.ref C) (.type "int") = some false
/-- i op o by o's own reflected method -/
def rBinR (C : Addr) (sp : Sp) (E : XK) : R2 := fun x y H Q => ∃ a dx fs i, x = .int i ∧ y = .ref a ∧ H a = some (.ins C dx fs) ∧ sp [.ref a, .int i] H Q E
theorem op_binR {op : Operator} {m rm : Str} (hm : PySem.dunder op.info.2 = m) (hrm : PySem.dunderR op.info.2 = rm) (hno : ∀ {A : Around} {E' : Value → Shared → Prop} {s : Shared} {i : Int} {t : Tok} {x C dx : Addr}, s.heap.get? x = some (PySem.W.instObj C dx) → ∀ (Q' : Option Value → Shared → Prop), Q' none s → wpAny (model X.prog X.w) A (tryMethod (.int i t) (PySem.dunder op.info.2) (.ref x)) Q' E' s)
    (first : PySem.W.selfFirst X.K C = true) (B : BinR X.K C m rm) (M : OwnM X.K C rm g) (F : FnR X.prog X.w X.K X.mg X.base CX k g sp) (hr : Room k X.A) (hx : Passes CX X E) : OpR X (binaryOp op) (rBinR C sp E) := by
  intro pins s σ H x y v u Q I rx ry h
  obtain ⟨a, dx, fs, i, rfl, rfl, ea, q⟩ := h
  cases (show u = Value.ref a from ry)
  obtain ⟨t, rfl⟩ := (show ∃ t, v = Value.int i t from rx)
  obtain ⟨mA, O, _⟩ := ins_get I.hok ea
  obtain ⟨od, J, _⟩ := O.look
  obtain ⟨m', hF⟩ := I.fr
  obtain ⟨g0, h0⟩ := B.own
  obtain ⟨fo, h1⟩ := B.t1
  obtain ⟨ro, h2⟩ := B.t2
  refine rbin_K hF I.ok.mod.kin J first (by rw [hm]; exact h0) (by rw [hrm]; exact M.at_) M.fn (by rw [hm]; exact h1) (by rw [hrm]; exact h2) B.sub (fun Q' q' => hno O.obj Q' q') (wpAny_mono (wpAny_call (run_fnR (us := [.ref a, .int i t]) (vs := [.ref a, .int i]) F hr hx I (.cons rfl (.cons ⟨t, rfl⟩ .nil)) q)) (fun z s' hz => ?_) fun _ _ z => z)
  obtain ⟨z', H', I', rz, qz⟩ := hz
  exact SlX.cmpback rz ⟨z', H', I', rz, qz⟩
/-- a class with no in-place method of this name -/
structure NoI (K : PySem.W.Frag) (C : Addr) (im : Str) : Prop where
  m : ∃ cd, PySem.W.clsIn K C = some cd ∧ cd.mro = [.ref C, .type "object"]
  c : PySem.W.findIn K (.ref C) im = some none
  o : PySem.W.findIn K (.type "object") im = some none
theorem in_binO {op : Operator} {m im : Str} (hm : PySem.dunder op.info.2 = m) (him : PySem.dunderI op.info.2 = im) (N : NoI X.K C im) (first : PySem.W.selfFirst X.K C = true) (M : OwnM X.K C m g) (F : FnR X.prog X.w X.K X.mg X.base CX k g sp) (hr : Room k X.A) (hx : Passes CX X E) : InOp X op (rBinO C sp E) := by
  intro pins s σ H x y v u Q I rx ry h
  obtain ⟨a, dx, fs, b, dy, gs, rfl, ea, rfl, eb, q⟩ := h
  cases (show v = Value.ref a from rx)
  cases (show u = Value.ref b from ry)
  obtain ⟨mA, O, _⟩ := ins_get I.hok ea
  obtain ⟨od, J, _⟩ := O.look
  obtain ⟨mB, O2, _⟩ := ins_get I.hok eb
  obtain ⟨od2, J2, _⟩ := O2.look
  obtain ⟨m', hF⟩ := I.fr
  obtain ⟨cd, hc, hmr⟩ := N.m
  refine inpl_K hF I.ok.mod.kin J hc hmr (by rw [him]; exact N.c) (by rw [him]; exact N.o) ?_
  refine bin1_K hF I.ok.mod.kin J J2.type first (by rw [hm]; exact M.at_) M.fn (wpAny_mono (wpAny_call (run_fnR (us := [.ref a, .ref b]) (vs := [.ref a, .ref b]) F hr hx I (.cons rfl (.cons rfl .nil)) q)) (fun z s' hz => ?_) fun _ _ z => z)
  obtain ⟨z', H', I', rz, qz⟩ := hz
  exact SlX.cmpback rz ⟨_, rfl, z', H', I', rz, qz⟩
theorem in_binI {op : Operator} {m rm im : Str} (hm : PySem.dunder op.info.2 = m) (hrm : PySem.dunderR op.info.2 = rm) (him : PySem.dunderI op.info.2 = im) (N : NoI X.K C im) (first : PySem.W.selfFirst X.K C = true) (B : BinI X.K C m rm "int") (M : OwnM X.K C m g) (F : FnR X.prog X.w X.K X.mg X.base CX k g sp) (hr : Room k X.A) (hx : Passes CX X E) : InOp X op (rBinI C sp E) := by
  intro pins s σ H x y v u Q I rx ry h
  obtain ⟨a, dx, fs, i, rfl, ea, rfl, q⟩ := h
  cases (show v = Value.ref a from rx)
  obtain ⟨t, rfl⟩ := (show ∃ t, u = Value.int i t from ry)
  obtain ⟨mA, O, _⟩ := ins_get I.hok ea
  obtain ⟨od, J, _⟩ := O.look
  obtain ⟨m', hF⟩ := I.fr
  obtain ⟨rc, hrc, hp⟩ := B.r
  obtain ⟨fo, h1⟩ := B.t1
  obtain ⟨ro, h2⟩ := B.t2
  obtain ⟨cd, hc, hmr⟩ := N.m
  refine inpl_K hF I.ok.mod.kin J hc hmr (by rw [him]; exact N.c) (by rw [him]; exact N.o) ?_
  refine bin1_I hF I.ok.mod.kin J first (by rw [hm]; exact M.at_) M.fn (by rw [hrm]; exact hrc) hp (by rw [hm]; exact h1) (by rw [hrm]; exact h2) B.sub (wpAny_mono (wpAny_call (run_fnR (us := [.ref a, .int i t]) (vs := [.ref a, .int i]) F hr hx I (.cons rfl (.cons ⟨t, rfl⟩ .nil)) q)) (fun z s' hz => ?_) fun _ _ z => z)
  obtain ⟨z', H', I', rz, qz⟩ := hz
  exact SlX.cmpback rz ⟨_, rfl, z', H', I', rz, qz⟩
end
end My

/-! ### operators by own methods that may raise, what is wished of the error speaks of the slots -/
namespace My
open PySem PySem.Spec PyProof.Rows L2
section
variable {X : Cx} {CX : CXT} {k : Nat} {C g : Addr} {sp : Sp} {E : L2.St → XK} {σ : L2.St}
theorem run_fnRS {f : Addr} {pins : List (Addr × Obj)} {s : Shared} {H : Hp} {E : XK} {Q : VK} {us : List Value} {vs : List V} (F : FnR X.prog X.w X.K X.mg X.base CX k f sp) (hr : Room k X.A) (hx : PassesAt CX X σ E) (I : Inv X pins σ H s) (r : Vals vs us) (h : sp vs H Q E) :
    codeAny (model X.prog X.w) X.A (.call (.ref f) ⟨us, []⟩) (fun r s' => match r with | .ok (.ret v) => EP X pins σ Q v s' | .ok _ => False | .error e => X.xe e s') s := by
  refine codeAny_mono (F X.A X.stack s H us vs Q E hr I.env0 r h) fun r s' hq => ?_
  cases r with
  | error e => exact hx pins H s e s' I hq
  | ok fl =>
    cases fl with
    | ret u => exact I.after hq
    | next => exact False.elim hq
    | brk => exact False.elim hq
    | cont => exact False.elim hq
/-- a two-place operation at the slots σ -/
def OpRS (X : Cx) (σ : L2.St) (f : Value → Value → Sem Value) (r : R2) : Prop :=
  ∀ (pins : List (Addr × Obj)) (s : Shared) (H : Hp) (x y : V) (v u : Value) (Q : VK), Inv X pins σ H s → RelV x v → RelV y u → r x y H Q →
    wpAny (model X.prog X.w) X.A (f v u) (EP X pins σ Q) X.xe s
theorem OpR.at {f : Value → Value → Sem Value} {r : R2} (h : OpR X f r) (σ : L2.St) : OpRS X σ f r := fun pins s H x y v u Q I rx ry q => h pins s σ H x y v u Q I rx ry q
theorem OpRS.or {f : Value → Value → Sem Value} {r r' : R2} (h : OpRS X σ f r) (h' : OpRS X σ f r') : OpRS X σ f (fun x y H Q => r x y H Q ∨ r' x y H Q) := fun pins s H x y v u Q I rx ry q =>
  q.elim (h pins s H x y v u Q I rx ry) (h' pins s H x y v u Q I rx ry)
def tOpS (r : L2.St → R2) (ta tb : TE) : TE := fun σ H Q => ta σ H fun x H1 => tb σ H1 fun y H2 => r σ x y H2 Q
theorem pe_opS {op : Operator} {r : L2.St → R2} {a b : Expr} {ta tb : TE} {pos : Pos} (ho : ∀ σ, OpRS X σ (binaryOp op) (r σ)) (ha : PE X a ta) (hb : PE X b tb) : PE X (.BinOp a op b pos) (tOpS r ta tb) := by
  refine ⟨fun pins s σ H Q I h => ?_⟩
  exact wpAny_BinOp (binT ha hb I h fun v u s2 x y H2 I2 rx ry q => ho σ pins s2 H2 x y v u Q I2 rx ry q)
theorem op_binOS {op : Operator} {m : Str} (hm : PySem.dunder op.info.2 = m) (first : PySem.W.selfFirst X.K C = true) (M : OwnM X.K C m g) (F : FnR X.prog X.w X.K X.mg X.base CX k g sp) (hr : Room k X.A) (hx : PassesAt CX X σ (E σ)) : OpRS X σ (binaryOp op) (rBinO C sp (E σ)) := by
  intro pins s H x y v u Q I rx ry h
  obtain ⟨a, dx, fs, b, dy, gs, rfl, ea, rfl, eb, q⟩ := h
  cases (show v = Value.ref a from rx)
  cases (show u = Value.ref b from ry)
  obtain ⟨mA, O, _⟩ := ins_get I.hok ea
  obtain ⟨od, J, _⟩ := O.look
  obtain ⟨mB, O2, _⟩ := ins_get I.hok eb
  obtain ⟨od2, J2, _⟩ := O2.look
  obtain ⟨m', hF⟩ := I.fr
  refine PySem.W.binop_K hF I.ok.mod.kin J J2.type first (by rw [hm]; exact M.at_) M.fn (wpAny_mono (wpAny_call (run_fnRS (us := [.ref a, .ref b]) (vs := [.ref a, .ref b]) F hr hx I (.cons rfl (.cons rfl .nil)) q)) (fun z s' hz => ?_) fun _ _ z => z)
  obtain ⟨z', H', I', rz, qz⟩ := hz
  exact SlX.cmpback rz ⟨z', H', I', rz, qz⟩
theorem op_binIS {op : Operator} {m rm : Str} (hm : PySem.dunder op.info.2 = m) (hrm : PySem.dunderR op.info.2 = rm) (first : PySem.W.selfFirst X.K C = true) (B : BinI X.K C m rm "int") (M : OwnM X.K C m g) (F : FnR X.prog X.w X.K X.mg X.base CX k g sp) (hr : Room k X.A) (hx : PassesAt CX X σ (E σ)) :
    OpRS X σ (binaryOp op) (rBinI C sp (E σ)) := by
  intro pins s H x y v u Q I rx ry h
  obtain ⟨a, dx, fs, i, rfl, ea, rfl, q⟩ := h
  cases (show v = Value.ref a from rx)
  obtain ⟨t, rfl⟩ := (show ∃ t, u = Value.int i t from ry)
  obtain ⟨mA, O, _⟩ := ins_get I.hok ea
  obtain ⟨od, J, _⟩ := O.look
  obtain ⟨m', hF⟩ := I.fr
  obtain ⟨rc, hrc, hp⟩ := B.r
  obtain ⟨fo, h1⟩ := B.t1
  obtain ⟨ro, h2⟩ := B.t2
  refine PySem.W.ksp_binT hF I.ok.mod.kin J (T := "int") (by rfl) first (by rw [hm]; exact M.at_) M.fn (by rw [hrm]; exact hrc) hp (by rw [hm]; exact h1) (by rw [hrm]; exact h2) B.sub (wpAny_mono (wpAny_call (run_fnRS (us := [.ref a, .int i t]) (vs := [.ref a, .int i]) F hr hx I (.cons rfl (.cons ⟨t, rfl⟩ .nil)) q)) (fun z s' hz => ?_) fun _ _ z => z)
  obtain ⟨z', H', I', rz, qz⟩ := hz
  exact SlX.cmpback rz ⟨z', H', I', rz, qz⟩
theorem op_binRS {op : Operator} {m rm : Str} (hm : PySem.dunder op.info.2 = m) (hrm : PySem.dunderR op.info.2 = rm) (hno : ∀ {A : Around} {E' : Value → Shared → Prop} {s : Shared} {i : Int} {t : Tok} {x C dx : Addr}, s.heap.get? x = some (PySem.W.instObj C dx) → ∀ (Q' : Option Value → Shared → Prop), Q' none s → wpAny (model X.prog X.w) A (tryMethod (.int i t) (PySem.dunder op.info.2) (.ref x)) Q' E' s)
    (first : PySem.W.selfFirst X.K C = true) (B : BinR X.K C m rm) (M : OwnM X.K C rm g) (F : FnR X.prog X.w X.K X.mg X.base CX k g sp) (hr : Room k X.A) (hx : PassesAt CX X σ (E σ)) : OpRS X σ (binaryOp op) (rBinR C sp (E σ)) := by
  intro pins s H x y v u Q I rx ry h
  obtain ⟨a, dx, fs, i, rfl, rfl, ea, q⟩ := h
  cases (show u = Value.ref a from ry)
  obtain ⟨t, rfl⟩ := (show ∃ t, v = Value.int i t from rx)
  obtain ⟨mA, O, _⟩ := ins_get I.hok ea
  obtain ⟨od, J, _⟩ := O.look
  obtain ⟨m', hF⟩ := I.fr
  obtain ⟨g0, h0⟩ := B.own
  obtain ⟨fo, h1⟩ := B.t1
  obtain ⟨ro, h2⟩ := B.t2
  refine rbin_K hF I.ok.mod.kin J first (by rw [hm]; exact h0) (by rw [hrm]; exact M.at_) M.fn (by rw [hm]; exact h1) (by rw [hrm]; exact h2) B.sub (fun Q' q' => hno O.obj Q' q') (wpAny_mono (wpAny_call (run_fnRS (us := [.ref a, .int i t]) (vs := [.ref a, .int i]) F hr hx I (.cons rfl (.cons ⟨t, rfl⟩ .nil)) q)) (fun z s' hz => ?_) fun _ _ z => z)
  obtain ⟨z', H', I', rz, qz⟩ := hz
  exact SlX.cmpback rz ⟨z', H', I', rz, qz⟩
end
end My

namespace My
open PySem PySem.Spec PyProof.Rows L2
open Kn (KindAt Right Best byL by_divisor right_best)
abbrev s_is_from_zero : Stmt := topS 46
theorem sc_is_from_zero : FnScope ["thing"] ["thing"] (defScope s_is_from_zero) := ⟨rfl, rfl, rfl, by decide +kernel, rfl, by decide +kernel, by decide +kernel⟩
abbrev s_factors_beside_layouts : Stmt := topS 47
theorem sc_factors_beside_layouts : FnScope ["thing"] ["thing"] (defScope s_factors_beside_layouts) := ⟨rfl, rfl, rfl, by decide +kernel, rfl, by decide +kernel, by decide +kernel⟩
abbrev s_Layoutmul : Stmt := inClass (topS 50) 8
theorem sc_Layoutmul : FnScope ["self", "other", "factors"] ["self", "other"] (defScope s_Layoutmul) := ⟨rfl, rfl, rfl, by decide +kernel, rfl, by decide +kernel, by decide +kernel⟩
abbrev s_Layoutrmul : Stmt := inClass (topS 50) 9
theorem sc_Layoutrmul : FnScope ["self", "other"] ["self", "other"] (defScope s_Layoutrmul) := ⟨rfl, rfl, rfl, by decide +kernel, rfl, by decide +kernel, by decide +kernel⟩
structure spFromZero (vs : List V) (H : Hp) (Q : VK) (E : XK) : Prop where
  ex : ∃ i : Int, vs = [.int i] ∧ Q (.bl (decide (0 ≤ i))) H
structure spBeside (C : Addr) (vs : List V) (H : Hp) (Q : VK) (E : XK) : Prop where
  ex : ∃ x, vs = [x] ∧ ((∃ a ns, x = .ref a ∧ LayAt C H a ns ∧ ∀ r, Rd H r (.tup (ns.map V.int)) → Q (.ref r) H) ∨ (∃ i : Int, x = .int i ∧ 0 ≤ i ∧ ∀ r H', Same H H' → Rd H' r (.tup [V.int i]) → Q (.ref r) H'))
/-- what may stand beside a layout in a sum: a layout, an int -/
def BesideAt (C : Addr) (H : Hp) (y : V) (ms : List Int) : Prop := (∃ b, y = .ref b ∧ LayAt C H b ms) ∨ (∃ i : Int, y = .int i ∧ 0 ≤ i ∧ ms = [i])
theorem BesideAt.pos {C : Addr} {H : Hp} {y : V} {ms : List Int} (h : BesideAt C H y ms) : (∀ n ∈ ms, 0 ≤ n) ∧ ms.length ≤ 41 := by
  rcases h with ⟨b, _, _, _, _, _, h3, h4⟩ | ⟨i, _, h0, rfl⟩
  · exact ⟨h4, h3⟩
  · exact ⟨fun n hn => by rw [List.mem_singleton.mp hn]; exact h0, by simp⟩
theorem BesideAt.same {C : Addr} {H H' : Hp} {y : V} {ms : List Int} (h : BesideAt C H y ms) (s : Same H H') : BesideAt C H' y ms := by
  rcases h with ⟨b, e, l⟩ | h
  · exact .inl ⟨b, e, l.same s⟩
  · exact .inr h
/-- a layout of these factors, or TooMany -/
def LayTo (d : LayD) (H : Hp) (ns : List Int) (Q : VK) (E : XK) : Prop :=
  (41 < (trimN ns).length → ∀ H' e, Same H H' → H' e = some (.xd [("limit", .int 40)]) → E (.ref d.too.C) (some e) H') ∧ ((trimN ns).length ≤ 41 → ∀ x H', Same H H' → H x = none → LayAt d.lay H' x (trimN ns) → Q (.ref x) H')
structure spMulO (d : LayD) (vs : List V) (H : Hp) (Q : VK) (E : XK) : Prop where
  ex : ∃ a ns y ms, vs = [.ref a, y] ∧ LayAt d.lay H a ns ∧ BesideAt d.lay H y ms ∧ Big ns ∧ Big ms ∧ LayTo d H (mulL ns ms) Q E
/-- C(r), r a tuple of factors, as the class's __init__ keeps it -/
theorem lay_to {K : PySem.W.Frag} {d : LayD} {H H2 : Hp} {r : Addr} {ns : List Int} {Q : VK} {E : XK} (s : Same H H2) (er : IntsAt H2 r ns) (few : ns.length ≤ 1000) (pos : ∀ n ∈ ns, 0 ≤ n) (h : LayTo d H ns Q E) :
    ∀ x dx, H2 x = none → H2 dx = none → dx ≠ x → spLay K d [.ref x, .ref r] (upd (upd H2 dx (.own x)) x (.ins d.lay dx [])) (fun v H3 => v = .non ∧ Q (.ref x) H3) E := by
  intro x dx nx ndx dxx
  have s0 : Same H2 (upd (upd H2 dx (.own x)) x (.ins d.lay dx [])) := fun b o e => by
    rw [upd_ne (ne_of_none e nx), upd_ne (ne_of_none e ndx)]
    exact e
  have keep : ∀ H', Kp x (upd (upd H2 dx (.own x)) x (.ins d.lay dx [])) H' → Same H H' := fun H' k b o e => k b o (s0 b o (s b o e)) (ne_of_none (s b o e) nx)
  have go : ∀ dd : PyData, Da (upd (upd H2 dx (.own x)) x (.ins d.lay dx [])) (.ref r) dd → intsD dd = ns → okF dd = true → (itemsD dd).length ≤ 1000 → spLay K d [.ref x, .ref r] (upd (upd H2 dx (.own x)) x (.ins d.lay dx [])) (fun v H3 => v = .non ∧ Q (.ref x) H3) E := by
    intro dd hd i ok fw
    refine ⟨⟨x, dx, .ref r, rfl, upd_same, .inl ⟨dd, hd, fw, fun z => (by rw [ok] at z; cases z), fun _ big H' e k ee => ?_, fun _ le H' r' k h1 h2 => ?_⟩⟩⟩
    · rw [i] at big
      exact h.1 big H' e (keep H' k) ee
    · rw [i] at le h1 h2
      exact ⟨rfl, h.2 le x H' (keep H' k) (s.free nx) ⟨dx, r', h1, h2, le, fun n hn => pos n (List.mem_of_mem_take hn)⟩⟩
  rcases er with er | er
  · exact go (.list (ns.map PyData.int)) (.lst (s0 _ _ er) (da_ints ns)) (ints_map ns) (by unfold okF; rw [show itemsD (.list (ns.map PyData.int)) = ns.map PyData.int from rfl, fac_map pos]; rfl) (by show (ns.map PyData.int).length ≤ 1000; rw [List.length_map]; exact few)
  · exact go (.tuple (ns.map PyData.int)) (.tup (rd_same er s0) (da_ints ns)) (ints_map ns) (by unfold okF; rw [show itemsD (.tuple (ns.map PyData.int)) = ns.map PyData.int from rfl, fac_map pos]; rfl) (by show (ns.map PyData.int).length ≤ 1000; rw [List.length_map]; exact few)
structure spRmulO (d : LayD) (vs : List V) (H : Hp) (Q : VK) (E : XK) : Prop where
  ex : ∃ a ns i, vs = [.ref a, .int i] ∧ LayAt d.lay H a ns ∧ 0 ≤ i ∧ Big ns ∧ Big [i] ∧ LayTo d H (mulL ns [i]) Q E
section
variable {P : Program} {w : World} {K : PySem.W.Frag} {mg : Str → Option Value} {base : Heap}
theorem ok_is_from_zero {f f1 : Addr} {fd fd1 : FuncData} {k : Nat} (F : Fun K "is_from_zero" "is_from_zero" s_is_from_zero f fd) (F_is_integer : Fun K "is_integer" "is_integer" s_is_integer f1 fd1) (b_is_integer : Binds K fd1 ["thing"] []) (g_is_integer : mg "is_integer" = some (.ref f1)) (G_is_integer : FnOk P w K mg base CX0 1 f1 fd1 ["thing"] spIsInt) :
    FnOk P w K mg base CX0 (k + 2) f fd ["thing"] spFromZero := by
  refine F.ok sc_is_from_zero (fun vs H Q E h => ?_) (fun cdv A outer s H vs Q E hr h => ?_)
  · obtain ⟨i, rfl, _⟩ := h
    rfl
  · obtain ⟨i, rfl, q⟩ := h
    refine ⟨_, (pss_one (ps_ret (pe_and (pe_call G_is_integer (hr.mono (by omega)) (by rfl) g_is_integer F_is_integer.kp b_is_integer .nil pass0 (pa_cons (pv 0) pa_nil)) (pe_one (pe_cmpR op_ge (pv 0) pe_int (nomark _)))))), ?_⟩
    clear G_is_integer
    refine ⟨_, rfl, ⟨_, .int i, rfl, .int i, true, rfl, ?_⟩⟩
    refine iteT ?_
    exact ⟨_, rfl, _, _, rfl, rfl, q⟩
theorem ok_factors_beside {d : LayD} {mc : Value} {f f1 : Addr} {fd fd1 : FuncData} {k : Nat} (F : Fun K "factors_beside" "factors_beside" s_factors_beside_layouts f fd) (T : TxtL mg) (D : LayF P K mg d) (LG : LayG K d.lay mc) (F_is_from_zero : Fun K "is_from_zero" "is_from_zero" s_is_from_zero f1 fd1) (b_is_from_zero : Binds K fd1 ["thing"] []) (g_is_from_zero : mg "is_from_zero" = some (.ref f1))
    (G_is_from_zero : FnOk P w K mg base CX0 2 f1 fd1 ["thing"] spFromZero) : FnOk P w K mg base CX0 (k + 3) f fd ["thing"] (spBeside d.lay) := by
  refine F.ok sc_factors_beside_layouts (fun vs H Q E h => ?_) (fun cdv A outer s H vs Q E hr h => ?_)
  · obtain ⟨x, rfl, _⟩ := h
    rfl
  · obtain ⟨x, rfl, h⟩ := h
    refine ⟨_, (pss_cons (ps_if (pt_val (pe_callB call_isi (by rfl) T.n_isinstance (by decide +kernel) (pa_cons (pv 0) (pa_cons (pe_glob (v := .ref d.lay) (by rfl) D.gLay rfl) pa_nil))))
   (pss_one (ps_ret (pe_fld (pv 0) rfl)))
   pss_nil)
  (pss_one (ps_ret (pe_ifExp (pt_val (pe_call G_is_from_zero (hr.mono (by omega)) (by rfl) g_is_from_zero F_is_from_zero.kp b_is_from_zero .nil pass0 (pa_cons (pv 0) pa_nil))) (pe_tup (pa_cons (pv 0) pa_nil)) pe_non)))), ?_⟩
    clear G_is_from_zero
    rcases h with ⟨a, ns, rfl, ⟨dx, r, ha, hr', h3, h4⟩, q⟩ | ⟨i, rfl, h0, q⟩
    · refine ⟨_, rfl, _, _, _, _, true, rfl, .own _, .base (.ins ha D.lay LG.ca LG.cn LG.ct LG.cm), LG.isL, _, rfl, ?_⟩
      refine iteT ?_
      exact ⟨_, rfl, a, d.lay, dx, _, .ref r, rfl, ha, D.lay, D.naF, rfl, q r hr'⟩
    · refine ⟨_, rfl, _, _, _, _, false, rfl, .own _, .base (.int i), LG.isI, _, rfl, ?_⟩
      refine iteF ?_
      refine ⟨_, rfl, ⟨i, rfl, _, rfl, ?_⟩⟩
      rw [decide_eq_true h0]
      refine iteT ?_
      exact ⟨_, rfl, by show 1 ≤ sizeLine; decide, fun p np => q p _ (same_upd np) (.inl upd_same)⟩
theorem ok_mul {d : LayD} {f f1 f2 f3 : Addr} {fd fd1 fd2 fd3 : FuncData} {k : Nat} (F : Fun K "__mul__" "Layout.__mul__" s_Layoutmul f fd) (D : LayF P K mg d) (M_Layout : Mk K d.lay f3) (GI : FnOk P w K mg base (L2.CX P w) 3 f3 fd3 ["self", "factors"] (spLay K d)) (b_Layoutinit : Binds K fd3 ["self", "factors"] [])
    (F_factors_beside_layouts : Fun K "factors_beside" "factors_beside" s_factors_beside_layouts f1 fd1) (b_factors_beside_layouts : Binds K fd1 ["thing"] []) (g_factors_beside_layouts : mg "factors_beside_layouts" = some (.ref f1)) (G_factors_beside_layouts : FnOk P w K mg base CX0 3 f1 fd1 ["thing"] (spBeside d.lay))
    (F_multiplied : Fun K "multiplied" "multiplied" s_multiplied f2 fd2) (b_multiplied : Binds K fd2 ["one", "other"] []) (g_multiplied : mg "multiplied" = some (.ref f2)) (G_multiplied : FnOk P w K mg base CX0 2 f2 fd2 ["one", "other"] spMulT) : FnOk P w K mg base (L2.CX P w) (k + 5) f fd ["self", "other"] (spMulO d) := by
  refine F.okX sc_Layoutmul (fun vs H Q E h => ?_) (fun cdv A outer s H vs Q E hr h => ?_)
  · obtain ⟨a, ns, y, ms, rfl, _⟩ := h
    rfl
  · obtain ⟨a, ns, y, ms, rfl, hl, hy, bn, bm, q⟩ := h
    refine ⟨_, (pss_cons (ps_set (i := 2) sc_Layoutmul.nd rfl (.inl rfl) (pe_call G_factors_beside_layouts (hr.mono (by omega)) (by rfl) g_factors_beside_layouts F_factors_beside_layouts.kp b_factors_beside_layouts .nil pass0 (pa_cons (pv 1) pa_nil)))
  (pss_cons (ps_if (pt_cmpR op_isN (pv 2) pe_non (nomark _))
   (pss_one (ps_ret pe_dead))
   pss_nil)
  (pss_one (ps_ret (pe_makeS M_Layout GI (hr.mono (by omega)) (by rfl) D.gLay b_Layoutinit (fun σ => passAt (W := fun cls dd σ H => E cls dd H) (takes_of rfl rfl rfl rfl) σ) (pa_cons (pe_call G_multiplied (hr.mono (by omega)) (by rfl) g_multiplied F_multiplied.kp b_multiplied .nil pass0 (pa_cons (pe_fld (pv 0) rfl) (pa_cons (pv 2) pa_nil))) pa_nil)))))), ?_⟩
    clear GI G_factors_beside_layouts G_multiplied
    obtain ⟨m1, m2⟩ := hy.pos
    obtain ⟨dx, r, ha, hr', h3, h4⟩ := id hl
    have q2 : LayTo d H (trimN (mulL ns ms)) Q E := by
      unfold LayTo at q ⊢
      rw [trim_trim]
      exact q
    have few : (trimN (mulL ns ms)).length ≤ 1000 := Nat.le_trans (trimN_len _) (by rw [mul_len]; have := bn.1; have := bm.1; omega)
    have pos : ∀ n ∈ trimN (mulL ns ms), 0 ≤ n := fun n hn => mul_nn (fun n hn => h4 n hn) (fun n hn => m1 n hn) n (List.mem_of_mem_take hn)
    rcases hy with ⟨b, rfl, lb⟩ | ⟨i, rfl, h0, rfl⟩
    · refine ⟨_, rfl, ⟨_, rfl, .inl ⟨b, ms, rfl, lb, fun rb hrb => ?_⟩⟩⟩
      refine ⟨_, rfl, rfl, _, rfl, iteF ?_⟩
      refine ⟨_, rfl, a, d.lay, dx, _, .ref r, rfl, ha, D.lay, D.naF, rfl, _, rfl, ⟨r, rb, ns, ms, rfl, hr', hrb, bn, bm, fun r2 H2 s2 er => ?_⟩⟩
      exact lay_to s2 (.inr er) few pos q2
    · refine ⟨_, rfl, ⟨_, rfl, .inr ⟨i, rfl, h0, fun rb H1 s1 hrb => ?_⟩⟩⟩
      refine ⟨_, rfl, rfl, _, rfl, iteF ?_⟩
      refine ⟨_, rfl, a, d.lay, dx, _, .ref r, rfl, s1 _ _ ha, D.lay, D.naF, rfl, _, rfl, ⟨r, rb, ns, [i], rfl, rd_same hr' s1, hrb, bn, bm, fun r2 H2 s2 er => ?_⟩⟩
      exact lay_to (s1.trans s2) (.inr er) few pos q2
theorem ok_rmul {d : LayD} {mc : Value} {f f1 g : Addr} {fd fd1 : FuncData} {k : Nat} (F : Fun K "__rmul__" "Layout.__rmul__" s_Layoutrmul f fd) (D : LayF P K mg d) (LG : LayG K d.lay mc) (mulI : BinI K d.lay "__mul__" "__rmul__" "int") (M_mul : OwnM K d.lay "__mul__" g) (R_mul : FnR P w K mg base (L2.CX P w) 5 g (spMulO d))
    (F_is_from_zero : Fun K "is_from_zero" "is_from_zero" s_is_from_zero f1 fd1) (b_is_from_zero : Binds K fd1 ["thing"] []) (g_is_from_zero : mg "is_from_zero" = some (.ref f1)) (G_is_from_zero : FnOk P w K mg base CX0 2 f1 fd1 ["thing"] spFromZero) : FnOk P w K mg base (L2.CX P w) (k + 6) f fd ["self", "other"] (spRmulO d) := by
  refine F.okX sc_Layoutrmul (fun vs H Q E h => ?_) (fun cdv A outer s H vs Q E hr h => ?_)
  · obtain ⟨a, ns, i, rfl, _⟩ := h
    rfl
  · obtain ⟨a, ns, i, rfl, hl, h0, bn, bi, q⟩ := h
    refine ⟨_, (pss_cons (ps_if (pt_not (pt_val (pe_call G_is_from_zero (hr.mono (by omega)) (by rfl) g_is_from_zero F_is_from_zero.kp b_is_from_zero .nil pass0 (pa_cons (pv 1) pa_nil))))
   (pss_one (ps_ret pe_dead))
   pss_nil)
  (pss_one (ps_ret (pe_op (op_binI (by rfl) (by rfl) LG.first mulI M_mul R_mul (hr.mono (by omega)) (fun pins σ H s e s' I c => passAt (W := fun cls dd σ H => E cls dd H) (takes_of rfl rfl rfl rfl) σ pins H s e s' I c)) (pv 0) (pv 1))))), ?_⟩
    clear R_mul G_is_from_zero
    obtain ⟨dx, r, ha, _⟩ := id hl
    refine ⟨_, rfl, ⟨_, rfl, _, rfl, ?_⟩⟩
    rw [decide_eq_true h0]
    refine iteF ?_
    exact ⟨_, rfl, _, rfl, a, dx, _, i, rfl, ha, rfl, ⟨a, ns, .int i, [i], rfl, hl, .inr ⟨i, rfl, h0, rfl⟩, bn, bi, q⟩⟩
end
end My

namespace My
open PySem PySem.Spec PyProof.Rows L2
open Kn (KindAt Right Best byL by_divisor right_best)
abbrev s_Layouteq : Stmt := inClass (topS 50) 12
theorem sc_Layouteq : FnScope ["self", "other"] ["self", "other"] (defScope s_Layouteq) := ⟨rfl, rfl, rfl, by decide +kernel, rfl, by decide +kernel, by decide +kernel⟩
abbrev s_Layoutconstant : Stmt := inClass (topS 50) 2
theorem sc_Layoutconstant : FnScope ["self"] ["self"] (defScope s_Layoutconstant) := ⟨rfl, rfl, rfl, by decide +kernel, rfl, by decide +kernel, by decide +kernel⟩
abbrev s_are_like : Stmt := topS 41
theorem sc_are_like : FnScope ["kind", "one", "other"] ["kind", "one", "other"] (defScope s_are_like) := ⟨rfl, rfl, rfl, by decide +kernel, rfl, by decide +kernel, by decide +kernel⟩
abbrev s_multiple : Stmt := topS 42
theorem sc_multiple : FnScope ["kind", "one", "other"] ["kind", "one", "other"] (defScope s_multiple) := ⟨rfl, rfl, rfl, by decide +kernel, rfl, by decide +kernel, by decide +kernel⟩
def valO : Option Nat → V
  | none => .non
  | some n => .int (n : Nat)
theorem ord_same {F fs gs : List Int} {deg : Nat} {c : Int} (L : Lead F deg c) (h : Cg F fs gs) : ordV F fs deg c = ordV F gs deg c := by
  have z : ∀ m, Zm F fs m ↔ Zm F gs m := fun m => by
    constructor
    · intro y
      exact (y.add ((h.symm).mulc (m : Int))).ext fun k => by
        show (m : Int) * gs.getD k 0 = (m : Int) * fs.getD k 0 + (m : Int) * (gs.getD k 0 - fs.getD k 0)
        rw [← Int.mul_add]
        congr 1
        omega
    · intro y
      exact (y.add (h.mulc (m : Int))).ext fun k => by
        show (m : Int) * fs.getD k 0 = (m : Int) * gs.getD k 0 + (m : Int) * (fs.getD k 0 - gs.getD k 0)
        rw [← Int.mul_add]
        congr 1
        omega
  obtain ⟨a1, a2⟩ := ord_spec (fs := fs) L
  obtain ⟨b1, b2⟩ := ord_spec (fs := gs) L
  cases hf : ordV F fs deg c with
  | none =>
    cases hg : ordV F gs deg c with
    | none => rfl
    | some d =>
      obtain ⟨p1, _, p3⟩ := b2 d hg
      exact absurd ((z d).mpr ((p3 d).mpr (Nat.dvd_refl d))) (a1 hf d p1)
  | some e =>
    obtain ⟨q1, _, q3⟩ := a2 e hf
    cases hg : ordV F gs deg c with
    | none => exact absurd ((z e).mp ((q3 e).mpr (Nat.dvd_refl e))) (b1 hg e q1)
    | some d =>
      obtain ⟨p1, _, p3⟩ := b2 d hg
      have x : e ∣ d := (q3 d).mp ((z d).mpr ((p3 d).mpr (Nat.dvd_refl d)))
      have y : d ∣ e := (p3 e).mp ((z e).mp ((q3 e).mpr (Nat.dvd_refl e)))
      rw [Nat.dvd_antisymm x y]
theorem ord_le {F fs : List Int} {deg : Nat} {c : Int} (L : Lead F deg c) (c8 : c ≤ 8) : ∀ n, ordV F fs deg c = some n → 1 ≤ n ∧ n ≤ 8 := fun n h => by
  obtain ⟨p1, p2, _⟩ := (ord_spec (fs := fs) L).2 n h
  have lt : deg < F.length := by rw [L.len]; omega
  have tm : c ∈ F := by
    have t := L.top
    rw [List.getD_eq_getElem?_getD, List.getElem?_eq_getElem lt] at t
    exact t ▸ List.getElem_mem lt
  obtain ⟨g0, gle⟩ := gcdL_pos 0 tm L.pos
  have := Nat.le_of_dvd g0 p2
  omega
/-- two layouts -/
structure spLayEqB (C : Addr) (vs : List V) (H : Hp) (Q : VK) (E : XK) : Prop where
  ex : ∃ a b ns ms, vs = [.ref a, .ref b] ∧ LayAt C H a ns ∧ LayAt C H b ms ∧ Q (.bl (decide (ns = ms))) H
structure spConst (C : Addr) (vs : List V) (H : Hp) (Q : VK) (E : XK) : Prop where
  ex : ∃ a ns, vs = [.ref a] ∧ LayAt C H a ns ∧ Q (.bl (decide (ns.length < 2))) H
/-- layouts that are like -/
def LikeP (F ns ms : List Int) : Prop := ns = ms ∨ (2 ≤ ns.length ∧ 2 ≤ ms.length ∧ Cg F ns ms)
structure spLike (d : RestD) (C : Addr) (vs : List V) (H : Hp) (Q : VK) (E : XK) : Prop where
  ex : ∃ x a b ks m ns ms, vs = [.ref x, .ref a, .ref b] ∧ KindAt H x ks ∧ Right ks ∧ Best ks m ∧ LayAt C H a ns ∧ LayAt C H b ms ∧ ∀ t H', Same H H' → (t = true ↔ LikeP (byL (ks.map (·.2)) m) ns ms) → Q (.bl t) H'
def dueV (F : List Int) (deg : Nat) (c : Int) (ns ms : List Int) : Option Nat := if ns = ms then some 1 else if ns.length < 2 ∨ ms.length < 2 then none else ordV F (subL ns ms) deg c
structure spMultiple (d : RestD) (C : Addr) (vs : List V) (H : Hp) (Q : VK) (E : XK) : Prop where
  ex : ∃ x a b ks m c ns ms, vs = [.ref x, .ref a, .ref b] ∧ KindAt H x ks ∧ Right ks ∧ Best ks m ∧ Divisor (byL (ks.map (·.2)) m) m c ∧ LayAt C H a ns ∧ LayAt C H b ms ∧ ∀ H', Same H H' → Q (valO (dueV (byL (ks.map (·.2)) m) m c ns ms)) H'
section
variable {P : Program} {w : World} {K : PySem.W.Frag} {mg : Str → Option Value} {base : Heap}
theorem ok_layeqB {d : LayD} {mc : Value} {f : Addr} {fd : FuncData} {k : Nat} (F : Fun K "__eq__" "Layout.__eq__" s_Layouteq f fd) (T : TxtL mg) (D : LayF P K mg d) (LG : LayG K d.lay mc) : FnOk P w K mg base CX0 (k + 1) f fd ["self", "other"] (spLayEqB d.lay) := by
  refine F.ok sc_Layouteq (fun vs H Q E h => ?_) (fun cdv A outer s H vs Q E hr h => ?_)
  · obtain ⟨a, b, ns, ms, rfl, _⟩ := h
    rfl
  · obtain ⟨a, b, ns, ms, rfl, ⟨dx, r, ha, hr', h3, h4⟩, lb, q⟩ := h
    refine ⟨_, (pss_one (ps_ret (pe_and (pe_callB call_isi (by rfl) T.n_isinstance (by decide +kernel) (pa_cons (pv 1) (pa_cons (pe_glob (v := .ref d.lay) (by rfl) D.gLay rfl) pa_nil))) (pe_one (pe_cmpR (op_eqD hr.units) (pe_fld (pv 0) rfl) (pe_fld (pv 1) rfl) (nomark _)))))), ?_⟩
    have tb := lay_ty lb D LG
    obtain ⟨dy, r2, hb, hr2, _⟩ := lb
    refine ⟨_, rfl, _, _, _, _, true, rfl, .own _, tb, LG.isL, _, rfl, ?_⟩
    refine iteT ?_
    refine ⟨_, rfl, a, d.lay, dx, _, .ref r, rfl, ha, D.lay, D.naF, rfl, _, rfl, b, d.lay, dy, _, .ref r2, rfl, hb, D.lay, D.naF, rfl, _, _, .tup (.inl hr') (dp_ints ns), .tup (.inl hr2) (dp_ints ms), shT_intsS ns, shT_intsS ms, ?_⟩
    rw [eqvT_ints2]
    exact q
theorem ok_constant {d : LayD} {f : Addr} {fd : FuncData} {k : Nat} (F : Fun K "constant" "Layout.constant" s_Layoutconstant f fd) (D : LayF P K mg d) : FnOk P w K mg base CX0 (k + 1) f fd ["self"] (spConst d.lay) := by
  refine F.ok sc_Layoutconstant (fun vs H Q E h => ?_) (fun cdv A outer s H vs Q E hr h => ?_)
  · obtain ⟨a, ns, rfl, _⟩ := h
    rfl
  · obtain ⟨a, ns, rfl, ⟨dx, r, ha, hr', h3, h4⟩, q⟩ := h
    refine ⟨_, (pss_one (ps_ret (pe_cmpR op_lt (pe_fld (pv 0) rfl) pe_int (nomark _)))), ?_⟩
    refine ⟨_, rfl, a, d.lay, dx, _, _, rfl, ha, D.lay, D.naD, rfl, _, _, rfl, rfl, ?_⟩
    have e : decide (ns.length < 2) = decide ((ns.length : Int) - 1 < 1) := decide_eq_decide.mpr (by omega)
    rw [e] at q
    exact q
theorem ok_are_like {d : LayD} {dr : RestD} {mc mr : Value} {f f1 g1 g2 g3 q1 q3 g4 : Addr} {fd fd1 fd4 : FuncData} {k : Nat} (F : Fun K "are_like" "are_like" s_are_like f fd) (D : LayF P K mg d) (LG : LayG K d.lay mc) (R : RestF P K mg dr) (RG : RestG K dr.rest mr)
    (F_check_kind : Fun K "check_kind" "check_kind" s_check_kind f1 fd1) (b_check_kind : Binds K fd1 ["thing"] []) (g_check_kind : mg "check_kind" = some (.ref f1)) (G_check_kind : FnOk P w K mg base (L2.CX P w) 5 f1 fd1 ["thing"] (spCheck K dr))
    (M_eq : OwnM K d.lay "__eq__" g1) (R_eq : FnR P w K mg base CX0 1 g1 (spLayEqB d.lay)) (P_constant : PropOf K d.lay "constant" q1 g4) (b_constant : Binds K fd4 ["self"] []) (G_constant : FnOk P w K mg base CX0 1 g4 fd4 ["self"] (spConst d.lay))
    (M_eqR : OwnM K dr.rest "__eq__" g2) (R_eqR : FnR P w K mg base CX0 1 g2 (spRestEqG K dr)) (C_of : ClX.CMet K dr.rest mr "of" q3 g3) (R_of : FnR P w K mg base CX0 8 g3 (spRestOf dr d.lay)) :
    FnOk P w K mg base CX0 (k + 9) f fd ["kind", "one", "other"] (spLike dr d.lay) := by
  refine F.ok sc_are_like (fun vs H Q E h => ?_) (fun cdv A outer s H vs Q E hr h => ?_)
  · obtain ⟨x, a, b, ks, m, ns, ms, rfl, _⟩ := h
    rfl
  · obtain ⟨x, a, b, ks, m, ns, ms, rfl, hk, rk, bm, la, lb, q⟩ := h
    refine ⟨_, (pss_cons (ps_expr (pe_call G_check_kind (hr.mono (by omega)) (by rfl) g_check_kind F_check_kind.kp b_check_kind .nil passE (pa_cons (pv 0) pa_nil)))
  (pss_cons (ps_if (pt_cmpR (op_cmpO (fun _ _ => rfl) M_eq R_eq (hr.mono (by omega)) pass0) (pv 1) (pv 2) (nomark _))
   (pss_one (ps_ret pe_bl))
   pss_nil)
  (pss_cons (ps_if (PW.pt (pw_or (pt_val (pe_prop (pv 1) D.lay P_constant G_constant (hr.mono (by omega)) b_constant .nil pass0 rfl)) (pw_or1 (pt_val (pe_prop (pv 2) D.lay P_constant G_constant (hr.mono (by omega)) b_constant .nil pass0 rfl)))))
   (pss_one (ps_ret pe_bl))
   pss_nil)
  (pss_one (ps_ret (pe_cmpR (op_cmpO (fun _ _ => rfl) M_eqR R_eqR (hr.mono (by omega)) pass0) (ClX.pe_cmeth (pe_glob (v := .ref dr.rest) (by rfl) R.gRest rfl) RG.rd C_of R_of (hr.mono (by omega)) pass0 (pa_cons (pv 0) (pa_cons (pv 1) pa_nil))) (ClX.pe_cmeth (pe_glob (v := .ref dr.rest) (by rfl) R.gRest rfl) RG.rd C_of R_of (hr.mono (by omega)) pass0 (pa_cons (pv 0) (pa_cons (pv 2) pa_nil))) (nomark _))))))), ?_⟩
    clear G_check_kind R_eq G_constant R_eqR R_of
    refine ⟨_, rfl, ⟨_, _, rfl, Kn.th_kind hk rk, fun _ H1 s1 => ?_, fun z => (by rw [Kn.kind_self rk] at z; cases z)⟩⟩
    have la1 := la.same s1
    have lb1 := lb.same s1
    obtain ⟨dx, r, ha, _⟩ := id la1
    obtain ⟨dy, r2, hb, _⟩ := id lb1
    refine ⟨_, rfl, _, rfl, a, dx, _, .ref d.lay, rfl, ha, lay_ty lb1 D LG, Bool.or_eq_true_iff.mpr (.inl (beq_self_eq_true _)), ⟨⟨a, b, ns, ms, rfl, la1, lb1, ?_⟩⟩⟩
    by_cases ne : ns = ms
    · rw [decide_eq_true ne]
      refine ⟨_, rfl, iteT ?_⟩
      exact q true H1 s1 ⟨fun _ => .inl ne, fun _ => rfl⟩
    rw [decide_eq_false ne]
    refine ⟨_, rfl, iteF ?_⟩
    refine ⟨_, rfl, a, dx, _, rfl, ha, ⟨⟨a, ns, rfl, la1, ?_⟩⟩⟩
    by_cases l1 : ns.length < 2
    · rw [decide_eq_true l1]
      refine ⟨_, rfl, iteT ?_⟩
      exact q false H1 s1 ⟨fun z => (by cases z), fun z => z.elim (fun e => absurd e ne) fun e => absurd e.1 (by omega)⟩
    rw [decide_eq_false l1]
    refine ⟨_, rfl, iteF ?_⟩
    refine ⟨_, rfl, b, dy, _, rfl, hb, ⟨⟨b, ms, rfl, lb1, ?_⟩⟩⟩
    by_cases l2 : ms.length < 2
    · rw [decide_eq_true l2]
      refine ⟨_, rfl, iteT ?_⟩
      exact q false H1 s1 ⟨fun z => (by cases z), fun z => z.elim (fun e => absurd e ne) fun e => absurd e.2.1 (by omega)⟩
    rw [decide_eq_false l2]
    refine ⟨_, rfl, iteF ?_⟩
    refine ⟨rfl, _, rfl, _, rfl, ⟨⟨x, ks, a, ns, rfl, hk.same s1, rk, la1, fun x1 fs1 H2 s2 nx1 ra1 rr1 => ?_⟩⟩⟩
    refine ⟨rfl, _, rfl, _, rfl, ⟨⟨x, ks, b, ms, rfl, (hk.same s1).same s2, rk, lb1.same s2, fun x2 fs2 H3 s3 nx2 ra2 rr2 => ?_⟩⟩⟩
    have ra13 := ra1.same s3
    obtain ⟨d1, _, _, h1, _⟩ := id ra13
    obtain ⟨d2, _, _, h2, _⟩ := id ra2
    have c1 := rr1.cg bm
    have c2 := rr2.cg bm
    refine ⟨x1, d1, _, .ref dr.rest, rfl, h1, .base (.ins h2 R.rest RG.ca RG.cn RG.ct RG.cm), Bool.or_eq_true_iff.mpr (.inl (beq_self_eq_true _)), ⟨⟨x1, .ref x2, ks, fs1, rfl, ra13, rk.2.2, .inl ⟨x2, ks, fs2, rfl, ra2, rk.2.2, ?_⟩⟩⟩⟩
    refine q _ _ ((s1.trans s2).trans s3) ⟨fun z => ?_, fun z => decide_eq_true ⟨rfl, ?_⟩⟩
    · have e := (of_decide_eq_true z).2
      subst e
      exact .inr ⟨by omega, by omega, c1.trans c2.symm⟩
    · rcases z with e | ⟨_, _, q1, n1, e⟩
      · exact absurd e ne
      · exact RestR.one bm rr1 rr2 ⟨q1, n1, fun k => by have e := e k; dsimp only at e; omega⟩
theorem ok_multiple {d : LayD} {dr : RestD} {mc : Value} {f f1 f2 f3 g1 q1 g2 g3 g4 : Addr} {fd fd1 fd2 fd3 fdc fdo : FuncData} {k : Nat} (F : Fun K "multiple" "multiple" s_multiple f fd) (D : LayF P K mg d) (LG : LayG K d.lay mc) (R : RestF P K mg dr)
    (F_check_kind : Fun K "check_kind" "check_kind" s_check_kind f1 fd1) (b_check_kind : Binds K fd1 ["thing"] []) (g_check_kind : mg "check_kind" = some (.ref f1)) (G_check_kind : FnOk P w K mg base (L2.CX P w) 5 f1 fd1 ["thing"] (spCheck K dr))
    (F_added : Fun K "added" "added" s_added f2 fd2) (b_added : Binds K fd2 ["one", "other"] []) (g_added : mg "added" = some (.ref f2)) (G_added : FnOk P w K mg base CX0 2 f2 fd2 ["one", "other"] spAdded)
    (F_negated : Fun K "negated" "negated" s_negated f3 fd3) (b_negated : Binds K fd3 ["factors"] []) (g_negated : mg "negated" = some (.ref f3)) (G_negated : FnOk P w K mg base CX0 1 f3 fd3 ["factors"] spNeg)
    (M_eq : OwnM K d.lay "__eq__" g1) (R_eq : FnR P w K mg base CX0 1 g1 (spLayEqB d.lay)) (P_constant : PropOf K d.lay "constant" q1 g4) (b_constant : Binds K fdc ["self"] []) (G_constant : FnOk P w K mg base CX0 1 g4 fdc ["self"] (spConst d.lay))
    (M_Rest : Mk K dr.rest g3) (R_Rest : FnR P w K mg base (L2.CX P w) 6 g3 (spRestI K dr)) (M_order : OwnM K dr.rest "order" g2) (b_order : Binds K fdo ["self"] []) (G_order : FnOk P w K mg base CX0 3 g2 fdo ["self"] (spOrder dr)) :
    FnOk P w K mg base CX0 (k + 8) f fd ["kind", "one", "other"] (spMultiple dr d.lay) := by
  refine F.ok sc_multiple (fun vs H Q E h => ?_) (fun cdv A outer s H vs Q E hr h => ?_)
  · obtain ⟨x, a, b, ks, m, c, ns, ms, rfl, _⟩ := h
    rfl
  · obtain ⟨x, a, b, ks, m, c, ns, ms, rfl, hk, rk, bm, dv, la, lb, q⟩ := h
    refine ⟨_, (pss_cons (ps_expr (pe_call G_check_kind (hr.mono (by omega)) (by rfl) g_check_kind F_check_kind.kp b_check_kind .nil passE (pa_cons (pv 0) pa_nil)))
  (pss_cons (ps_if (pt_cmpR (op_cmpO (fun _ _ => rfl) M_eq R_eq (hr.mono (by omega)) pass0) (pv 1) (pv 2) (nomark _))
   (pss_one (ps_ret pe_int))
   pss_nil)
  (pss_cons (ps_if (PW.pt (pw_or (pt_val (pe_prop (pv 1) D.lay P_constant G_constant (hr.mono (by omega)) b_constant .nil pass0 rfl)) (pw_or1 (pt_val (pe_prop (pv 2) D.lay P_constant G_constant (hr.mono (by omega)) b_constant .nil pass0 rfl)))))
   (pss_one (ps_ret pe_non))
   pss_nil)
  (pss_one (ps_ret (pe_meth0 (pe_makeRest M_Rest R_Rest (hr.mono (by omega)) (by rfl) R.gRest (pa_cons (pv 0) (pa_cons (pe_call G_added (hr.mono (by omega)) (by rfl) g_added F_added.kp b_added .nil pass0 (pa_cons (pe_fld (pv 1) rfl) (pa_cons (pe_call G_negated (hr.mono (by omega)) (by rfl) g_negated F_negated.kp b_negated .nil pass0 (pa_cons (pe_fld (pv 2) rfl) pa_nil)) pa_nil))) pa_nil))) R.rest M_order.meth G_order (hr.mono (by omega)) b_order .nil pass0)))))), ?_⟩
    clear G_check_kind R_eq G_constant G_added G_negated R_Rest G_order
    refine ⟨_, rfl, ⟨_, _, rfl, Kn.th_kind hk rk, fun _ H1 s1 => ?_, fun z => (by rw [Kn.kind_self rk] at z; cases z)⟩⟩
    have la1 := la.same s1
    have lb1 := lb.same s1
    have hk1 := hk.same s1
    obtain ⟨dx, r, ha, hr1, n41, _⟩ := id la1
    obtain ⟨dy, r2, hb, hr2, m41, _⟩ := id lb1
    refine ⟨_, rfl, _, rfl, a, dx, _, .ref d.lay, rfl, ha, lay_ty lb1 D LG, Bool.or_eq_true_iff.mpr (.inl (beq_self_eq_true _)), ⟨⟨a, b, ns, ms, rfl, la1, lb1, ?_⟩⟩⟩
    by_cases ne : ns = ms
    · rw [decide_eq_true ne]
      refine ⟨_, rfl, iteT ?_⟩
      have q := q H1 s1
      rw [dueV, if_pos ne] at q
      exact q
    rw [decide_eq_false ne]
    refine ⟨_, rfl, iteF ?_⟩
    refine ⟨_, rfl, a, dx, _, rfl, ha, ⟨⟨a, ns, rfl, la1, ?_⟩⟩⟩
    by_cases l1 : ns.length < 2
    · rw [decide_eq_true l1]
      refine ⟨_, rfl, iteT ?_⟩
      have q := q H1 s1
      rw [dueV, if_neg ne, if_pos (.inl l1)] at q
      exact q
    rw [decide_eq_false l1]
    refine ⟨_, rfl, iteF ?_⟩
    refine ⟨_, rfl, b, dy, _, rfl, hb, ⟨⟨b, ms, rfl, lb1, ?_⟩⟩⟩
    by_cases l2 : ms.length < 2
    · rw [decide_eq_true l2]
      refine ⟨_, rfl, iteT ?_⟩
      have q := q H1 s1
      rw [dueV, if_neg ne, if_pos (.inr l2)] at q
      exact q
    rw [decide_eq_false l2]
    refine ⟨_, rfl, iteF ?_⟩
    refine ⟨_, rfl, _, rfl, a, d.lay, dx, _, .ref r, rfl, ha, D.lay, D.naF, rfl, _, rfl, b, d.lay, dy, _, .ref r2, rfl, hb, D.lay, D.naF, rfl, ⟨r2, ms, rfl, hr2, by omega, fun r3 H2 s2 e3 => ?_⟩⟩
    refine ⟨r, r3, ns, negL ms, rfl, rd_same hr1 s2, .inl e3, by omega, by unfold negL; rw [List.length_map]; omega, fun r4 H3 s3 e4 => ?_⟩
    have s13 := s2.trans s3
    have ln : (trimN (addL ns (negL ms))).length ≤ 41 := Nat.le_trans (trimN_len _) (by rw [addL_len]; unfold negL; rw [List.length_map]; omega)
    refine ⟨x, ks, r4, _, rfl, (hk1.same s2).same s3, rk, .inr e4, by omega, fun z hs H4 s4 nz ra rr => ?_⟩
    obtain ⟨dz, _, _, hz, _⟩ := id ra
    have lz : hs.length ≤ 800 := by
      obtain ⟨_, _, _, _, _, lz⟩ := rr.ex
      omega
    refine ⟨z, dz, _, rfl, hz, rfl, ⟨z, ks, hs, rfl, ra, rk, lz, fun m2 c2 bm2 dv2 H5 s5 => ?_⟩⟩
    cases best_one bm2 bm
    cases div_one dv2 dv
    have q := q H5 (s1.trans (s13.trans (s4.trans s5)))
    have eo : ordV (byL (ks.map (·.2)) m) (subL ns ms) m c = ordV (byL (ks.map (·.2)) m) hs m c := ord_same dv.lead ((show Cg (byL (ks.map (·.2)) m) (subL ns ms) (trimN (addL ns (negL ms))) from (Cg.trim (A := subL ns ms)).symm).trans (rr.cg bm))
    rw [dueV, if_neg ne, if_neg (by omega), eo] at q
    revert q
    generalize ordV (byL (ks.map (·.2)) m) hs m c = o
    intro q
    cases o <;> exact q
end
end My

namespace My
open PySem PySem.Spec PyProof.Rows L2
abbrev s_law_some_factors : Stmt := topS 59
theorem sc_law_some_factors : FnScope ["pot", "many", "most", "found", "turn"] ["pot", "many", "most"] (defScope s_law_some_factors) := ⟨rfl, rfl, rfl, by decide +kernel, rfl, by decide +kernel, by decide +kernel⟩
structure TxtM (mg : Str → Option Value) : Prop where
  n_range : mg "range" = none
/-- a list of drawn factors -/
structure spSome (vs : List V) (H : Hp) (Q : VK) (E : XK) : Prop where
  ex : ∃ (p c : Addr) (many : Nat) (most : Int), vs = [.ref p, .int (many : Nat), .int most] ∧ Pot H p c ∧ many ≤ 100 ∧ 2 ≤ most ∧ most ≤ 1000000000 ∧ ∀ (l : Addr) (ns : List Int) (H' : Hp), H l = none → Pot H' p c → But p H H' → H' l = some (.lst (ns.map V.int)) → ns.length ≤ many → (∀ n ∈ ns, 0 ≤ n ∧ n ≤ most) → Q (.ref l) H'
section
variable {P : Program} {w : World} {K : PySem.W.Frag} {mg : Str → Option Value} {base : Heap}
theorem ok_some_factors {f fb fp : Addr} {fd fdb fdp : FuncData} {k : Nat} (F : Fun K "_law_some_factors" "_law_some_factors" s_law_some_factors f fd) (T : TxtM mg) (F__law_below : Fun K "_law_below" "_law_below" s_law_below fb fdb) (b__law_below : Binds K fdb ["pot", "bound"] []) (g__law_below : mg "_law_below" = some (.ref fb))
    (G__law_below : FnOk P w K mg base CX0 2 fb fdb ["pot", "bound"] spBelow) (F__law_pick : Fun K "_law_pick" "_law_pick" s_law_pick fp fdp) (b__law_pick : Binds K fdp ["pot", "items"] []) (g__law_pick : mg "_law_pick" = some (.ref fp))
    (G__law_pick : FnOk P w K mg base CX0 3 fp fdp ["pot", "items"] (spPick K)) : FnOk P w K mg base CX0 (k + 4) f fd ["pot", "many", "most"] spSome := by
  refine F.ok sc_law_some_factors (fun vs H Q E h => ?_) (fun cdv A outer s H vs Q E hr h => ?_)
  · obtain ⟨p, c, many, most, rfl, _⟩ := h
    rfl
  · obtain ⟨p, c, many, most, rfl, hP, m100, mo2, mo9, q⟩ := h
    refine ⟨_, (pss_cons (ps_set (i := 3) sc_law_some_factors.nd rfl (.inl rfl) (pe_lst pa_nil))
  (pss_cons (ps_for PassesOwn.never rfl (pi_range1 (by rfl) T.n_range (pa_cons (pe_call G__law_below (hr.mono (by omega)) (by rfl) g__law_below F__law_below.kp b__law_below .nil pass0 (pa_cons (pv 0) (pa_cons (pe_op op_add (pv 1) pe_int) pa_nil))) pa_nil)) (pg_name (i := 4) sc_law_some_factors.nd rfl (.inl rfl))
   (pss_one (ps_expr (pe_bm PySem.F.plainAttrs_list PySem.F.slot_list_append PySem.F.type_list_append mt_append (pv 3) (pa_cons (pe_call G__law_pick (hr.mono (by omega)) (by rfl) g__law_pick F__law_pick.kp b__law_pick .nil pass0 (pa_cons (pv 0) (pa_cons (pe_lst (pa_cons pe_int (pa_cons pe_int (pa_cons pe_int (pa_cons pe_int (pa_cons pe_int (pa_cons (pe_call G__law_below (hr.mono (by omega)) (by rfl) g__law_below F__law_below.kp b__law_below .nil pass0 (pa_cons (pv 0) (pa_cons (pe_op op_add (pv 2) pe_int) pa_nil))) pa_nil))))))) pa_nil))) pa_nil)))))
  (pss_one (ps_ret (pv 3))))), ?_⟩
    clear G__law_below G__law_pick
    refine ⟨by show 0 ≤ sizeLine; decide, fun l nl => ?_⟩
    have s1 := same_upd (o := .lst []) nl
    have hl1 : (upd H l (.lst [])) l = some (.lst []) := upd_same
    have hP1 := hP.same s1
    obtain ⟨ns0, p0, am0, sz0, hp0, hc0, hl0⟩ := id hP
    have npl : p ≠ l := ne_of_none hp0 nl
    have ncl : c ≠ l := ne_of_none hc0 nl
    have b1 : But p H (upd H l (.lst [])) := But.of (s1 _ _ hp0) s1
    generalize upd H l (.lst []) = H1 at s1 hl1 hP1 b1 ⊢
    refine ⟨_, rfl, _, rfl, _, _, rfl, rfl, p, c, _, rfl, hP1, by omega, by omega, fun v H2 v0 v1 hP2 b2 => ?_⟩
    obtain ⟨n, rfl⟩ : ∃ n : Nat, v = (n : Int) := ⟨v.toNat, by omega⟩
    have hn : n ≤ many := by omega
    refine ⟨_, rfl, by omega, by omega, ?_⟩
    refine for_range (n := n) (fun j σ H3 => Pot H3 p c ∧ But p H H3 ∧ (∃ ns : List Int, H3 l = some (.lst (ns.map V.int)) ∧ ns.length ≤ j ∧ ∀ z ∈ ns, 0 ≤ z ∧ z ≤ most) ∧ ∃ w4, σ = [some (.ref p), some (.int (many : Nat)), some (.int most), some (.ref l), w4])
      ⟨hP2, b1.trans b2, ⟨[], b2.1 _ _ hl1 (Ne.symm npl), Nat.le_refl _, fun _ z => nomatch z⟩, none, rfl⟩ ?_ ?_
    · rintro j σ H3 hj ⟨hP3, b3, ⟨ns, hl3, ln, hns⟩, w4, rfl⟩
      refine ⟨_, rfl, .inl ⟨rfl, _, .inl (.inl hl3)⟩, _, rfl, _, rfl, _, rfl, _, _, rfl, rfl, p, c, _, rfl, hP3, by omega, by omega, fun y H4 y0 y1 hP4 b4 => ?_⟩
      have hl4 := b4.1 _ _ hl3 (Ne.symm npl)
      refine ⟨by show 6 ≤ sizeLine; decide, fun L nL => ?_⟩
      have sL := same_upd (o := .lst [.int 0, .int 0, .int 1, .int 1, .int 2, .int y]) nL
      have hL : (upd H4 L (.lst [.int 0, .int 0, .int 1, .int 1, .int 2, .int y])) L = some (.lst [.int 0, .int 0, .int 1, .int 1, .int 2, .int y]) := upd_same
      have hP5 := hP4.same sL
      have b5 : But p H (upd H4 L (.lst [.int 0, .int 0, .int 1, .int 1, .int 2, .int y])) := (b3.trans b4).same sL
      have hl5 := sL _ _ hl4
      have npL : p ≠ L := by
        obtain ⟨ns4, p4, am4, sz4, hp4, _, _⟩ := id hP4
        exact ne_of_none hp4 nL
      generalize upd H4 L (.lst [.int 0, .int 0, .int 1, .int 1, .int 2, .int y]) = H5 at sL hL hP5 b5 hl5 ⊢
      refine ⟨p, c, L, _, rfl, hP5, .inl (.inl hL), (fun z => nomatch z), by show 6 < 1073741824; decide, fun H' hb => .inl (.inl (hb.1 _ _ hL (Ne.symm npL))), fun x H6 hx hP6 b6 => ?_⟩
      have hl6 := b6.1 _ _ hl5 (Ne.symm npl)
      have b7 := b5.trans b6
      obtain ⟨xi, rfl, x0, x1⟩ : ∃ xi : Int, x = .int xi ∧ 0 ≤ xi ∧ xi ≤ most := by
        simp only [List.mem_cons, List.not_mem_nil, or_false] at hx
        rcases hx with rfl | rfl | rfl | rfl | rfl | rfl <;> exact ⟨_, rfl, by omega, by omega⟩
      have npl6 : p ≠ l ∧ c ≠ l := ⟨npl, ncl⟩
      refine ⟨l, _, _, rfl, rfl, hl6, ?_, ?_, ?_, ⟨ns ++ [xi], ?_, ?_, ?_⟩, _, rfl⟩
      · rw [List.length_map]
        exact small1000 (by omega)
      · obtain ⟨ns6, p6, am6, sz6, hp6, hc6, hl7⟩ := hP6
        exact ⟨ns6, p6, am6, sz6, by rw [upd_ne npl]; exact hp6, by rw [upd_ne ncl]; exact hc6, hl7⟩
      · refine ⟨fun b o e nb => ?_, ?_⟩
        · rw [upd_ne (ne_of_none e nl)]
          exact b7.1 b o e nb
        · rw [upd_ne npl]
          exact b7.2
      · rw [upd_same, List.map_append]
        rfl
      · rw [List.length_append, List.length_singleton]
        omega
      · intro z hz
        rcases List.mem_append.mp hz with hz | hz
        · exact hns z hz
        · rw [List.mem_singleton.mp hz]
          exact ⟨x0, x1⟩
    · rintro σ H3 ⟨hP3, b3, ⟨ns, hl3, ln, hns⟩, w4, rfl⟩
      exact ⟨_, rfl, q l ns H3 nl hP3 b3 hl3 (by omega) hns⟩
end
end My

namespace My
open PySem PySem.Spec PyProof.Rows L2
open Kn (KindAt Right Best byL by_divisor right_best)
abbrev s_law_due : Stmt := topS 67
theorem sc_law_due : FnScope ["kind", "one", "other", "times", "factor"] ["kind", "one", "other"] (defScope s_law_due) := ⟨rfl, rfl, rfl, by decide +kernel, rfl, by decide +kernel, by decide +kernel⟩
structure spLessL (vs : List V) (H : Hp) (Q : VK) (E : XK) : Prop where
  ex : ∃ a b as bs, vs = [.ref a, .ref b] ∧ H a = some (.lst (as.map V.int)) ∧ H b = some (.lst (bs.map V.int)) ∧ as.length ≤ 300 ∧ bs.length ≤ 300 ∧ ∀ l H', Same H H' → H l = none → H' l = some (.lst ((trimN (subL as bs)).map V.int)) → Q (.ref l) H'
theorem zm_iff (F ns : List Int) (t : Nat) : Mu F (fn (ns.map fun z => (t : Int) * z)) ↔ Zm F ns t := by
  have e : ∀ k, fn (ns.map fun z => (t : Int) * z) k = (t : Int) * ns.getD k 0 := fun k => by
    show (ns.map fun z => (t : Int) * z).getD k 0 = _
    rw [List.getD_eq_getElem?_getD, List.getElem?_map, List.getD_eq_getElem?_getD]
    cases ns[k]? with
    | none => exact (Int.mul_zero _).symm
    | some z => rfl
  exact ⟨fun h => h.ext fun k => (e k).symm, fun h => h.ext fun k => e k⟩
theorem shL_intsU (ns : List Int) : SeqAt.shaped (.list (ns.map PyData.int)) = true := by
  have d : PyData.depthAll (ns.map PyData.int) ≤ 1 := by
    induction ns with
    | nil => simp [PyData.depthAll]
    | cons n r ih =>
      rw [List.map_cons]
      simp only [PyData.depthAll, PyData.depth]
      omega
  have l : PyData.canLayAll0 (ns.map PyData.int) = true := by
    clear d
    induction ns with
    | nil => rfl
    | cons n r ih =>
      rw [List.map_cons]
      simp [PyData.canLayAll0, PyData.canLay0, ih]
  exact sh_of (by simp only [PyData.canLay0]; exact l) (by simp only [PyData.depth]; omega)
structure TxtDu (mg : Str → Option Value) : Prop where
  n_len : mg "len" = none
  n_min : mg "min" = none
  n_range : mg "range" = none
/-- the least multiple by the law's own look -/
structure spDue (vs : List V) (H : Hp) (Q : VK) (E : XK) : Prop where
  ex : ∃ (x a b : Addr) (ks : List (Str × Int)) (m : Nat) (c : Int) (as bs : List Int), vs = [.ref x, .ref a, .ref b] ∧ KindAt H x ks ∧ Right ks ∧ Best ks m ∧ Divisor (byL (ks.map (·.2)) m) m c ∧ c ≤ 8 ∧ H a = some (.lst (as.map V.int)) ∧ H b = some (.lst (bs.map V.int)) ∧ as.length ≤ 100 ∧ bs.length ≤ 100 ∧
    ∀ H', Same H H' → Q (valO (dueV (byL (ks.map (·.2)) m) m c (trimN as) (trimN bs))) H'
theorem eqvL_two (a b : List Int) : PyData.eqv (.list (a.map PyData.int)) (.list (b.map PyData.int)) = decide (a = b) := by
  rw [PyData.eqv]
  exact eqvAll_ints2
section
variable {P : Program} {w : World} {K : PySem.W.Frag} {mg : Str → Option Value} {base : Heap}
theorem ok_lessL {f f1 : Addr} {fd fd1 : FuncData} {k : Nat} (F : Fun K "_law_less" "_law_less" s_law_less f fd) (F__law_sum : Fun K "_law_sum" "_law_sum" s_law_sum f1 fd1) (b__law_sum : Binds K fd1 ["one", "other"] []) (g__law_sum : mg "_law_sum" = some (.ref f1)) (G__law_sum : FnOk P w K mg base CX0 2 f1 fd1 ["one", "other"] spSumX) : FnOk P w K mg base CX0 (k + 3) f fd ["one", "other"] spLessL := by
  refine F.ok sc_law_less (fun vs H Q E h => ?_) (fun cdv A outer s H vs Q E hr h => ?_)
  · obtain ⟨a, b, as, bs, rfl, _⟩ := h
    rfl
  · obtain ⟨a, b, as, bs, rfl, ha, hb, la, lb, q⟩ := h
    refine ⟨_, (pss_one (ps_ret (pe_call G__law_sum (hr.mono (by omega)) (by rfl) g__law_sum F__law_sum.kp b__law_sum .nil pass0 (pa_cons (pv 0) (pa_cons (pe_lc (own := [("factor", 2)]) (g := gName 2) rfl sc_law_less.nd (pi_list (pv 1)) (blkOk_by (own := [("factor", 2)]) (N := ["one", "other", "factor"]) (sc := defScope s_law_less) (by decide +kernel)) (fun _ _ _ _ _ => (pg_name (i := 2) sc_law_less.nd rfl (.inl rfl))) (fun _ _ _ _ _ => pts_nil) (fun _ _ _ _ _ => (pe_op op_sub pe_int (pv 2)))) pa_nil))))), ?_⟩
    clear G__law_sum
    refine ⟨_, rfl, _, rfl, b, rfl, ⟨_, .inl (.inl hb)⟩, fun N nN => ?_⟩
    refine lc_it (walk_list (xs := bs.map V.int)) (fun i H5 => Same H H5 ∧ H5 N = some (.lst ((negL (bs.take i)).map V.int))) ⟨same_upd nN, upd_same⟩ (fun i H5 _ h => .inl (.inl (h.1 _ _ hb))) ?_ ?_
    · rintro i z H5 H6 hi ⟨s5, hN⟩ ⟨rfl, ez⟩
      rw [List.length_map] at hi
      rw [List.getElem?_map, List.getElem?_eq_getElem hi] at ez
      obtain rfl : V.int bs[i] = z := Option.some.inj ez
      refine ⟨rfl, ?_⟩
      unfold tYes
      dsimp only
      rw [if_pos rfl]
      refine ⟨_, rfl, _, _, rfl, rfl, _, hN, small1000 (by rw [negL, List.length_map, List.length_map, List.length_take]; omega), same_at s5 nN, ?_⟩
      rw [upd_same, List.take_add_one, List.getElem?_eq_getElem hi, negL, negL, List.map_append, List.map_append]
      rfl
    rintro H5 ⟨s5, hN⟩
    rw [List.length_map, List.take_length] at hN
    exact ⟨a, N, as, negL bs, rfl, s5 _ _ ha, hN, la, by rw [negL, List.length_map]; exact lb, fun l H' s nl e => q l H' (s5.trans s) (s5.free nl) e⟩
theorem ok_due {f f1 f2 f3 f4 : Addr} {fd fd1 fd2 fd3 fd4 : FuncData} {k : Nat} (Fu : Fun K "_law_due" "_law_due" s_law_due f fd) (T : TxtDu mg)
    (D1 : Def P w K mg base "_law_trimmed" s_law_trimmed ["factors"] 1 (spLTrim K) f1 fd1) (D2 : Def P w K mg base "_law_less" s_law_less ["one", "other"] 3 spLessL f2 fd2) (D3 : Def P w K mg base "_law_by" Kn.s_law_by ["kind"] 1 Kn.spBy f3 fd3) (D4 : Def P w K mg base "_law_share" s_law_share ["factors", "by"] 2 spShareG f4 fd4) :
    FnOk P w K mg base CX0 (k + 4) f fd ["kind", "one", "other"] spDue := by
  have ⟨F__law_trimmed, b__law_trimmed, g__law_trimmed, G__law_trimmed⟩ := D1
  have ⟨F__law_less, b__law_less, g__law_less, G__law_less⟩ := D2
  have ⟨F__law_by, b__law_by, g__law_by, G__law_by⟩ := D3
  have ⟨F__law_share, b__law_share, g__law_share, G__law_share⟩ := D4
  refine Fu.ok sc_law_due (fun vs H Q E h => ?_) (fun cdv A outer s H vs Q E hr h => ?_)
  · obtain ⟨x, a, b, ks, m, c, as, bs, rfl, _⟩ := h
    rfl
  · obtain ⟨x, a, b, ks, m, c, as, bs, rfl, hk, rk, bm, dv, c8, ha, hb, la, lb, q⟩ := h
    refine ⟨_, (pss_cons (ps_if (pt_cmpR (op_eqD hr.units) (pe_call G__law_trimmed (hr.mono (by omega)) (by rfl) g__law_trimmed F__law_trimmed.kp b__law_trimmed .nil pass0 (pa_cons (pv 1) pa_nil)) (pe_call G__law_trimmed (hr.mono (by omega)) (by rfl) g__law_trimmed F__law_trimmed.kp b__law_trimmed .nil pass0 (pa_cons (pv 2) pa_nil)) (nomark _))
   (pss_one (ps_ret pe_int))
   pss_nil)
  (pss_cons (ps_if (pt_cmpR op_lt (pe_callB (call_min2 (by rfl)) (by rfl) T.n_min (by decide +kernel) (pa_cons (pe_callB call_len_seq (by rfl) T.n_len (by decide +kernel) (pa_cons (pe_call G__law_trimmed (hr.mono (by omega)) (by rfl) g__law_trimmed F__law_trimmed.kp b__law_trimmed .nil pass0 (pa_cons (pv 1) pa_nil)) pa_nil)) (pa_cons (pe_callB call_len_seq (by rfl) T.n_len (by decide +kernel) (pa_cons (pe_call G__law_trimmed (hr.mono (by omega)) (by rfl) g__law_trimmed F__law_trimmed.kp b__law_trimmed .nil pass0 (pa_cons (pv 2) pa_nil)) pa_nil)) pa_nil))) pe_int (nomark _))
   (pss_one (ps_ret pe_non))
   pss_nil)
  (pss_cons (ps_for PassesOwn.never rfl (pi_range2 (by rfl) T.n_range (pa_cons pe_int (pa_cons pe_int pa_nil))) (pg_name (i := 3) sc_law_due.nd rfl (.inr rfl))
   (pss_one (ps_if (pt_cmpR op_notN (pe_call G__law_share (hr.mono (by omega)) (by rfl) g__law_share F__law_share.kp b__law_share .nil pass0 (pa_cons (pe_lc (own := [("factor", 4)]) (g := gName 4) rfl sc_law_due.nd (pi_list (pe_call G__law_less (hr.mono (by omega)) (by rfl) g__law_less F__law_less.kp b__law_less .nil pass0 (pa_cons (pv 1) (pa_cons (pv 2) pa_nil)))) (blkOk_by (own := [("factor", 4)]) (N := ["kind", "one", "other", "times", "factor"]) (sc := defScope s_law_due) (by decide +kernel)) (fun _ _ _ _ _ => (pg_name (i := 4) sc_law_due.nd rfl (.inl rfl))) (fun _ _ _ _ _ => pts_nil) (fun _ _ _ _ _ => (pe_op op_mul (pv 3) (pv 4)))) (pa_cons (pe_call G__law_by (hr.mono (by omega)) (by rfl) g__law_by F__law_by.kp b__law_by .nil pass0 (pa_cons (pv 0) pa_nil)) pa_nil))) pe_non (nomark _))
   (pss_one (ps_ret (pv 3)))
   pss_nil)))
  (pss_one (ps_ret pe_non))))), ?_⟩
    clear G__law_trimmed G__law_less G__law_by G__law_share D1 D2 D3 D4
    generalize hF : byL (ks.map (·.2)) m = F at dv q
    refine ⟨_, rfl, ⟨a, as, rfl, .inl (.inl ha), by omega, fun l1 H1 s1 n1 e1 => ?_⟩⟩
    refine ⟨_, rfl, ⟨b, bs, rfl, .inl (.inl (s1 _ _ hb)), by omega, fun l2 H2 s2 n2 e2 => ?_⟩⟩
    have e12 := s2 _ _ e1
    have s12 := s1.trans s2
    refine ⟨_, _, .lst (.inl (.inl e12)) (dp_ints _), .lst (.inl (.inl e2)) (dp_ints _), shL_intsU _, shL_intsU _, _, rfl, ?_⟩
    rw [eqvL_two]
    by_cases e : trimN as = trimN bs
    · rw [decide_eq_true e]
      refine iteT ?_
      have q := q H2 s12
      rw [dueV, if_pos e] at q
      exact q
    rw [decide_eq_false e]
    refine iteF ?_
    refine ⟨_, rfl, ⟨a, as, rfl, .inl (.inl (s12 _ _ ha)), by omega, fun l3 H3 s3 n3 e3 => ?_⟩⟩
    refine ⟨l3, _, rfl, .inl (.inl (.inl e3)), ?_⟩
    refine ⟨_, rfl, ⟨b, bs, rfl, .inl (.inl ((s12.trans s3) _ _ hb)), by omega, fun l4 H4 s4 n4 e4 => ?_⟩⟩
    refine ⟨l4, _, rfl, .inl (.inl (.inl e4)), ?_⟩
    have s14 := (s12.trans s3).trans s4
    refine ⟨_, _, rfl, ?_⟩
    rw [List.length_map, List.length_map]
    refine ⟨_, _, rfl, rfl, _, rfl, ?_⟩
    by_cases lt : (trimN as).length < 2 ∨ (trimN bs).length < 2
    · rw [decide_eq_true (by split <;> omega)]
      refine iteT ?_
      have q := q H4 s14
      rw [dueV, if_neg e, if_pos lt] at q
      exact q
    rw [decide_eq_false (by split <;> omega)]
    refine iteF ?_
    refine ⟨_, _, rfl, ⟨by decide, by decide, by decide, by decide⟩, ?_⟩
    have ln : (trimN (addL as (negL bs))).length ≤ 200 := Nat.le_trans (trimN_len _) (by rw [addL_len]; unfold negL; rw [List.length_map]; omega)
    have eo : ordV F (subL (trimN as) (trimN bs)) m c = ordV F (trimN (addL as (negL bs))) m c := ord_same dv.lead (Cg.of fun k => by
      show (addL (trimN as) (negL (trimN bs))).getD k 0 = _
      rw [getD_trim, getD_addL, getD_addL, getD_neg, getD_neg, getD_trim, getD_trim])
    rw [dueV, if_neg e, if_neg lt, eo] at q
    obtain ⟨ls, hls⟩ : ∃ ls, ls = trimN (addL as (negL bs)) := ⟨_, rfl⟩
    rw [← hls] at ln q
    obtain ⟨o1, o2⟩ := ord_spec (fs := ls) dv.lead
    have o8 := ord_le (fs := ls) dv.lead c8
    refine for_it (walk_range (lo := 1) (n := 12)) (fun i σ H' => Same H H' ∧ (∃ v3 : Option V, σ = [some (.ref x), some (.ref a), some (.ref b), v3, none]) ∧ ∀ t : Nat, 1 ≤ t → t ≤ i → ¬ Zm F ls t) ⟨s14, ⟨none, rfl⟩, fun t h1 h2 => by omega⟩ (fun _ _ _ _ _ => True.intro) ?_ ?_
    · rintro i y σ H5 H6 hi ⟨s5, ⟨v3, rfl⟩, inv⟩ ⟨rfl, ez⟩
      obtain rfl : y = V.int ((i + 1 : Nat) : Int) := by
        rw [show ((i + 1 : Nat) : Int) = 1 + (i : Int) by omega]
        exact ez
      refine ⟨_, rfl, _, rfl, ⟨a, b, as, bs, rfl, s5 _ _ ha, s5 _ _ hb, by omega, by omega, fun L H7 s7 nL eL => ?_⟩⟩
      have eL : H7 L = some (.lst (ls.map V.int)) := by rw [hls]; exact eL
      refine ⟨L, rfl, ⟨_, .inl (.inl eL)⟩, fun N nN => ?_⟩
      refine lc_it (walk_list (xs := ls.map V.int)) (fun j H8 => Same H7 H8 ∧ H8 N = some (.lst (((ls.take j).map fun z => ((i + 1 : Nat) : Int) * z).map V.int))) ⟨same_upd nN, upd_same⟩ (fun j H8 _ h => .inl (.inl (h.1 _ _ eL))) ?_ ?_
      · rintro j z H8 H9 hj ⟨s8, hN⟩ ⟨rfl, ez⟩
        rw [List.length_map] at hj
        rw [List.getElem?_map, List.getElem?_eq_getElem hj] at ez
        obtain rfl : V.int ls[j] = z := Option.some.inj ez
        refine ⟨rfl, ?_⟩
        unfold tYes
        dsimp only
        rw [if_pos rfl]
        refine ⟨_, rfl, _, rfl, _, _, rfl, rfl, .inl ⟨by omega, by omega⟩, _, hN, small1000 (by rw [List.length_map, List.length_map, List.length_take]; omega), same_at s8 nN, ?_⟩
        rw [upd_same, List.take_add_one, List.getElem?_eq_getElem hj, List.map_append, List.map_append]
        rfl
      rintro H8 ⟨s8, eN⟩
      rw [List.length_map, List.take_length] at eN
      have s58 := (s5.trans s7).trans s8
      refine ⟨_, rfl, ⟨x, ks, m, rfl, hk.same s58, rk, bm, fun bl H9 s9 nbl ebl => ?_⟩⟩
      rw [hF] at ebl
      have s59 := s58.trans s9
      refine ⟨N, bl, ls.map fun z => ((i + 1 : Nat) : Int) * z, F, m, c, rfl, s9 _ _ eN, ebl, dv, by rw [List.length_map]; omega, fun y l HA sA => ⟨rfl, _, rfl, iteT ?_⟩, fun y HA sA => ⟨rfl, _, rfl, iteF ?_⟩⟩
      · have zy : Zm F ls (i + 1) := (zm_iff F ls (i + 1)).mp y
        have q := q HA (s59.trans sA)
        refine ⟨_, rfl, ?_⟩
        cases ho : ordV F ls m c with
        | none => exact absurd zy (o1 ho (i + 1) (by omega))
        | some o =>
          rw [ho] at q
          obtain ⟨p1, p2, p3⟩ := o2 o ho
          have le := Nat.le_of_dvd (by omega) ((p3 (i + 1)).mp zy)
          have e : o = i + 1 := by
            rcases Nat.lt_or_ge i o with g1 | g1
            · omega
            · exact absurd ((p3 o).mpr (Nat.dvd_refl o)) (inv o p1 g1)
          rw [e] at q
          exact q
      · refine ⟨s59.trans sA, ⟨_, rfl⟩, fun t h1 h2 => ?_⟩
        rcases Nat.lt_or_ge i t with g1 | g1
        · rw [show t = i + 1 by omega]
          exact fun z => y ((zm_iff F ls (i + 1)).mpr z)
        · exact inv t h1 g1
    · rintro σ H5 ⟨s5, ⟨v3, rfl⟩, inv⟩
      have q := q H5 s5
      cases ho : ordV F ls m c with
      | none =>
        rw [ho] at q
        exact q
      | some o =>
        obtain ⟨p1, p2, p3⟩ := o2 o ho
        exact absurd ((p3 o).mpr (Nat.dvd_refl o)) (inv o p1 (by have := (o8 o ho).2; show o ≤ 12; omega))
end
end My

namespace My
open PySem PySem.Spec PyProof.Rows L2
open Kn (KindAt Right Best byL by_divisor right_best)
abbrev s_law_pair : Stmt := topS 66
theorem sc_law_pair : FnScope ["pot", "kind", "by", "whole", "plain", "share", "step", "base", "one", "size", "factor", "turn"] ["pot", "kind"] (defScope s_law_pair) := ⟨rfl, rfl, rfl, by decide +kernel, rfl, by decide +kernel, by decide +kernel⟩
structure TxtPa (mg : Str → Option Value) : Prop where
  n_max : mg "max" = none
  n_range : mg "range" = none
/-- two polynomials without negative factors that differ by a multiple of what is left of F -/
structure spPair (vs : List V) (H : Hp) (Q : VK) (E : XK) : Prop where
  ex : ∃ (p c a : Addr) (ks : List (Str × Int)), vs = [.ref p, .ref a] ∧ Pot H p c ∧ KindAt H a ks ∧ Right ks ∧ ∀ (t l1 l2 : Addr) (as bs : List Int) (H' : Hp), Pot H' p c → But p H H' → H' t = some (.tup [.ref l1, .ref l2]) → H l1 = none → H l2 = none → H' l1 = some (.lst (as.map V.int)) → H' l2 = some (.lst (bs.map V.int)) →
    (∀ n ∈ as, 0 ≤ n) → (∀ n ∈ bs, 0 ≤ n) → as.length ≤ 20 → bs.length ≤ 20 → LtE 60 as → LtE 60 bs → Q (.ref t) H'
theorem nn_of {ns : List Int} (h : ∀ k, 0 ≤ ns.getD k 0) : ∀ n ∈ ns, 0 ≤ n := fun n hn => by
  obtain ⟨k, hk, e⟩ := List.mem_iff_getElem.mp hn
  have := h k
  rwa [List.getD_eq_getElem?_getD, List.getElem?_eq_getElem hk, Option.getD_some, e] at this
theorem ediv_absI (z : Int) {g : Int} (h : 1 ≤ g) : (z / g).natAbs ≤ z.natAbs := by
  have e := ediv_abs z g.toNat
  rwa [show ((g.toNat : Nat) : Int) = g by omega] at e
section
variable {P : Program} {w : World} {K : PySem.W.Frag} {mg : Str → Option Value} {base : Heap}
theorem ok_pair {f f1 f2 f3 f4 f5 f6 : Addr} {fd fd1 fd2 fd3 fd4 fd5 fd6 : FuncData} {k : Nat} (Fu : Fun K "_law_pair" "_law_pair" s_law_pair f fd) (T : TxtPa mg)
    (D1 : Def P w K mg base "_law_by" Kn.s_law_by ["kind"] 1 Kn.spBy f1 fd1) (D2 : Def P w K mg base "_law_pick" s_law_pick ["pot", "items"] 3 (spPick K) f2 fd2) (D3 : Def P w K mg base "_law_below" s_law_below ["pot", "bound"] 2 spBelow f3 fd3) (D4 : Def P w K mg base "_law_times" s_law_times ["one", "other"] 2 spMulX f4 fd4)
    (D5 : Def P w K mg base "_law_some_factors" s_law_some_factors ["pot", "many", "most"] 4 spSome f5 fd5) (D6 : Def P w K mg base "_law_sum" s_law_sum ["one", "other"] 2 spSumX f6 fd6) :
    FnOk P w K mg base CX0 (k + 5) f fd ["pot", "kind"] spPair := by
  have ⟨F__law_by, b__law_by, g__law_by, G__law_by⟩ := D1
  have ⟨F__law_pick, b__law_pick, g__law_pick, G__law_pick⟩ := D2
  have ⟨F__law_below, b__law_below, g__law_below, G__law_below⟩ := D3
  have ⟨F__law_times, b__law_times, g__law_times, G__law_times⟩ := D4
  have ⟨F__law_some_factors, b__law_some_factors, g__law_some_factors, G__law_some_factors⟩ := D5
  have ⟨F__law_sum, b__law_sum, g__law_sum, G__law_sum⟩ := D6
  refine Fu.ok sc_law_pair (fun vs H Q E h => ?_) (fun cdv A outer s H vs Q E hr h => ?_)
  · obtain ⟨p, c, a, ks, rfl, _⟩ := h
    rfl
  · obtain ⟨p, c, a, ks, rfl, hP, hk, rk, q⟩ := h
    refine ⟨_, (pss_cons (ps_set (i := 2) sc_law_pair.nd rfl (.inr rfl) (pe_call G__law_by (hr.mono (by omega)) (by rfl) g__law_by F__law_by.kp b__law_by .nil pass0 (pa_cons (pv 1) pa_nil)))
  (pss_cons (ps_set (i := 3) sc_law_pair.nd rfl (.inr rfl) (pe_lc (own := [("size", 9)]) (g := gName 9) rfl sc_law_pair.nd (pi_tup (pe_tup (pa_cons pe_int (pa_cons pe_int (pa_cons pe_int pa_nil))))) (blkOk_by (own := [("size", 9)]) (N := ["pot", "kind", "by", "whole", "plain", "share", "step", "base", "one", "size", "factor", "turn"]) (sc := defScope s_law_pair) (by decide +kernel)) (fun _ _ _ _ _ => (pg_name (i := 9) sc_law_pair.nd rfl (.inr rfl))) (fun _ _ _ _ _ => (pts_one (pt_cmpR (op_eqNil hr.units) (pe_lc (own := [("factor", 10)]) (g := gName 10) rfl sc_law_pair.nd (pi_listK (K := K) rfl (pv 2)) (blkOk_by (own := [("factor", 10)]) (N := ["pot", "kind", "by", "whole", "plain", "share", "step", "base", "one", "size", "factor", "turn"]) (sc := { kind := .function, names := [(".0", .local), ("size", .cell), ("by", .cell)], isGenerator := false, isCoroutine := false }) (by decide +kernel)) (fun _ _ _ _ _ => (pg_name (i := 10) sc_law_pair.nd rfl (.inl rfl))) (fun _ _ _ _ _ => (pts_one (pt_cmpR op_ne (pe_op op_mul (pe_op op_fdiv (pv 10) (pv 9)) (pv 9)) (pv 10) (nomark _)))) (fun _ _ _ _ _ => (pv 10))) (pe_lst pa_nil) (nomark _)))) (fun _ _ _ _ _ => (pv 9))))
  (pss_cons (ps_setLc (i := 4) (own := [("factor", 10)]) (g := gName 10) rfl sc_law_pair.nd rfl rfl (sw_true rfl rfl rfl (by decide +kernel)) (pi_list (pv 2)) (blkOk_by (own := [("factor", 10)]) (N := ["pot", "kind", "by", "whole", "plain", "share", "step", "base", "one", "size", "factor", "turn"]) (sc := defScope s_law_pair) (by decide +kernel)) (fun _ _ _ _ _ => (pg_name (i := 10) sc_law_pair.nd rfl (.inl rfl))) (fun _ _ _ _ _ => pts_nil) (fun _ _ _ _ _ => (pe_op op_fdiv (pv 10) (pe_ix (r := rIxL K) ix_list (pv 3) (pe_un un_neg pe_int) (fun _ _ => rfl)))))
  (pss_cons (ps_setLc (i := 5) (own := [("turn", 11)]) (g := gName 11) rfl sc_law_pair.nd rfl rfl (sw_true rfl rfl rfl (by decide +kernel)) (pi_range1 (by rfl) T.n_range (pa_cons (pe_call G__law_below (hr.mono (by omega)) (by rfl) g__law_below F__law_below.kp b__law_below .nil pass0 (pa_cons (pv 0) (pa_cons pe_int pa_nil))) pa_nil)) (blkOk_by (own := [("turn", 11)]) (N := ["pot", "kind", "by", "whole", "plain", "share", "step", "base", "one", "size", "factor", "turn"]) (sc := defScope s_law_pair) (by decide +kernel)) (fun _ _ _ _ _ => (pg_name (i := 11) sc_law_pair.nd rfl (.inl rfl))) (fun _ _ _ _ _ => pts_nil) (fun _ _ _ _ _ => (pe_call G__law_pick (hr.mono (by omega)) (by rfl) g__law_pick F__law_pick.kp b__law_pick .nil pass0 (pa_cons (pv 0) (pa_cons (pe_lst (pa_cons pe_int (pa_cons pe_int (pa_cons (pe_op op_sub pe_int pe_int) (pa_cons pe_int (pa_cons pe_int (pa_cons (pe_op op_sub pe_int (pe_call G__law_below (hr.mono (by omega)) (by rfl) g__law_below F__law_below.kp b__law_below .nil pass0 (pa_cons (pv 0) (pa_cons pe_int pa_nil)))) pa_nil))))))) pa_nil)))))
  (pss_cons (ps_par (i := 6) (j := 7) (by rfl) sc_law_pair.nd rfl rfl (by decide) rfl rfl (pa_cons (pe_call G__law_times (hr.mono (by omega)) (by rfl) g__law_times F__law_times.kp b__law_times .nil pass0 (pa_cons (pv 4) (pa_cons (pv 5) pa_nil))) (pa_cons (pe_call G__law_some_factors (hr.mono (by omega)) (by rfl) g__law_some_factors F__law_some_factors.kp b__law_some_factors .nil pass0 (pa_cons (pv 0) (pa_cons pe_int (pa_cons pe_int pa_nil)))) pa_nil)) (by rfl))
  (pss_cons (ps_set (i := 8) sc_law_pair.nd rfl (.inl rfl) (pe_call G__law_sum (hr.mono (by omega)) (by rfl) g__law_sum F__law_sum.kp b__law_sum .nil pass0 (pa_cons (pv 7) (pa_cons (pe_lc (own := [("factor", 10)]) (g := gName 10) rfl sc_law_pair.nd (pi_list (pv 6)) (blkOk_by (own := [("factor", 10)]) (N := ["pot", "kind", "by", "whole", "plain", "share", "step", "base", "one", "size", "factor", "turn"]) (sc := defScope s_law_pair) (by decide +kernel)) (fun _ _ _ _ _ => (pg_name (i := 10) sc_law_pair.nd rfl (.inl rfl))) (fun _ _ _ _ _ => pts_nil) (fun _ _ _ _ _ => (pe_callB (call_max2 (by rfl)) (by rfl) T.n_max (by decide +kernel) (pa_cons pe_int (pa_cons (pe_op op_sub pe_int (pv 10)) pa_nil))))) pa_nil))))
  (pss_one (ps_ret (pe_tup (pa_cons (pv 8) (pa_cons (pe_call G__law_sum (hr.mono (by omega)) (by rfl) g__law_sum F__law_sum.kp b__law_sum .nil pass0 (pa_cons (pv 8) (pa_cons (pv 6) pa_nil))) pa_nil))))))))))), ?_⟩
    clear G__law_by G__law_pick G__law_below G__law_times G__law_some_factors G__law_sum D1 D2 D3 D4 D5 D6
    obtain ⟨m, bm⟩ := right_best rk
    obtain ⟨cc, dv, c8⟩ := by_divisor rk bm
    have lF : (byL (ks.map (·.2)) m).length ≤ 5 := by rw [dv.lead.len]; have := bm.m4; omega
    have bF : ∀ z ∈ byL (ks.map (·.2)) m, z.natAbs < 1000001 := fun z hz => by
      have := dv.each z hz
      omega
    refine ⟨_, rfl, ⟨a, ks, m, rfl, hk, rk, bm, fun bl H1 s1 nbl ebl => ?_⟩⟩
    generalize byL (ks.map (·.2)) m = F at *
    have hP1 := hP.same s1
    refine ⟨by show 3 ≤ sizeLine; decide, fun tp ntp => ?_⟩
    have s2 := same_upd (o := .tup [V.int 1, V.int 2, V.int 3]) ntp
    have et : (upd H1 tp (.tup [V.int 1, V.int 2, V.int 3])) tp = some (.tup [V.int 1, V.int 2, V.int 3]) := upd_same
    generalize upd H1 tp (.tup [V.int 1, V.int 2, V.int 3]) = H2 at s2 et ⊢
    have ebl2 := s2 _ _ ebl
    refine ⟨tp, rfl, ⟨_, .inl (.inl et)⟩, fun W nW => ?_⟩
    refine lc_it (walk_tup (xs := [V.int 1, V.int 2, V.int 3])) (fun i H5 => Same H2 H5 ∧ ∃ ws : List Int, H5 W = some (.lst (ws.map V.int)) ∧ (∀ z ∈ ws, 1 ≤ z ∧ z ≤ 3) ∧ ws.length ≤ i ∧ (1 ≤ i → ws ≠ [])) ⟨same_upd nW, [], upd_same, (fun z hz => nomatch hz), Nat.le_refl _, fun h => absurd h (by decide)⟩ (fun i H5 _ h => .inl (.inl (h.1 _ _ et))) ?_ ?_
    · rintro i z H5 H6 hi ⟨s5, ws, hW, w1, w2, w3⟩ ⟨rfl, ez⟩
      have hi3 : i < 3 := hi
      obtain ⟨zi, rfl, z1, z3, z0⟩ : ∃ zi : Int, z = .int zi ∧ 1 ≤ zi ∧ zi ≤ 3 ∧ (i = 0 → zi = 1) := by
        match i, ez, hi3 with
        | 0, ez, _ => exact ⟨1, (Option.some.inj ez).symm, by decide, by decide, fun _ => rfl⟩
        | 1, ez, _ => exact ⟨2, (Option.some.inj ez).symm, by decide, by decide, fun h => absurd h (by decide)⟩
        | 2, ez, _ => exact ⟨3, (Option.some.inj ez).symm, by decide, by decide, fun h => absurd h (by decide)⟩
      refine ⟨rfl, ?_⟩
      have ebl5 := s5 _ _ ebl2
      refine ⟨_, rfl, bl, rfl, ⟨_, .inl (.inl ebl5)⟩, fun D nD => ?_⟩
      refine lc_it (walk_list (xs := F.map V.int)) (fun j H7 => Same H6 H7 ∧ ∃ ys : List V, H7 D = some (.lst ys) ∧ ys.length ≤ j ∧ (zi = 1 → ys = [])) ⟨same_upd nD, [], upd_same, Nat.le_refl _, fun _ => rfl⟩ (fun j H7 _ h => .inl (.inl (h.1 _ _ ebl5))) ?_ ?_
      · rintro j y H7 H8 hj ⟨s7, ys, hD, y1, y2⟩ ⟨rfl, ey⟩
        rw [List.length_map] at hj
        rw [List.getElem?_map, List.getElem?_eq_getElem hj] at ey
        obtain rfl : V.int F[j] = y := Option.some.inj ey
        have bz := bF _ (List.getElem_mem hj)
        have bq : (F[j] / zi).natAbs ≤ F[j].natAbs := ediv_absI _ z1
        refine ⟨rfl, ?_⟩
        refine ⟨_, rfl, _, rfl, _, _, rfl, rfl, ⟨by omega, by omega⟩, _, rfl, _, _, rfl, rfl, .inl ⟨by omega, by omega⟩, _, rfl, rfl, !decide (V.int (F[j] / zi * zi) = V.int F[j]), rfl, ?_⟩
        by_cases e : F[j] / zi * zi = F[j]
        · dsimp only
          rw [if_neg (show ¬ (!decide (V.int (F[j] / zi * zi) = V.int F[j])) = true by rw [e]; simp)]
          exact ⟨s7, ys, hD, by omega, y2⟩
        · dsimp only
          rw [if_pos (show (!decide (V.int (F[j] / zi * zi) = V.int F[j])) = true by
            rw [Bool.not_eq_true', decide_eq_false_iff_not]
            intro z
            exact e (V.int.inj z))]
          refine ⟨_, rfl, ys, hD, small1000 (by omega), same_at s7 nD, ys ++ [V.int F[j]], upd_same, by rw [List.length_append, List.length_singleton]; omega, fun o => absurd ?_ e⟩
          rw [o, Int.ediv_one, Int.mul_one]
      rintro H7 ⟨s7, ys, eD, y1, y2⟩
      refine ⟨by show 0 ≤ sizeLine; decide, fun em nem => ?_⟩
      have sE := same_upd (o := .lst []) nem
      have eE : (upd H7 em (.lst [])) em = some (.lst []) := upd_same
      have s57 := s7.trans sE
      refine ⟨D, em, ys, rfl, rfl, sE _ _ eD, eE, _, rfl, ?_⟩
      have hW7 := s57 _ _ hW
      have s5E := s5.trans s57
      by_cases em0 : ys.isEmpty = true
      · dsimp only
        rw [if_pos em0]
        refine ⟨_, rfl, _, hW7, small1000 (by rw [List.length_map]; omega), same_at s5E nW, ws ++ [zi], ?_, ?_, ?_, ?_⟩
        · rw [upd_same, List.map_append]
          rfl
        · intro z hz
          rcases List.mem_append.mp hz with hz | hz
          · exact w1 z hz
          · rw [List.mem_singleton.mp hz]
            exact ⟨z1, z3⟩
        · rw [List.length_append, List.length_singleton]
          omega
        · intro _ z
          cases ws <;> cases z
      · dsimp only
        rw [if_neg em0]
        refine ⟨s5E, ws, hW7, w1, by omega, fun _ => ?_⟩
        rcases Nat.eq_zero_or_pos i with g | g
        · rw [y2 (z0 g)] at em0
          exact absurd rfl em0
        · exact w3 g
    rintro H5 ⟨s5, ws, eW, w1, w2, w3⟩
    have w0 : 0 < ws.length := by
      have := w3 (by decide)
      cases ws with
      | nil => exact absurd rfl this
      | cons _ _ => exact Nat.succ_pos _
    obtain ⟨wl, hwl⟩ : ∃ wl, wl = ws.getD (ws.length - 1) 0 := ⟨_, rfl⟩
    have wb : 1 ≤ wl ∧ wl ≤ 3 := by
      rw [hwl, List.getD_eq_getElem?_getD, List.getElem?_eq_getElem (by omega)]
      exact w1 _ (List.getElem_mem _)
    have s15 := s2.trans s5
    have hP5 := hP1.same s15
    have ebl5 := s5 _ _ ebl2
    have hb1 := s1.trans s15
    clear s2 s5 et ebl2 ntp nW ebl
    -- plain
    refine ⟨_, rfl, bl, rfl, ⟨_, .inl (.inl ebl5)⟩, fun N nN => ?_⟩
    refine lc_it (walk_list (xs := F.map V.int)) (fun i H6 => Same H5 H6 ∧ H6 N = some (.lst (((F.take i).map fun z => z / wl).map V.int))) ⟨same_upd nN, upd_same⟩ (fun i H6 _ h => .inl (.inl (h.1 _ _ ebl5))) ?_ ?_
    · rintro i z H6 H7 hi ⟨s6, hN⟩ ⟨rfl, ez⟩
      rw [List.length_map] at hi
      rw [List.getElem?_map, List.getElem?_eq_getElem hi] at ez
      obtain rfl : V.int F[i] = z := Option.some.inj ez
      refine ⟨rfl, ?_⟩
      unfold tYes
      dsimp only
      rw [if_pos rfl]
      have gl : atI (ws.map V.int) (-1) = some (V.int wl) := by
        rw [hwl]
        exact get_last w0
      have bz := bF _ (List.getElem_mem hi)
      refine ⟨_, rfl, _, rfl, _, rfl, W, _, _, _, rfl, rfl, .inl (.inl (s6 _ _ eW)), gl, _, _, rfl, rfl, ⟨by omega, by omega⟩, _, hN, small1000 (by rw [List.length_map, List.length_map, List.length_take]; omega), same_at s6 nN, ?_⟩
      rw [upd_same, List.take_add_one, List.getElem?_eq_getElem hi, List.map_append, List.map_append]
      rfl
    rintro H6 ⟨s6, eN⟩
    rw [List.length_map, List.take_length] at eN
    have lP : (F.map fun z => z / wl).length ≤ 5 := by rw [List.length_map]; exact lF
    have ltP : LtE 20 (F.map fun z => z / wl) := LtE.of fun z hz => by
      obtain ⟨y, hy, rfl⟩ := List.mem_map.mp hz
      have h1 := bF y hy
      have h2 := ediv_absI y wb.1
      have h3 : (1000001 : Nat) < 2 ^ 20 := by decide
      omega
    generalize (F.map fun z => z / wl) = pls at eN lP ltP
    have hP6 := hP5.same s6
    have nNp : N ≠ p := pot_at hP5 nN
    have nNH : H N = none := hb1.free nN
    obtain ⟨xs0, ep0⟩ := hP.lst
    have b6 : But p H H6 := But.of ((hb1.trans s6) _ _ ep0) (hb1.trans s6)
    clear ebl5 hb1 s6 eW w1 w2 w3 w0 hwl wb s15 nN hP5 s1
    -- share
    refine ⟨_, rfl, p, c, _, rfl, hP6, by decide, by decide, fun v H7 v0 v1 hP7 b7 => ?_⟩
    obtain ⟨n, rfl⟩ : ∃ n : Nat, v = (n : Int) := ⟨v.toNat, by omega⟩
    have n3 : n ≤ 3 := by omega
    refine ⟨_, rfl, by omega, by omega, fun S nS => ?_⟩
    have nSp : S ≠ p := pot_at hP7 nS
    have nS6 : H6 S = none := b7.free nS
    have ncS : c ≠ S := by
      obtain ⟨_, _, _, _, _, h2, _⟩ := id hP7
      exact ne_of_none h2 nS
    refine lc_it (walk_range (n := n)) (fun i H5 => But p H6 H5 ∧ Pot H5 p c ∧ ∃ zs : List Int, H5 S = some (.lst (zs.map V.int)) ∧ zs.length = i ∧ ∀ z ∈ zs, z.natAbs < 2 ^ 3) ⟨b7.same (same_upd nS), hP7.same (same_upd nS), ([] : List Int), upd_same, rfl, (fun z hz => nomatch hz)⟩ (fun _ _ _ _ => True.intro) ?_ ?_
    · rintro i z H5 H8 hi ⟨b8, hP8, zs, hS, lz, bz⟩ ⟨rfl, ez⟩
      refine ⟨rfl, ?_⟩
      unfold tYes
      dsimp only
      rw [if_pos rfl]
      refine ⟨_, rfl, _, _, rfl, rfl, _, rfl, p, c, _, rfl, hP8, by decide, by decide, fun u H9 u0 u1 hP9 b9 => ?_⟩
      have u2 : u < 9 := u1
      have hS9 := b9.1 _ _ hS nSp
      refine ⟨_, _, rfl, rfl, ⟨by show 6 ≤ sizeLine; decide, fun L nL => ?_⟩⟩
      dsimp only
      have sL := same_upd (o := .lst [V.int 0, V.int 1, V.int (0 - 1), V.int 2, V.int 3, V.int (4 - u)]) nL
      have hL : (upd H9 L (.lst [V.int 0, V.int 1, V.int (0 - 1), V.int 2, V.int 3, V.int (4 - u)])) L = some (.lst [V.int 0, V.int 1, V.int (0 - 1), V.int 2, V.int 3, V.int (4 - u)]) := upd_same
      have npL : L ≠ p := pot_at hP9 nL
      have hPA := hP9.same sL
      have bA := (b8.trans b9).same sL
      have hSA := sL _ _ hS9
      generalize upd H9 L (.lst [V.int 0, V.int 1, V.int (0 - 1), V.int 2, V.int 3, V.int (4 - u)]) = HA at sL hL hPA bA hSA ⊢
      refine ⟨p, c, L, _, rfl, hPA, .inl (.inl hL), (fun z => nomatch z), by show 6 < 1073741824; decide, fun H' hb => .inl (.inl (hb.1 _ _ hL npL)), fun x HB hx hPB bB => ?_⟩
      have hSB := bB.1 _ _ hSA nSp
      obtain ⟨xi, rfl, x1⟩ : ∃ xi : Int, x = .int xi ∧ xi.natAbs < 2 ^ 3 := by
        simp only [List.mem_cons, List.not_mem_nil, or_false] at hx
        rcases hx with rfl | rfl | rfl | rfl | rfl | rfl
        · exact ⟨_, rfl, by decide⟩
        · exact ⟨_, rfl, by decide⟩
        · exact ⟨_, rfl, by decide⟩
        · exact ⟨_, rfl, by decide⟩
        · exact ⟨_, rfl, by decide⟩
        · exact ⟨_, rfl, by show (4 - u).natAbs < 8; omega⟩
      refine ⟨_, hSB, small1000 (by rw [List.length_map]; omega), (bA.trans bB).set nS6, hPB.upd (Ne.symm nSp) ncS, zs ++ [xi], ?_, by rw [List.length_append, lz]; rfl, ?_⟩
      · rw [upd_same, List.map_append]
        rfl
      · intro z hz
        rcases List.mem_append.mp hz with hz | hz
        · exact bz z hz
        · rw [List.mem_singleton.mp hz]
          exact x1
    rintro H8 ⟨b8, hP8, zs, eS, lz, bz⟩
    have ltS : LtE 3 zs := LtE.of bz
    have eN8 := b8.1 _ _ eN nNp
    have b68 := b6.trans b8
    clear b6 b8 b7 eN bz
    -- step, base
    refine ⟨_, rfl, _, rfl, ⟨N, S, pls, zs, rfl, eN8, eS, ltP.big (by decide) (by omega), ltS.big (by decide) (by omega), fun st H9 s9 nst est => ?_⟩⟩
    have ltT : LtE 40 (trimN (mulL pls zs)) := (LtE.trim (ltP.mul ltS (by omega))).mono (by decide)
    have lT : (trimN (mulL pls zs)).length ≤ 8 := Nat.le_trans (trimN_len _) (by rw [mul_len]; omega)
    generalize trimN (mulL pls zs) = ts at est ltT lT
    have hP9 := hP8.same s9
    have b69 := b68.same s9
    have nstp : st ≠ p := pot_at hP8 nst
    refine ⟨_, rfl, ⟨p, c, 5, 9, rfl, hP9, by decide, by decide, by decide, fun ba bs HA nba hPA bA eba lb bb => ?_⟩⟩
    have estA := bA.1 _ _ est nstp
    have b6A := b69.trans bA
    have nbap : ba ≠ p := pot_at hP9 nba
    have ltB : LtE 4 bs := LtE.of fun z hz => by
      have := bb z hz
      have : (2 : Nat) ^ 4 = 16 := rfl
      omega
    clear b68 b69 bA est hP9 s9 hP8 eN8 eS
    refine ⟨_, _, rfl, ?_⟩
    -- one
    refine ⟨_, rfl, _, rfl, st, rfl, ⟨_, .inl (.inl estA)⟩, fun M nM => ?_⟩
    refine lc_it (walk_list (xs := ts.map V.int)) (fun i H5 => Same HA H5 ∧ H5 M = some (.lst (((ts.take i).map fun z => if (0 : Int) < 0 - z then 0 - z else 0).map V.int))) ⟨same_upd nM, upd_same⟩ (fun i H5 _ h => .inl (.inl (h.1 _ _ estA))) ?_ ?_
    · rintro i z H5 HB hi ⟨s5, hM⟩ ⟨rfl, ez⟩
      rw [List.length_map] at hi
      rw [List.getElem?_map, List.getElem?_eq_getElem hi] at ez
      obtain rfl : V.int ts[i] = z := Option.some.inj ez
      refine ⟨rfl, ?_⟩
      unfold tYes
      dsimp only
      rw [if_pos rfl]
      refine ⟨_, rfl, _, _, rfl, rfl, _, _, rfl, _, hM, small1000 (by rw [List.length_map, List.length_map, List.length_take]; omega), same_at s5 nM, ?_⟩
      rw [upd_same, List.take_add_one, List.getElem?_eq_getElem hi, List.map_append, List.map_append]
      rfl
    rintro HB ⟨sB, eM⟩
    rw [List.length_map, List.take_length] at eM
    obtain ⟨gs, hgs⟩ : ∃ gs, gs = ts.map fun z => if (0 : Int) < 0 - z then 0 - z else 0 := ⟨_, rfl⟩
    rw [← hgs] at eM
    have gk : ∀ k, gs.getD k 0 = if (0 : Int) < 0 - ts.getD k 0 then 0 - ts.getD k 0 else 0 := fun k => by
      rw [hgs, List.getD_eq_getElem?_getD, List.getElem?_map, List.getD_eq_getElem?_getD]
      cases ts[k]? <;> rfl
    have lG : gs.length ≤ 8 := by rw [hgs, List.length_map]; exact lT
    have ltG : LtE 40 gs := fun k => by
      have := ltT k
      rw [gk]
      split
      · rw [Int.zero_sub, Int.natAbs_neg]
        exact this
      · exact Nat.pos_of_ne_zero (by decide)
    have b0 : ∀ k, 0 ≤ bs.getD k 0 := fun k => by
      rw [List.getD_eq_getElem?_getD]
      cases h : bs[k]? with
      | none => exact Int.le_refl _
      | some z => exact (bb z (List.mem_of_getElem? h)).1
    refine ⟨ba, M, bs, gs, rfl, sB _ _ eba, eM, by omega, by omega, fun on HC sC non eon => ?_⟩
    have lO : (trimN (addL bs gs)).length ≤ 8 := Nat.le_trans (trimN_len _) (by rw [addL_len]; omega)
    have ltO : LtE 41 (trimN (addL bs gs)) := LtE.trim ((ltB.mono (by decide)).add ltG)
    have nnO : ∀ n ∈ trimN (addL bs gs), 0 ≤ n := nn_of fun k => by
      rw [getD_trim, getD_addL, gk]
      have := b0 k
      split <;> omega
    have nnW : ∀ n ∈ trimN (addL (trimN (addL bs gs)) ts), 0 ≤ n := nn_of fun k => by
      rw [getD_trim, getD_addL, getD_trim, getD_addL, gk]
      have := b0 k
      split <;> omega
    have lW : (trimN (addL (trimN (addL bs gs)) ts)).length ≤ 8 := Nat.le_trans (trimN_len _) (by rw [addL_len]; omega)
    have ltW : LtE 42 (trimN (addL (trimN (addL bs gs)) ts)) := LtE.trim (ltO.add (ltT.mono (by decide)))
    have sAC := sB.trans sC
    refine ⟨_, rfl, _, rfl, _, rfl, ⟨on, st, _, ts, rfl, eon, sAC _ _ estA, by omega, by omega, fun tw HD sD ntw etw => ?_⟩⟩
    refine ⟨by show 2 ≤ sizeLine; decide, fun tu ntu => ?_⟩
    have sT := same_upd (o := .tup [V.ref on, V.ref tw]) ntu
    have sAD := (sAC.trans sD).trans sT
    exact q tu on tw _ _ _ (hPA.same sAD) (b6A.same sAD) upd_same (b6A.free ((sB.free non))) (b6A.free (sAC.free ntw)) (sT _ _ (sD _ _ eon)) (sT _ _ etw) nnO nnW (by omega) (by omega) (ltO.mono (by decide)) (ltW.mono (by decide))
end
end My

namespace My
open PySem PySem.Spec PyProof.Rows L2
/-! ### a number times two layouts -/
theorem mulc_get (xs : List Int) (n k : Nat) : (mulL (trimN xs) [((n : Nat) : Int)]).getD k 0 = (n : Int) * xs.getD k 0 := by
  rw [mul_cv]
  show 0 + (n : Int) * shF (trimN xs) k 0 = _
  rw [shF, if_pos (Nat.zero_le _), Nat.sub_zero, getD_trim]
  omega
theorem two_iff (as : List Int) : 2 ≤ (trimN as).length ↔ ∃ k, 1 ≤ k ∧ as.getD k 0 ≠ 0 := by
  constructor
  · intro h
    have ne : trimN as ≠ [] := fun z => by
      rw [z] at h
      exact absurd h (by decide)
    have e := trim_end ne
    rw [getD_trim] at e
    exact ⟨(trimN as).length - 1, by omega, e⟩
  · rintro ⟨k, h1, h2⟩
    rcases Nat.lt_or_ge k (trimN as).length with g | g
    · omega
    · rw [← getD_trim, List.getD_eq_getElem?_getD, List.getElem?_eq_none g] at h2
      exact absurd rfl h2
theorem like_due {F : List Int} {m : Nat} {cc : Int} (L : Lead F m cc) (as bs : List Int) {n : Nat} (n1 : 1 ≤ n) :
    LikeP F (trimN (mulL (trimN as) [((n : Nat) : Int)])) (trimN (mulL (trimN bs) [((n : Nat) : Int)])) ↔ ∃ d, dueV F m cc (trimN as) (trimN bs) = some d ∧ d ∣ n := by
  have n0 : (n : Int) ≠ 0 := by omega
  have eqs : trimN (mulL (trimN as) [((n : Nat) : Int)]) = trimN (mulL (trimN bs) [((n : Nat) : Int)]) ↔ trimN as = trimN bs := by
    constructor
    · intro e
      refine trim_ext fun k => ?_
      have h := congrArg (fun l : List Int => l.getD k 0) e
      rw [getD_trim, getD_trim, mulc_get, mulc_get] at h
      exact Int.eq_of_mul_eq_mul_left n0 h
    · intro e
      rw [e]
  have len : ∀ xs : List Int, 2 ≤ (trimN (mulL (trimN xs) [((n : Nat) : Int)])).length ↔ 2 ≤ (trimN xs).length := fun xs => by
    rw [two_iff, two_iff]
    constructor
    · rintro ⟨k, h1, h2⟩
      refine ⟨k, h1, fun z => h2 ?_⟩
      rw [mulc_get, z, Int.mul_zero]
    · rintro ⟨k, h1, h2⟩
      refine ⟨k, h1, fun z => ?_⟩
      rw [mulc_get] at z
      rcases Int.mul_eq_zero.mp z with y | y
      · exact n0 y
      · exact h2 y
  have cg : Cg F (trimN (mulL (trimN as) [((n : Nat) : Int)])) (trimN (mulL (trimN bs) [((n : Nat) : Int)])) ↔ Zm F (subL (trimN as) (trimN bs)) n := by
    have e : ∀ k, (n : Int) * (subL (trimN as) (trimN bs)).getD k 0 = (trimN (mulL (trimN as) [((n : Nat) : Int)])).getD k 0 - (trimN (mulL (trimN bs) [((n : Nat) : Int)])).getD k 0 := fun k => by
      show (n : Int) * (addL (trimN as) (negL (trimN bs))).getD k 0 = _
      rw [getD_trim, getD_trim, mulc_get, mulc_get, getD_addL, getD_neg, getD_trim, getD_trim, ← Int.mul_sub]
      congr 1
    exact ⟨fun h => h.ext e, fun h => h.ext fun k => (e k).symm⟩
  obtain ⟨o1, o2⟩ := ord_spec (fs := subL (trimN as) (trimN bs)) L
  unfold LikeP dueV
  rw [eqs, len, len, cg]
  by_cases e : trimN as = trimN bs
  · rw [if_pos e]
    exact ⟨fun _ => ⟨1, rfl, Nat.one_dvd n⟩, fun _ => .inl e⟩
  rw [if_neg e]
  by_cases lt : (trimN as).length < 2 ∨ (trimN bs).length < 2
  · rw [if_pos lt]
    refine ⟨fun z => ?_, fun ⟨d, z, _⟩ => nomatch z⟩
    rcases z with z | ⟨a, b, _⟩
    · exact absurd z e
    · omega
  rw [if_neg lt]
  constructor
  · intro z
    rcases z with z | ⟨_, _, z⟩
    · exact absurd z e
    · cases ho : ordV F (subL (trimN as) (trimN bs)) m cc with
      | none => exact absurd z (o1 ho n n1)
      | some d => exact ⟨d, rfl, ((o2 d ho).2.2 n).mp z⟩
  · rintro ⟨d, ho, dn⟩
    exact .inr ⟨by omega, by omega, ((o2 d ho).2.2 n).mpr dn⟩
theorem due_le {F : List Int} {m : Nat} {cc : Int} (L : Lead F m cc) (c8 : cc ≤ 8) (xs ys : List Int) : ∀ n, dueV F m cc xs ys = some n → 1 ≤ n ∧ n ≤ 8 := fun n h => by
  unfold dueV at h
  split at h
  · cases h
    exact ⟨Nat.le_refl _, by decide⟩
  split at h
  · cases h
  exact ord_le L c8 n h
/-! ### lists of factors and pairs of them -/
def Fct (H : Hp) (l : Addr) (as : List Int) : Prop := H l = some (.lst (as.map V.int)) ∧ (∀ n ∈ as, 0 ≤ n) ∧ as.length ≤ 20 ∧ LtE 60 as
theorem Fct.same {H H' : Hp} {l : Addr} {as : List Int} (h : Fct H l as) (s : Same H H') : Fct H' l as := ⟨s _ _ h.1, h.2⟩
theorem Fct.but {p c : Addr} {H H' : Hp} {l : Addr} {as : List Int} (h : Fct H l as) (hP : Pot H p c) (b : But p H H') : Fct H' l as := by
  refine ⟨b.1 _ _ h.1 fun z => ?_, h.2⟩
  obtain ⟨ns, pl, am, sz, hp, _⟩ := hP
  rw [← z, h.1] at hp
  cases as with
  | nil => cases hp
  | cons n r => cases hp
def ItP (H : Hp) (y : V) : Prop := ∃ t l1 l2 as bs, y = .ref t ∧ H t = some (.tup [.ref l1, .ref l2]) ∧ Fct H l1 as ∧ Fct H l2 bs
theorem ItP.same {H H' : Hp} {y : V} (h : ItP H y) (s : Same H H') : ItP H' y := by
  obtain ⟨t, l1, l2, as, bs, e, h1, h2, h3⟩ := h
  exact ⟨t, l1, l2, as, bs, e, s _ _ h1, h2.same s, h3.same s⟩
theorem itp_mk {H : Hp} {l1 l2 t : Addr} {as bs : List Int} (h : Fct H l1 as) (g : Fct H l2 bs) (n : H t = none) : ItP (upd H t (.tup [.ref l1, .ref l2])) (.ref t) := ⟨t, l1, l2, as, bs, rfl, upd_same, h.same (same_upd n), g.same (same_upd n)⟩
end My

/-! ### -o by the class's own __neg__ -/
namespace My
open PySem PySem.Spec PyProof.Rows L2
theorem int_sub_ins (a : Int) (t : Tok) (l C dx : Addr) :
    Meets (Builtin.«int.__sub__» ⟨[.int a t, .ref l], []⟩) (fun _ R s => s.heap.get? l = some (PySem.W.instObj C dx) ∧ R (.ok (.ret Value.notImplemented)) s) :=
  .of_wp fun prog w A R s h => by obtain ⟨hp, g, d, tk, os⟩ := s; obtain ⟨hl, h⟩ := h; wp_walk; exact ⟨_, rfl, h⟩
theorem no_sub {prog : Program} {w : World} {A : Around} {E : Value → Shared → Prop} {s : Shared} {i : Int} {t : Tok} {x C dx : Addr} (hx : s.heap.get? x = some (PySem.W.instObj C dx)) (Q' : Option Value → Shared → Prop) (q : Q' none s) : wpAny (model prog w) A (tryMethod (.int i t) (PySem.dunder "sub") (.ref x)) Q' E s := by
  have hT : s.TypeIs (.int i t) "int" := rfl
  refine wpAny_tryMethod_declines hT F.slot_int_sub ?_
  refine call_meets F.slot_int_sub hT F.entry_int_sub (F.args_int_sub_2 _ _) (int_sub_ins i t x C dx) ?_
  exact ⟨hx, rfl, q⟩
section
variable {X : Cx} {CX : CXT} {k : Nat} {C g : Addr} {sp : Sp} {E : XK}
def rNegO (C : Addr) (sp : Sp) (E : XK) : V → Hp → VK → Prop := fun x H Q => ∃ a dx fs, x = .ref a ∧ H a = some (.ins C dx fs) ∧ sp [.ref a] H Q E
theorem un_negO (M : OwnM X.K C "__neg__" g) (F : FnR X.prog X.w X.K X.mg X.base CX k g sp) (hr : Room k X.A) (hx : Passes CX X E) : UnR X (unaryOp .USub) (rNegO C sp E) := by
  intro pins s σ H x v Q I rx h
  obtain ⟨a, dx, fs, rfl, ea, q⟩ := h
  cases (show v = Value.ref a from rx)
  obtain ⟨mA, O, _⟩ := ins_get I.hok ea
  obtain ⟨od, J, _⟩ := O.look
  obtain ⟨m', hF⟩ := I.fr
  exact PySem.W.ksp_neg hF I.ok.mod.kin J M.at_ M.fn (wpAny_call (run_fnR (us := [.ref a]) (vs := [.ref a]) F hr hx I (.cons rfl .nil) q))
end
end My

namespace My
open PySem PySem.Spec PyProof.Rows L2
open Kn (KindAt Right Best byL by_divisor right_best seq_asg nx_asg)
abbrev s_law : Stmt := topS 68
theorem sc_law : FnScope ["script", "pot", "turn", "kind", "one", "other", "third", "constant", "pairs", "first", "second", "left", "right", "due", "times", "is_due"] ["script"] (defScope s_law) := ⟨rfl, rfl, rfl, by decide +kernel, rfl, by decide +kernel, by decide +kernel⟩
theorem go_nox {P : Program} {w : World} {K : PySem.W.Frag} {mg : Str → Option Value} {base : Heap} {k : Nat} {f : Addr} {fd : FuncData} {ps N : List Str} {sp : Sp} {x qual : Str} {st : Stmt} (F : Fun K x qual st f fd) (S : FnScope N ps (defScope st)) (many : ∀ vs H Q E, sp vs H Q E → vs.length = ps.length)
    (hb : ∀ (cdv : Value) (A : Around) (outer : List Env) (s : Shared) (H : Hp) (vs : List V) (Q : VK) (E : XK), Room k (A.deeper (envOfC qual (defScope st) s.heap.objs.size f cdv)) → (A.deeper (envOfC qual (defScope st) s.heap.objs.size f cdv)).guards = some [] →
      sp vs H Q E → ∃ t, PSs (cxOf CX0 P w K mg base N qual (defScope st) f cdv A outer s H E).nox (defBody st) t ∧ t { nx := fun _ H' => Q .non H', rt := Q } (L2.start N vs) H) : FnG P w K mg base CX0 (k + 1) f fd ps sp :=
  go_of F S many fun cdv A outer s H vs Q E hr quiet h => by
    obtain ⟨t, ht, q⟩ := hb cdv A outer s H vs Q E hr quiet h
    exact ⟨t, ht.nox, q⟩
def spLaw (K : PySem.W.Frag) : Sp := fun vs H Q _ => ∃ (a : Addr) (ns : List Int), vs = [.ref a] ∧ SqL K H a (ns.map V.int) ∧ ns.length ≤ 63 ∧ ∀ H', Q (.bl true) H'
def txtO : Option Nat → Str
  | none => "None"
  | some n => Str.ofString (toString ((n : Nat) : Int))
theorem txt_none : PyData.none.shown = ("None" : Str) := by simp only [PyData.shown]
theorem txt_int (n : Nat) : (PyData.int (n : Nat)).shown = Str.ofString (toString ((n : Nat) : Int)) := by simp only [PyData.shown]
theorem rp_valO {K : PySem.W.Frag} {H : Hp} {Q : VK} : ∀ {o : Option Nat}, (∀ n, o = some n → n ≤ 8) → Q (.str (txtO o)) H → rRepr K [valO o] H Q
  | none, _, q => by
    obtain ⟨a, b⟩ := sm_show .none rfl
    refine ⟨_, .none, rfl, .non, a, by simp [PyData.canLay0], by simp [PyData.depth], ?_, ?_⟩
    · rw [txt_none]
      decide +kernel
    · rw [txt_none]
      exact q
  | some n, h, q => by
    have hn := h n rfl
    obtain ⟨a, b⟩ := sm_show (.int (n : Nat)) (by
      simp only [smB, decide_eq_true_eq]
      have : (8 : Nat) < 10 ^ 50 := (by decide)
      omega)
    refine ⟨_, .int (n : Nat), rfl, .int _, a, by simp [PyData.canLay0], by simp [PyData.depth], ?_, ?_⟩
    · rw [sizeLine_eq]
      simp only [nodes] at b
      omega
    · rw [txt_int]
      exact q
structure TxtLW (mg : Str → Option Value) : Prop where
  n_repr : mg "repr" = none
  n_int : mg "int" = none
  n_range : mg "range" = none
section
variable {P : Program} {w : World} {K : PySem.W.Frag} {mg : Str → Option Value} {base : Heap}
theorem go_law {d : LayD} {mc : Value} {f f1 f2 f3 f4 f5 f6 f7 f8 fL gM gR : Addr} {fd fd1 fd2 fd3 fd4 fd5 fd6 fd7 fd8 : FuncData} (Fu : Fun K "law" "law" s_law f fd) (T : TxtLW mg) (D : LayF P K mg d) (LG : LayG K d.lay mc)
    (M_Layout : Mk K d.lay fL) (R_Layout : FnR P w K mg base (L2.CX P w) 3 fL (spMk d.lay)) (mulI : BinI K d.lay "__mul__" "__rmul__" "int") (M_mul : OwnM K d.lay "__mul__" gM) (R_mul : FnR P w K mg base (L2.CX P w) 5 gM (spMulO d)) (mulR : BinR K d.lay "__mul__" "__rmul__") (M_rmul : OwnM K d.lay "__rmul__" gR) (R_rmul : FnR P w K mg base (L2.CX P w) 6 gR (spRmulO d)) {dr : RestD}
    (D1 : Def P w K mg base "_law_pot_of" s_law_pot_of ["script"] 1 (spPotOf K) f1 fd1) (D2 : Def P w K mg base "_law_below" s_law_below ["pot", "bound"] 2 spBelow f2 fd2) (D3 : Def P w K mg base "_law_any_kind" Kn.s_law_any_kind ["pot"] 6 Kn.spKind f3 fd3) (D4 : Def P w K mg base "_law_pair" s_law_pair ["pot", "kind"] 5 spPair f4 fd4)
    (D5 : Def P w K mg base "_law_some_factors" s_law_some_factors ["pot", "many", "most"] 4 spSome f5 fd5) (D6 : Def P w K mg base "_law_due" s_law_due ["kind", "one", "other"] 4 spDue f6 fd6) (D7 : Def P w K mg base "multiple" s_multiple ["kind", "one", "other"] 8 (spMultiple dr d.lay) f7 fd7) (D8 : Def P w K mg base "are_like" s_are_like ["kind", "one", "other"] 9 (spLike dr d.lay) f8 fd8) :
    FnG P w K mg base CX0 11 f fd ["script"] (spLaw K) := by
  have ⟨F__law_pot_of, b__law_pot_of, g__law_pot_of, G__law_pot_of⟩ := D1
  have ⟨F__law_below, b__law_below, g__law_below, G__law_below⟩ := D2
  have ⟨F__law_any_kind, b__law_any_kind, g__law_any_kind, G__law_any_kind⟩ := D3
  have ⟨F__law_pair, b__law_pair, g__law_pair, G__law_pair⟩ := D4
  have ⟨F__law_some_factors, b__law_some_factors, g__law_some_factors, G__law_some_factors⟩ := D5
  have ⟨F__law_due, b__law_due, g__law_due, G__law_due⟩ := D6
  have ⟨F_multiple, b_multiple, g_multiple, G_multiple⟩ := D7
  have ⟨F_are_like, b_are_like, g_are_like, G_are_like⟩ := D8
  refine go_nox Fu sc_law (fun vs H Q E h => ?_) (fun cdv A outer s H vs Q E hr quiet h => ?_)
  · obtain ⟨a, ns, rfl, _⟩ := h
    rfl
  · obtain ⟨sa, ns, rfl, hS, hl, q⟩ := h
    refine ⟨_, (pss_cons (ps_set (i := 1) sc_law.nd rfl (.inl rfl) (pe_call G__law_pot_of (hr.mono (by omega)) (by rfl) g__law_pot_of F__law_pot_of.kp b__law_pot_of .nil pass0 (pa_cons (pv 0) pa_nil)))
  (pss_cons (ps_for PassesOwn.never rfl (pi_range1 (by rfl) T.n_range (pa_cons pe_int pa_nil)) (pg_name (i := 2) sc_law.nd rfl (.inl rfl))
   (pss_cons (ps_set (i := 3) sc_law.nd rfl (.inl rfl) (pe_call G__law_any_kind (hr.mono (by omega)) (by rfl) g__law_any_kind F__law_any_kind.kp b__law_any_kind .nil pass0 (pa_cons (pv 1) pa_nil)))
  (pss_cons (ps_asg (pe_call G__law_pair (hr.mono (by omega)) (by rfl) g__law_pair F__law_pair.kp b__law_pair .nil pass0 (pa_cons (pv 1) (pa_cons (pv 3) pa_nil))) (pg_tup rfl (pgs_cons (pg_name (i := 4) sc_law.nd rfl (.inl rfl)) (pgs_cons (pg_name (i := 5) sc_law.nd rfl (.inl rfl)) pgs_nil))))
  (pss_cons (ps_par (i := 6) (j := 7) (by rfl) sc_law.nd rfl rfl (by decide) rfl rfl (pa_cons (pe_call G__law_some_factors (hr.mono (by omega)) (by rfl) g__law_some_factors F__law_some_factors.kp b__law_some_factors .nil pass0 (pa_cons (pv 1) (pa_cons pe_int (pa_cons pe_int pa_nil)))) (pa_cons (pe_lst (pa_cons (pe_call G__law_below (hr.mono (by omega)) (by rfl) g__law_below F__law_below.kp b__law_below .nil pass0 (pa_cons (pv 1) (pa_cons pe_int pa_nil))) pa_nil)) pa_nil)) (by rfl))
  (C8.pss_cut (ps_set (i := 8) sc_law.nd rfl (.inl rfl) (pe_lst (pa_cons (pe_tup (pa_cons (pv 4) (pa_cons (pv 5) pa_nil))) (pa_cons (pe_tup (pa_cons (pv 5) (pa_cons (pv 4) pa_nil))) (pa_cons (pe_tup (pa_cons (pv 4) (pa_cons (pv 6) pa_nil))) (pa_cons (pe_tup (pa_cons (pv 6) (pa_cons (pv 6) pa_nil))) (pa_cons (pe_tup (pa_cons (pv 7) (pa_cons (pv 4) pa_nil))) (pa_cons (pe_tup (pa_cons (pv 7) (pa_cons (pe_lst pa_nil) pa_nil))) pa_nil))))))))
  (pss_one (ps_for PassesOwn.never rfl (pi_list (pv 8)) (pg_tup rfl (pgs_cons (pg_name (i := 9) sc_law.nd rfl (.inl rfl)) (pgs_cons (pg_name (i := 10) sc_law.nd rfl (.inl rfl)) pgs_nil)))
   (C8.pss_cut (ps_par3 (i := 11) (j := 12) (l := 13) (by rfl) sc_law.nd rfl rfl rfl (by decide) (by decide) (by decide) rfl rfl rfl (pa_cons (pe_makeI M_Layout R_Layout (hr.mono (by omega)) (by rfl) D.gLay (pa_cons (pv 9) pa_nil)) (pa_cons (pe_makeI M_Layout R_Layout (hr.mono (by omega)) (by rfl) D.gLay (pa_cons (pv 10) pa_nil)) (pa_cons (pe_call G__law_due (hr.mono (by omega)) (by rfl) g__law_due F__law_due.kp b__law_due .nil pass0 (pa_cons (pv 3) (pa_cons (pv 9) (pa_cons (pv 10) pa_nil)))) pa_nil))) (by rfl))
  (C8.pss_cut (ps_if (pt_cmpR op_ne (pe_callB (call_repr quiet hr.units) (by rfl) T.n_repr (by decide +kernel) (pa_cons (pe_call G_multiple (hr.mono (by omega)) (by rfl) g_multiple F_multiple.kp b_multiple .nil pass0 (pa_cons (pv 3) (pa_cons (pv 11) (pa_cons (pv 12) pa_nil)))) pa_nil)) (pe_callB (call_repr quiet hr.units) (by rfl) T.n_repr (by decide +kernel) (pa_cons (pv 13) pa_nil)) (nomark _))
   (pss_one (ps_ret pe_bl))
   pss_nil)
  (pss_one (ps_for PassesOwn.never rfl (pi_tup (pe_tup (pa_cons pe_int (pa_cons pe_int (pa_cons pe_int (pa_cons pe_int (pa_cons pe_int (pa_cons pe_int pa_nil)))))))) (pg_name (i := 14) sc_law.nd rfl (.inl rfl))
   (C8.pss_cut (ps_set (i := 15) sc_law.nd rfl (.inl rfl) (pe_and (pe_cmpR op_notN (pv 13) pe_non (nomark _)) (pe_one (pe_cmpR op_eq (pe_op op_mod (pe_callTy call_int1 (by rfl) T.n_int (by decide +kernel) (pa_cons (pv 14) pa_nil)) (pv 13)) pe_int (nomark _)))))
  (pss_one (ps_if (pt_cmpR op_ne (pe_call G_are_like (hr.mono (by omega)) (by rfl) g_are_like F_are_like.kp b_are_like .nil pass0 (pa_cons (pv 3) (pa_cons (pe_op (op_binR (by rfl) (by rfl) no_mul LG.first mulR M_rmul R_rmul (hr.mono (by omega)) passE) (pv 14) (pv 11)) (pa_cons (pe_op (op_binI (by rfl) (by rfl) LG.first mulI M_mul R_mul (hr.mono (by omega)) passE) (pv 12) (pv 14)) pa_nil)))) (pv 15) (nomark _))
   (pss_one (ps_ret pe_bl))
   pss_nil))))))))))))))
  (pss_one (ps_ret pe_bl)))), ?_⟩
    clear G__law_pot_of G__law_below G__law_any_kind G__law_pair G__law_some_factors G__law_due G_multiple G_are_like R_Layout R_mul R_rmul D1 D2 D3 D4 D5 D6 D7 D8
    refine ⟨_, rfl, sa, ns, rfl, hS, hl, fun p c H1 s1 np nc hP1 => ?_⟩
    clear hS s1
    refine ⟨6, rfl, by decide, by decide, ?_⟩
    refine for_range (n := 6) (fun i σ H => Pot H p c ∧ ∃ u2 u3 u4 u5 u6 u7 u8 u9 ua ub uc ud ue uf : Option V, σ = [some (.ref sa), some (.ref p), u2, u3, u4, u5, u6, u7, u8, u9, ua, ub, uc, ud, ue, uf]) ⟨hP1, none, none, none, none, none, none, none, none, none, none, none, none, none, none, rfl⟩ ?_ ?_
    · rintro turn σ H2 hi ⟨hP2, u2, u3, u4, u5, u6, u7, u8, u9, ua, ub, uc, ud, ue, uf, rfl⟩
      clear hP1 np nc H1
      generalize (0 : Int) + (turn : Nat) = tn
      -- kind, by
      refine ⟨_, rfl, p, c, rfl, hP2, fun a ks H3 b3 hP3 _ kf rk => ?_⟩
      have k3 := kf.at
      obtain ⟨m, bm⟩ := right_best rk
      obtain ⟨cc, dv, c8⟩ := by_divisor rk bm
      refine ⟨_, rfl, _, rfl, ⟨p, c, a, ks, rfl, hP3, k3, rk, fun t l1 l2 as bs H4 hP4 b4 et n1 n2 e1 e2 p1 p2 la lb lta ltb => ?_⟩⟩
      have L := dv.lead
      generalize hF : byL (ks.map (·.2)) m = F at *
      have k4 : KindAt H4 a ks := by
        obtain ⟨xs, ep⟩ := hP3.lst
        exact k3.but ep b4
      have f1 : Fct H4 l1 as := ⟨e1, p1, la, lta⟩
      have f2 : Fct H4 l2 bs := ⟨e2, p2, lb, ltb⟩
      clear e1 e2 p1 p2 la lb lta ltb b4 b3 hP2 hP3 k3 kf n1 n2
      refine ⟨t, _, rfl, .inl (.inl et), rfl, _, _, rfl, _, _, rfl, rfl, ?_⟩
      clear et
      -- third, constant
      refine ⟨_, rfl, ⟨p, c, 6, 4, rfl, hP4, by decide, by decide, by decide, fun l3 ts H5 nl3 hP5 b5 e3 lt3 bd3 => ?_⟩⟩
      have f15 := f1.but hP4 b5
      have f25 := f2.but hP4 b5
      have k5 : KindAt H5 a ks := by
        obtain ⟨xs, ep⟩ := hP4.lst
        exact k4.but ep b5
      have f35 : Fct H5 l3 ts := ⟨e3, fun n hn => (bd3 n hn).1, by omega, LtE.of fun n hn => by
        have := bd3 n hn
        have : (4 : Nat) < 2 ^ 60 := by decide
        omega⟩
      clear f1 f2 k4 e3 lt3 bd3 b5 hP4 nl3
      refine ⟨_, rfl, p, c, _, rfl, hP5, by decide, by decide, fun v H6 v0 v1 hP6 b6 => ?_⟩
      have f16 := f15.but hP5 b6
      have f26 := f25.but hP5 b6
      have f36 := f35.but hP5 b6
      have k6 : KindAt H6 a ks := by
        obtain ⟨xs, ep⟩ := hP5.lst
        exact k5.but ep b6
      clear f15 f25 f35 k5 b6 hP5
      refine ⟨by show 1 ≤ sizeLine; decide, fun l4 nl4 => ?_⟩
      have s7 := same_upd (o := .lst [V.int v]) nl4
      have e47 : (upd H6 l4 (.lst [V.int v])) l4 = some (.lst (([v] : List Int).map V.int)) := upd_same
      have v9 : v < 9 := v1
      generalize upd H6 l4 (.lst [V.int v]) = H7 at s7 e47 ⊢
      have f47 : Fct H7 l4 [v] := ⟨e47, fun n hn => by rw [List.mem_singleton.mp hn]; exact v0, by show 1 ≤ 20; decide, LtE.of fun n hn => by
        rw [List.mem_singleton.mp hn]
        have : (9 : Nat) < 2 ^ 60 := by decide
        omega⟩
      have f17 := f16.same s7
      have f27 := f26.same s7
      have f37 := f36.same s7
      have k7 := k6.same s7
      have hP7 := hP6.same s7
      clear f16 f26 f36 k6 hP6 s7 e47 nl4 v1
      refine ⟨_, _, rfl, ?_⟩
      -- pairs
      refine ⟨fun σ' H' => ∃ (pl : Addr) (ys : List V), σ' = [some (V.ref sa), some (V.ref p), some (V.int tn), some (V.ref a), some (V.ref l1), some (V.ref l2), some (V.ref l3), some (V.ref l4), some (V.ref pl), u9, ua, ub, uc, ud, ue, uf] ∧ Pot H' p c ∧ KindAt H' a ks ∧ H' pl = some (.lst ys) ∧ ∀ y ∈ ys, ItP H' y, ?_, ?_⟩
      · refine ⟨_, rfl, _, rfl, by show 2 ≤ sizeLine; decide, fun t1 m1 => ?_⟩
        have i1 := itp_mk f17 f27 m1
        have w1 := same_upd (o := .tup [V.ref l1, V.ref l2]) m1
        generalize upd H7 t1 (.tup [V.ref l1, V.ref l2]) = G1 at i1 w1 ⊢
        refine ⟨_, rfl, _, rfl, by show 2 ≤ sizeLine; decide, fun t2 m2 => ?_⟩
        have i2 := itp_mk (f27.same w1) (f17.same w1) m2
        have w2 := same_upd (o := .tup [V.ref l2, V.ref l1]) m2
        generalize upd G1 t2 (.tup [V.ref l2, V.ref l1]) = G2 at i2 w2 ⊢
        have x2 := w1.trans w2
        refine ⟨_, rfl, _, rfl, by show 2 ≤ sizeLine; decide, fun t3 m3 => ?_⟩
        have i3 := itp_mk (f17.same x2) (f37.same x2) m3
        have w3 := same_upd (o := .tup [V.ref l1, V.ref l3]) m3
        generalize upd G2 t3 (.tup [V.ref l1, V.ref l3]) = G3 at i3 w3 ⊢
        have x3 := x2.trans w3
        refine ⟨_, rfl, _, rfl, by show 2 ≤ sizeLine; decide, fun t4 m4 => ?_⟩
        have i4 := itp_mk (f37.same x3) (f37.same x3) m4
        have w4 := same_upd (o := .tup [V.ref l3, V.ref l3]) m4
        generalize upd G3 t4 (.tup [V.ref l3, V.ref l3]) = G4 at i4 w4 ⊢
        have x4 := x3.trans w4
        refine ⟨_, rfl, _, rfl, by show 2 ≤ sizeLine; decide, fun t5 m5 => ?_⟩
        have i5 := itp_mk (f47.same x4) (f17.same x4) m5
        have w5 := same_upd (o := .tup [V.ref l4, V.ref l1]) m5
        generalize upd G4 t5 (.tup [V.ref l4, V.ref l1]) = G5 at i5 w5 ⊢
        have x5 := x4.trans w5
        refine ⟨_, rfl, by show 0 ≤ sizeLine; decide, fun em nem => ?_⟩
        have we := same_upd (o := .lst []) nem
        have eem : (upd G5 em (.lst [])) em = some (.lst (([] : List Int).map V.int)) := upd_same
        generalize upd G5 em (.lst []) = GE at we eem ⊢
        have xe := x5.trans we
        have fe : Fct GE em [] := ⟨eem, (fun n hn => nomatch hn), by decide, LtE.of (fun n hn => nomatch hn)⟩
        refine ⟨by show 2 ≤ sizeLine; decide, fun t6 m6 => ?_⟩
        have i6 := itp_mk (f47.same xe) fe m6
        have w6 := same_upd (o := .tup [V.ref l4, V.ref em]) m6
        generalize upd GE t6 (.tup [V.ref l4, V.ref em]) = G6 at i6 w6 ⊢
        refine ⟨by show 6 ≤ sizeLine; decide, fun pl npl => ?_⟩
        have wL := same_upd (o := .lst [V.ref t1, V.ref t2, V.ref t3, V.ref t4, V.ref t5, V.ref t6]) npl
        have y6 := w6.trans wL
        have y5 := we.trans y6
        have y4 := w5.trans y5
        have y3 := w4.trans y4
        have y2 := w3.trans y3
        have y1 := w2.trans y2
        have y0 := w1.trans y1
        refine ⟨pl, _, rfl, hP7.same y0, k7.same y0, upd_same, fun y hy => ?_⟩
        simp only [List.mem_cons, List.not_mem_nil, or_false] at hy
        rcases hy with rfl | rfl | rfl | rfl | rfl | rfl
        · exact i1.same y1
        · exact i2.same y2
        · exact i3.same y3
        · exact i4.same y4
        · exact i5.same y5
        · exact i6.same wL
      clear f17 f27 f37 f47 k7 hP7
      rintro σ HC ⟨pl, ys, rfl, hPC, kC, epl, all⟩
      refine ⟨_, rfl, pl, rfl, ⟨_, .inl (.inl epl)⟩, for_it (walk_list (xs := ys)) (fun j σ H' => Same HC H' ∧ ∃ u9 ua ub uc ud ue uf : Option V, σ = [some (V.ref sa), some (V.ref p), some (V.int tn), some (V.ref a), some (V.ref l1), some (V.ref l2), some (V.ref l3), some (V.ref l4), some (V.ref pl), u9, ua, ub, uc, ud, ue, uf]) ⟨My.same_rfl _, _, _, _, _, _, _, _, rfl⟩ (fun j σ H5 _ h => .inl (.inl (h.1 _ _ epl))) ?_ ?_⟩
      · rintro j y σ H5 H6 hj ⟨s5, u9, ua, ub, uc, ud, ue, uf, rfl⟩ ⟨rfl, ey⟩
        obtain ⟨t, o1, o2, as, bs, rfl, et, ⟨ea, pa, la, lta⟩, ⟨eb, pb, lb, ltb⟩⟩ := (all y (List.mem_of_getElem? ey)).same s5
        have k6 := kC.same s5
        refine ⟨t, _, rfl, .inl (.inl et), rfl, _, _, rfl, _, _, rfl, rfl, ?_⟩
        -- left, right, due
        have o8 := due_le L c8 (trimN as) (trimN bs)
        obtain ⟨ov, hov⟩ : ∃ ov, ov = dueV F m cc (trimN as) (trimN bs) := ⟨_, rfl⟩
        rw [← hov] at o8
        refine ⟨fun σ' H' => ∃ x y : Addr, σ' = [some (V.ref sa), some (V.ref p), some (V.int tn), some (V.ref a), some (V.ref l1), some (V.ref l2), some (V.ref l3), some (V.ref l4), some (V.ref pl), some (V.ref o1), some (V.ref o2), some (V.ref x), some (V.ref y), some (valO ov), ue, uf] ∧ Same H6 H' ∧ LayAt d.lay H' x (trimN as) ∧ LayAt d.lay H' y (trimN bs), ?_, ?_⟩
        · refine ⟨_, rfl, o1, as, rfl, .inl ea, by omega, pa, by have := trimN_len as; omega, fun x H7 s7 nx lx => ?_⟩
          refine ⟨_, rfl, o2, bs, rfl, .inl (s7 _ _ eb), by omega, pb, by have := trimN_len bs; omega, fun y H8 s8 ny ly => ?_⟩
          have s78 := s7.trans s8
          refine ⟨_, rfl, _, rfl, _, rfl, ⟨a, o1, o2, ks, m, cc, as, bs, rfl, k6.same s78, rk, bm, by rw [hF]; exact dv, c8, s78 _ _ ea, s78 _ _ eb, by omega, by omega, fun H9 s9 => ?_⟩⟩
          rw [hF, ← hov]
          exact ⟨_, _, _, rfl, x, y, rfl, s78.trans s9, (lx.same s8).same s9, ly.same s9⟩
        rintro σ H7 ⟨x, y, rfl, s7, lx, ly⟩
        have k7 := k6.same s7
        -- repr
        refine ⟨fun σ' H' => σ' = [some (V.ref sa), some (V.ref p), some (V.int tn), some (V.ref a), some (V.ref l1), some (V.ref l2), some (V.ref l3), some (V.ref l4), some (V.ref pl), some (V.ref o1), some (V.ref o2), some (V.ref x), some (V.ref y), some (valO ov), ue, uf] ∧ Same H7 H', ?_, ?_⟩
        · refine ⟨_, rfl, _, rfl, _, rfl, ⟨a, x, y, ks, m, cc, trimN as, trimN bs, rfl, k7, rk, bm, by rw [hF]; exact dv, lx, ly, fun H8 s8 => ?_⟩⟩
          rw [hF, ← hov]
          refine rp_valO (fun n h => (o8 n h).2) ?_
          refine ⟨_, rfl, rp_valO (fun n h => (o8 n h).2) ?_⟩
          exact ⟨rfl, false, ne_self _, iteF ⟨rfl, s8⟩⟩
        rintro σ H8 ⟨rfl, s8⟩
        have k8 := k7.same s8
        have lx8 := lx.same s8
        have ly8 := ly.same s8
        have bA : Big (trimN as) := (LtE.trim lta).big (by decide) (by have := trimN_len as; omega)
        have bB : Big (trimN bs) := (LtE.trim ltb).big (by decide) (by have := trimN_len bs; omega)
        refine ⟨by show 6 ≤ sizeLine; decide, fun tt ntt => ?_⟩
        have s9 := same_upd (o := .tup [V.int 1, V.int 2, V.int 3, V.int 4, V.int 6, V.int 12]) ntt
        have ett : (upd H8 tt (.tup [V.int 1, V.int 2, V.int 3, V.int 4, V.int 6, V.int 12])) tt = some (.tup [V.int 1, V.int 2, V.int 3, V.int 4, V.int 6, V.int 12]) := upd_same
        generalize upd H8 tt (.tup [V.int 1, V.int 2, V.int 3, V.int 4, V.int 6, V.int 12]) = H9 at s9 ett ⊢
        refine ⟨tt, rfl, ⟨_, .inl (.inl ett)⟩, for_it (walk_tup (xs := [V.int 1, V.int 2, V.int 3, V.int 4, V.int 6, V.int 12])) (fun i σ H' => Same H9 H' ∧ ∃ ue uf : Option V, σ = [some (V.ref sa), some (V.ref p), some (V.int tn), some (V.ref a), some (V.ref l1), some (V.ref l2), some (V.ref l3), some (V.ref l4), some (V.ref pl), some (V.ref o1), some (V.ref o2), some (V.ref x), some (V.ref y), some (valO ov), ue, uf]) ⟨My.same_rfl _, _, _, rfl⟩ (fun i σ H5 _ h => .inl (.inl (h.1 _ _ ett))) ?_ ?_⟩
        · rintro i z σ HA HB hi ⟨sA, ue, uf, rfl⟩ ⟨rfl, ez⟩
          obtain ⟨n, rfl, n1, n12⟩ : ∃ n : Nat, z = V.int (n : Nat) ∧ 1 ≤ n ∧ n ≤ 12 := by
            have m := List.mem_of_getElem? ez
            simp only [List.mem_cons, List.not_mem_nil, or_false] at m
            rcases m with rfl | rfl | rfl | rfl | rfl | rfl
            · exact ⟨1, rfl, by decide, by decide⟩
            · exact ⟨2, rfl, by decide, by decide⟩
            · exact ⟨3, rfl, by decide, by decide⟩
            · exact ⟨4, rfl, by decide, by decide⟩
            · exact ⟨6, rfl, by decide, by decide⟩
            · exact ⟨12, rfl, by decide, by decide⟩
          have s89 := s9.trans sA
          have kB := k8.same s89
          have lxB := lx8.same s89
          have lyB := ly8.same s89
          refine ⟨fun σ' H' => ∃ b : Bool, σ' = [some (V.ref sa), some (V.ref p), some (V.int tn), some (V.ref a), some (V.ref l1), some (V.ref l2), some (V.ref l3), some (V.ref l4), some (V.ref pl), some (V.ref o1), some (V.ref o2), some (V.ref x), some (V.ref y), some (valO ov), some (V.int (n : Nat)), some (V.bl b)] ∧ H' = HB ∧ (b = true ↔ ∃ d, ov = some d ∧ d ∣ n), ?_, ?_⟩
          · cases ov with
            | none =>
              exact ⟨_, rfl, rfl, ⟨false, rfl, iteF ⟨false, rfl, rfl, ⟨(fun z => nomatch z), (fun ⟨d, z, _⟩ => nomatch z)⟩⟩⟩⟩
            | some d =>
              have d1 := (o8 d rfl).1
              have en : (((n : Nat) : Int) % ((d : Nat) : Int) = 0) ↔ d ∣ n := Int.natCast_emod n d ▸ ⟨fun h => Nat.dvd_of_mod_eq_zero (by omega), fun h => by rw [Nat.mod_eq_zero_of_dvd h]; rfl⟩
              refine ⟨_, rfl, rfl, ⟨true, rfl, iteT ?_⟩⟩
              refine ⟨_, rfl, .inl ⟨_, rfl, ?_⟩⟩
              refine ⟨_, rfl, _, _, rfl, rfl, by omega, ?_⟩
              refine ⟨rfl, ?_⟩
              rw [eqI]
              exact ⟨_, rfl, rfl, fun z => ⟨d, rfl, en.mp (of_decide_eq_true z)⟩, fun ⟨d', z, dn⟩ => by
                cases z
                exact decide_eq_true (en.mpr dn)⟩
          rintro σ _ ⟨b, rfl, rfl, hb⟩
          have bN : Big [((n : Nat) : Int)] := LtE.big (e := 5) (LtE.of fun z hz => by
            rw [List.mem_singleton.mp hz]
            have : (2 : Nat) ^ 5 = 32 := rfl
            omega) (by decide) (by show 1 ≤ 300; decide)
          have few : ∀ xs : List Int, xs.length ≤ 20 → ¬ 41 < (trimN (mulL (trimN xs) [((n : Nat) : Int)])).length := fun xs h => by
            have h1 := trimN_len (mulL (trimN xs) [((n : Nat) : Int)])
            rw [mul_len] at h1
            have h2 := trimN_len xs
            have h3 : [((n : Nat) : Int)].length = 1 := rfl
            omega
          obtain ⟨dx, rx, hx, _⟩ := id lxB
          refine ⟨_, rfl, _, rfl, _, rfl, x, dx, _, _, rfl, rfl, hx, ⟨x, trimN as, ((n : Nat) : Int), rfl, lxB, by omega, bA, bN, fun big => absurd big (few as la), fun _ z1 HD sD nz1 lz1 => ?_⟩⟩
          have lyD := lyB.same sD
          obtain ⟨dy, ry, hy, _⟩ := id lyD
          refine ⟨_, rfl, _, rfl, y, dy, _, _, rfl, hy, rfl, ⟨y, trimN bs, _, [((n : Nat) : Int)], rfl, lyD, .inr ⟨_, rfl, by omega, rfl⟩, bB, bN, fun big => absurd big (few bs lb), fun _ z2 HE sE nz2 lz2 => ?_⟩⟩
          have sDE := sD.trans sE
          refine ⟨a, z1, z2, ks, m, _, _, rfl, kB.same sDE, rk, bm, lz1.same sE, lz2, fun tb HG sG hiff => ?_⟩
          rw [hF] at hiff
          have ht : tb = b := Bool.eq_iff_iff.mpr (hiff.trans ((like_due L as bs n1).trans (by rw [← hov]; exact hb.symm)))
          subst ht
          exact ⟨_, rfl, rfl, false, ne_self _, iteF ⟨sA.trans (sDE.trans sG), _, _, rfl⟩⟩
        · rintro σ HA ⟨sA, ue, uf, rfl⟩
          exact ⟨s5.trans ((s7.trans s8).trans (s9.trans sA)), _, _, _, _, _, _, _, rfl⟩
      · rintro σ H5 ⟨s5, u9, ua, ub, uc, ud, ue, uf, rfl⟩
        exact ⟨hPC.same s5, _, _, _, _, _, _, _, _, _, _, _, _, _, _, rfl⟩
    · rintro σ H5 ⟨_, u2, u3, u4, u5, u6, u7, u8, u9, ua, ub, uc, ud, ue, uf, rfl⟩
      exact q _
end
end My

namespace My
open PySem PySem.Spec PyProof.Rows L2
/-! ### a classmethod as the top has written it -/
structure CMetK (K : PySem.W.Frag) (C : Addr) (x qual : Str) (st : Stmt) (p f : Addr) (fd : FuncData) : Prop where
  M : ClX.CMet K C (.type "type") x p f
  F : Fun K x qual st f fd
theorem cmetk_mk {K : PySem.W.Frag} {x qual : Str} {st : Stmt} {C p f : Addr} {rest : List Value} {oc : Value} {od an : Option Addr} {osl : Array (Option Value)} {kV doc pm cdv ct : Value} (i : PySem.W.findCls K (.ref C) (.type "type") x = some (.get (.builtin "classmethod.__get__") (.ref p) .none (.ref C))) (r : PySem.W.recIn K p "classmethod" = some (.ref f :: rest)) (fi : PySem.W.fnIn K f = true)
    (l : K.lookup f = some ⟨oc, od, .func (PySem.W.fnOf x qual (defArgs st) (defBody st) (defScope st) .none kV doc pm an cdv ct), osl⟩) (c : PySem.W.codeIn K cdv qual = true) (k : PySem.W.keepIn K (.ref f) = true) : CMetK K C x qual st p f (PySem.W.fnOf x qual (defArgs st) (defBody st) (defScope st) .none kV doc pm an cdv ct) := ⟨⟨i, ⟨rest, r⟩, fi⟩, fun_mk l c k⟩
end My

namespace My
open PySem PySem.Spec PyProof.Rows L2
/-- a def under another name of the top -/
structure AliasK (K : PySem.W.Frag) (mg : Str → Option Value) (y x : Str) (st : Stmt) (f : Addr) (fd : FuncData) : Prop where
  g : mg y = some (.ref f)
  F : Fun K x x st f fd
theorem alias_mk {K : PySem.W.Frag} {mg : Str → Option Value} {h : Heap} {y x : Str} {st : Stmt} {f : Addr} {oc : Value} {od an : Option Addr} {osl : Array (Option Value)} {kV doc pm cdv ct : Value} (X : K.In h) (G : h.Ns mainGlobals mg) (g : PySem.W.nsIn K mainGlobals y = some (some (.ref f)))
    (l : K.lookup f = some ⟨oc, od, .func (PySem.W.fnOf x x (defArgs st) (defBody st) (defScope st) .none kV doc pm an cdv ct), osl⟩) (c : PySem.W.codeIn K cdv x = true) (k : PySem.W.keepIn K (.ref f) = true) : AliasK K mg y x st f (PySem.W.fnOf x x (defArgs st) (defBody st) (defScope st) .none kV doc pm an cdv ct) := ⟨PySem.W.mg_of X G g, fun_mk l c k⟩
end My

namespace My
open PySem PySem.Spec PyProof.Rows L2
/-! ### the facts of the text -/
abbrev mroVE (C LE : Addr) : List Value := [.ref C, .ref LE, .type "ValueError", .type "Exception", .type "BaseException", .type "object"]
/-- what stands of each of the sixteen classes -/
structure CK (K : PySem.W.Frag) (C LE : Addr) : Prop where
  m : ∃ cd, PySem.W.clsIn K C = some cd ∧ cd.mro = mroVE C LE
  t : PySem.W.typeIn K (.ref C) = some (.type "type")
  k : PySem.W.keepIn K (.ref C) = true
  hg : PySem.W.findIn K (.ref C) "__getattribute__" = some (some (.builtin "BaseException.__getattribute__"))
  hk : PySem.W.findIn K (.ref C) "__getattr__" = some none
  hd : PySem.W.hasDictIn K C = true
  ha : PySem.W.findIn K (.ref C) "__class__" = some (some (.builtin "object.__class__"))
theorem ck_mk {K : PySem.W.Frag} {C LE : Addr} {cd : ClassData} (m : PySem.W.clsIn K C = some cd) (r : cd.mro = mroVE C LE) (t : PySem.W.typeIn K (.ref C) = some (.type "type")) (k : PySem.W.keepIn K (.ref C) = true)
    (hg : PySem.W.findIn K (.ref C) "__getattribute__" = some (some (.builtin "BaseException.__getattribute__"))) (hk : PySem.W.findIn K (.ref C) "__getattr__" = some none) (hd : PySem.W.hasDictIn K C = true) (ha : PySem.W.findIn K (.ref C) "__class__" = some (some (.builtin "object.__class__"))) : CK K C LE := ⟨⟨cd, m, r⟩, t, k, hg, hk, hd, ha⟩
theorem some_cls {K : PySem.W.Frag} {C : Addr} {cd : ClassData} (m : PySem.W.clsIn K C = some cd) : ∃ cd, PySem.W.clsIn K C = some cd := ⟨cd, m⟩
theorem CK.mro {K : PySem.W.Frag} {C LE : Addr} (h : CK K C LE) (v : Value) : PySem.W.mroIn K C v = some ((mroVE C LE).contains v) := by
  obtain ⟨cd, e, r⟩ := h.m
  unfold PySem.W.mroIn
  rw [e, Option.bind_some, r]
  rfl
theorem CK.exc {K : PySem.W.Frag} {C LE : Addr} (h : CK K C LE) (hn : PySem.W.specialIn K (.builtin "object.__class__") "__get__" = some (some (.builtin "getset_descriptor.__get__"))) (ht : PySem.W.takesIn K (.builtin "object.__class__") = some true) : ExcC K C :=
  ⟨h.hg, h.hk, (h.mro _).trans (by rw [show (mroVE C LE).contains (.type "BaseException") = true by simp]), h.hd, h.ha, hn, ht, (h.mro _).trans (by rw [show (mroVE C LE).contains (.type "object") = true by simp])⟩
theorem exm_to {K : PySem.W.Frag} {C D LE : Addr} (hC : CK K C LE) (hD : CK K D LE) : PySem.W.exmOne K (.ref C) (.ref D) = some ((mroVE C LE).contains (.ref D)) := by
  obtain ⟨cd, e, r⟩ := hD.m
  have b1 : (PySem.W.subIn K (.ref D) (.type "BaseException") == some true) = true := by
    rw [show PySem.W.subIn K (.ref D) (.type "BaseException") = PySem.W.mroIn K D (.type "BaseException") from rfl, hD.mro]
    simp
  have b2 : ((PySem.W.clsIn K D).isSome && PySem.W.typeIn K (.ref D) == some (.type "type")) = true := by
    rw [e, hD.t]
    exact (show (true && (some (Value.type "type") == some (Value.type "type"))) = true by decide +kernel)
  show (if (PySem.W.subIn K (.ref D) (.type "BaseException") == some true) = true then (if ((PySem.W.clsIn K D).isSome && PySem.W.typeIn K (.ref D) == some (.type "type")) = true then PySem.W.subIn K (.ref C) (.ref D) else none) else none) = _
  rw [if_pos b1, if_pos b2]
  exact hC.mro _
theorem CK.xf {K : PySem.W.Frag} {C LE : Addr} (h : CK K C LE) : XfC K C := ⟨h.hg, h.hk, (h.mro _).trans (by rw [show (mroVE C LE).contains (.type "BaseException") = true by simp]), h.hd⟩
section
variable {P : Program} {w : World} {K : PySem.W.Frag} {mg : Str → Option Value} {base : Heap}
theorem sup_mk {h : Heap} {x qual : Str} {st : Stmt} {C LE fI cc cda : Addr} {oc doc pm ct : Value} {od an : Option Addr} {osl : Array (Option Value)} {nm q : Str} {N : Addr} {bs bm : List Value} {sn : List Str} {sub : List Value} {ab : Bool} {col : Option Bool} {dd : Option Addr} {k0 k1 k2 k3 k5 : Option Value}
    {ccl : Value} {cdd : Option Addr} {vs : Array Value} {ccs : Array (Option Value)} {file : Str} {tf : Tok} {cl : Value} {cld : Option Addr} {csl : Array (Option Value)} (X : K.In h) (G : h.Ns mainGlobals mg) (c : CK K C LE)
    (gC : PySem.W.nsIn K mainGlobals x = some (some (.ref C))) (lC : K.lookup C = some (excClassObj nm q C N bs bm true sn sub ab col dd k0 k1 k2 k3 k5 "ValueError.__new__")) (rv : PySem.HandSPX.refsVE bm = true)
    (sa : PySem.W.findIn K (.ref C) "__setattr__" = some (some (.builtin "object.__setattr__"))) (iC : PySem.W.findIn K (.ref C) "__init__" = some (some (.ref fI))) (tI : PySem.W.typeIn K (.ref fI) = some (.type "function"))
    (lI : K.lookup fI = some ⟨oc, od, .func (PySem.W.ksFn "__init__" qual (defArgs st) (defBody st) (defScope st) .none .none doc pm an (.ref cda) ct cc), osl⟩) (cdq : PySem.W.codeIn K (.ref cda) qual = true) (lc : K.lookup cda = some ⟨ccl, cdd, .fields vs, ccs⟩) (hv : vs[2]? = some (.str file tf)) (hf : ((P.main.file : Str) == file) = true)
    (lcc : K.lookup cc = some ⟨cl, cld, .cell (some (.ref C)), csl⟩) (noS : PySem.W.nsIn K mainGlobals "super" = some none) (anyC : PySem.W.nsIn K cStatics "thirdparty.any" = some none) (supI : PySem.W.ks_superIn K C C "__init__" = some (some (.builtin "ValueError.__init__"))) (noTop : (P.main.scope.names.lookup ("super" : Str)).isSome = false) :
    SupCls P K mg x qual st C fI cc cda (PySem.W.ksFn "__init__" qual (defArgs st) (defBody st) (defScope st) .none .none doc pm an (.ref cda) ct cc) where
  gC := PySem.W.mg_of X G gC
  ox := ⟨⟨nm, q, N, bs, bm, sn, sub, ab, col, dd, k0, k1, k2, k3, k5, lC, rv⟩, sa, (c.mro _).trans (by rw [show (mroVE C LE).contains (.type "BaseException") = true by simp]), c.t, c.k⟩
  iC := iC
  tI := tI
  fn := ⟨oc, od, doc, pm, an, ct, osl, rfl, lI⟩
  cdq := cdq
  code := ⟨ccl, cdd, vs, ccs, file, tf, lc, hv, hf⟩
  cell := ⟨cl, cld, csl, lcc⟩
  sub := (c.mro _).trans (by rw [show (mroVE C LE).contains (.ref C) = true by simp])
  noS := PySem.W.mg_none_of X G noS
  anyC := anyC
  supI := supI
  subV := (c.mro _).trans (by rw [show (mroVE C LE).contains (.type "ValueError") = true by simp])
  noTop := noTop
theorem plain_mk {h : Heap} {x : Str} {C LE : Addr} (X : K.In h) (G : h.Ns mainGlobals mg) (c : CK K C LE) (gC : PySem.W.nsIn K mainGlobals x = some (some (.ref C))) (q : PySem.W.excIn K C [.type "ValueError", .type "Exception", .type "BaseException", .type "object"] "ValueError.__new__" = true) : PlainCls K mg x C := ⟨PySem.W.mg_of X G gC, q, c.k⟩
/-- a def as the top has written it -/
structure DefK (K : PySem.W.Frag) (mg : Str → Option Value) (x : Str) (st : Stmt) (f : Addr) (fd : FuncData) : Prop where
  g : mg x = some (.ref f)
  F : Fun K x x st f fd
theorem def_mk {h : Heap} {x : Str} {st : Stmt} {f : Addr} {oc : Value} {od an : Option Addr} {osl : Array (Option Value)} {kV doc pm cdv ct : Value} (X : K.In h) (G : h.Ns mainGlobals mg) (g : PySem.W.nsIn K mainGlobals x = some (some (.ref f)))
    (l : K.lookup f = some ⟨oc, od, .func (PySem.W.fnOf x x (defArgs st) (defBody st) (defScope st) .none kV doc pm an cdv ct), osl⟩) (c : PySem.W.codeIn K cdv x = true) (k : PySem.W.keepIn K (.ref f) = true) : DefK K mg x st f (PySem.W.fnOf x x (defArgs st) (defBody st) (defScope st) .none kV doc pm an cdv ct) := ⟨PySem.W.mg_of X G g, fun_mk l c k⟩
structure MethK (K : PySem.W.Frag) (C : Addr) (x qual : Str) (st : Stmt) (f : Addr) (fd : FuncData) : Prop where
  i : PySem.W.findIn K (.ref C) x = some (some (.ref f))
  fn : PySem.W.isFn K (.ref f) = true
  F : Fun K x qual st f fd
theorem meth_mk {x qual : Str} {st : Stmt} {C f : Addr} {oc : Value} {od an : Option Addr} {osl : Array (Option Value)} {kV doc pm cdv ct : Value} (i : PySem.W.findIn K (.ref C) x = some (some (.ref f))) (n : PySem.W.isFn K (.ref f) = true)
    (l : K.lookup f = some ⟨oc, od, .func (PySem.W.fnOf x qual (defArgs st) (defBody st) (defScope st) .none kV doc pm an cdv ct), osl⟩) (c : PySem.W.codeIn K cdv qual = true) (k : PySem.W.keepIn K (.ref f) = true) : MethK K C x qual st f (PySem.W.fnOf x qual (defArgs st) (defBody st) (defScope st) .none kV doc pm an cdv ct) := ⟨i, n, fun_mk l c k⟩
structure MethO (K : PySem.W.Frag) (C : Addr) (x qual : Str) (st : Stmt) (f : Addr) (fd : FuncData) : Prop where
  M : OwnM K C x f
  F : Fun K x qual st f fd
theorem metho_mk {x qual : Str} {st : Stmt} {C f : Addr} {oc : Value} {od an : Option Addr} {osl : Array (Option Value)} {kV doc pm cdv ct : Value} (i : PySem.W.findIn K (.ref C) x = some (some (.ref f))) (n : PySem.W.isFn K (.ref f) = true) (fi : PySem.W.fnIn K f = true)
    (l : K.lookup f = some ⟨oc, od, .func (PySem.W.fnOf x qual (defArgs st) (defBody st) (defScope st) .none kV doc pm an cdv ct), osl⟩) (c : PySem.W.codeIn K cdv qual = true) (k : PySem.W.keepIn K (.ref f) = true) : MethO K C x qual st f (PySem.W.fnOf x qual (defArgs st) (defBody st) (defScope st) .none kV doc pm an cdv ct) := ⟨⟨i, n, fi, k⟩, fun_mk l c k⟩
structure PropK (K : PySem.W.Frag) (C : Addr) (x qual : Str) (st : Stmt) (p f : Addr) (fd : FuncData) : Prop where
  M : PropOf K C x p f
  F : Fun K x qual st f fd
theorem propk_mk {x qual : Str} {st : Stmt} {C p f : Addr} {rest : List Value} {oc : Value} {od an : Option Addr} {osl : Array (Option Value)} {kV doc pm cdv ct : Value} (i : PySem.W.findIn K (.ref C) x = some (some (.ref p))) (g : PySem.W.specialIn K (.ref p) "__get__" = some (some (.builtin "property.__get__"))) (t : PySem.W.takesIn K (.ref p) = some true) (r : PySem.W.recIn K p "property" = some (.ref f :: rest))
    (l : K.lookup f = some ⟨oc, od, .func (PySem.W.fnOf x qual (defArgs st) (defBody st) (defScope st) .none kV doc pm an cdv ct), osl⟩) (c : PySem.W.codeIn K cdv qual = true) (k : PySem.W.keepIn K (.ref f) = true) : PropK K C x qual st p f (PySem.W.fnOf x qual (defArgs st) (defBody st) (defScope st) .none kV doc pm an cdv ct) := ⟨⟨i, g, t, ⟨rest, r⟩⟩, fun_mk l c k⟩
structure StatK (K : PySem.W.Frag) (C : Addr) (x qual : Str) (st : Stmt) (p f : Addr) (fd : FuncData) : Prop where
  M : SMet K C (.type "type") x p f
  F : Fun K x qual st f fd
theorem statk_mk {x qual : Str} {st : Stmt} {C p f : Addr} {rest : List Value} {oc : Value} {od an : Option Addr} {osl : Array (Option Value)} {kV doc pm cdv ct : Value} (i : PySem.W.findCls K (.ref C) (.type "type") x = some (.get (.builtin "staticmethod.__get__") (.ref p) .none (.ref C))) (r : PySem.W.recIn K p "staticmethod" = some (.ref f :: rest))
    (l : K.lookup f = some ⟨oc, od, .func (PySem.W.fnOf x qual (defArgs st) (defBody st) (defScope st) .none kV doc pm an cdv ct), osl⟩) (c : PySem.W.codeIn K cdv qual = true) (k : PySem.W.keepIn K (.ref f) = true) : StatK K C x qual st p f (PySem.W.fnOf x qual (defArgs st) (defBody st) (defScope st) .none kV doc pm an cdv ct) := ⟨⟨i, ⟨rest, r⟩, k⟩, fun_mk l c k⟩
theorem kit_self {K : PySem.W.Frag} (C : Addr) : PySem.W.kitOne K (.ref C) (.ref C) = some true := by
  unfold PySem.W.kitOne
  rw [if_pos (by simp)]
theorem kit_int_own {K : PySem.W.Frag} {C : Addr} {T : String} (c : PySem.W.isClsIn K C = true) (t : PySem.W.typeIn K (.ref C) = some (.type "type")) (s : PySem.W.subIn K (.type T) (.ref C) = some false) : PySem.W.kitOne K (.type T) (.ref C) = some false := by
  unfold PySem.W.kitOne
  rw [if_neg (by simp)]
  show (if ((PySem.W.clsIn K C).isSome && PySem.W.typeIn K (.ref C) == some (.type "type")) = true then PySem.W.subIn K (.type T) (.ref C) else none) = _
  rw [if_pos (by rw [t, show (PySem.W.clsIn K C).isSome = true from c]; decide +kernel)]
  exact s
theorem all_mk {h : Heap} {C_TooMany fI cc cda C_No C_Lay LE f_Layoutinit f_law_kneaded f_law_pot_of f_law_below f_law_pick f_is_integer f_is_name f_is_variant f_tags_of f_is_kind f_check_kind f_polynomial f_difference f_trimmed f_factor_at f_negated f_added f_multiplied f_divided f_common_divisor f_are_integers f_are_factors f_is_from_zero f_are_like f_multiple f_law_some_names f_law_some_kind f_law_any_kind f_law_some_factors f_law_by f_law_trimmed f_law_sum f_law_times f_law_less f_law_share f_law_pair f_law_due f_law fm_eq fm_mul fm_rmul fp_constant pp_constant : Addr} {fd_TooMany fd_Layoutinit fd_law_kneaded fd_law_pot_of fd_law_below fd_law_pick fd_is_integer fd_is_name fd_is_variant fd_tags_of fd_is_kind fd_check_kind fd_polynomial fd_difference fd_trimmed fd_factor_at fd_negated fd_added fd_multiplied fd_divided fd_common_divisor fd_are_integers fd_are_factors fd_is_from_zero fd_are_like fd_multiple fd_law_some_names fd_law_some_kind fd_law_any_kind fd_law_some_factors fd_law_by fd_law_trimmed fd_law_sum fd_law_times fd_law_less fd_law_share fd_law_pair fd_law_due fd_law fdm_eq fdm_mul fdm_rmul fdp_constant : FuncData} {tD : Tok} {fa : Addr} {g_radd g_rmul C_NK C_NN C_Rest fR_init fR_eq fR_order f_fbl pR_of fR_of : Addr} {fdR_init fdR_eq fdR_order fd_fbl fdR_of : FuncData} {fo ro fm rm : Option Value} {tL tDg tN tF tM tP : Tok} (X : K.In h) (G : h.Ns mainGlobals mg) (hfa : mg "law" = some (.ref fa))
    (k_TooMany : CK K C_TooMany LE) (k_No : CK K C_No LE) (s_TooMany : CK K C_TooMany LE → SupCls P K mg "TooMany" "TooMany.__init__" i_TooMany C_TooMany fI cc cda fd_TooMany) (no_limit : PySem.W.findIn K (.ref C_TooMany) "limit" = some none)
    (p_No : CK K C_No LE → PlainCls K mg "NoLayout" C_No) (nd : C_No ≠ C_TooMany ∧ C_No ≠ LE)
    (gLay : PySem.W.nsIn K mainGlobals "Layout" = some (some (.ref C_Lay))) (pg : PySem.W.plainGet K C_Lay Str.empty = true) (hd : PySem.W.hasDictIn K C_Lay = true) (po : PySem.W.plainOver K C_Lay = true) (sa : PySem.W.findIn K (.ref C_Lay) "__setattr__" = some (some (.builtin "object.__setattr__")))
    (naF : PySem.W.findIn K (.ref C_Lay) "factors" = some none) (naD : PySem.W.findIn K (.ref C_Lay) "degree" = some none) (mk : PySem.W.makesIn K C_Lay = true) (kp : PySem.W.keepIn K (.ref C_Lay) = true)
    (m_init : MethK K C_Lay "__init__" "Layout.__init__" s_Layoutinit f_Layoutinit fd_Layoutinit) (b_Layoutinit : Binds K fd_Layoutinit ["self", "factors"] [])
    (g_MOST : PySem.W.nsIn K mainGlobals "MOST_DEGREE" = some (some (.int 40 tD)))
    (tyC : PySem.W.typeIn K (.ref C_Lay) = some (.type "type"))
    (clsC : PySem.W.isClsIn K C_Lay = true)
    (ca : PySem.W.findIn K (.ref C_Lay) "__class__" = some (some (.builtin "object.__class__")))
    (cn : PySem.W.specialIn K (.builtin "object.__class__") "__get__" = some (some (.builtin "getset_descriptor.__get__")))
    (ct : PySem.W.takesIn K (.builtin "object.__class__") = some true)
    (cm : PySem.W.mroIn K C_Lay (.type "object") = some true)
    (rdI : PySem.W.readsIn K C_Lay (.type "type") = true)
    (rdG : PySem.W.specialIn K (.ref C_Lay) "__getattribute__" = some (some (.builtin "type.__getattribute__")))
    (fst : PySem.W.selfFirst K C_Lay = true)
    (raR : PySem.W.findIn K (.ref C_Lay) "__radd__" = some (some (.ref g_radd)))
    (raF : PySem.W.findIn K (.type "int") "__add__" = some fo)
    (raO : PySem.W.findIn K (.type "int") "__radd__" = some ro)
    (raS : PySem.W.subIn K (.type "int") (.ref C_Lay) = some false)
    (rmR : PySem.W.findIn K (.ref C_Lay) "__rmul__" = some (some (.ref g_rmul)))
    (rmF : PySem.W.findIn K (.type "int") "__mul__" = some fm)
    (rmO : PySem.W.findIn K (.type "int") "__rmul__" = some rm)
    (sLI : PySem.W.subIn K (.ref C_Lay) (.type "int") = some false)
    (p_NK : CK K C_NK LE → PlainCls K mg "NoKind" C_NK)
    (p_NN : CK K C_NN LE → PlainCls K mg "NoNumber" C_NN)
    (k_NK : CK K C_NK LE)
    (k_NN : CK K C_NN LE)
    (gRest : PySem.W.nsIn K mainGlobals "Rest" = some (some (.ref C_Rest)))
    (pgR : PySem.W.plainGet K C_Rest Str.empty = true)
    (hdR : PySem.W.hasDictIn K C_Rest = true)
    (poR : PySem.W.plainOver K C_Rest = true)
    (saR : PySem.W.findIn K (.ref C_Rest) "__setattr__" = some (some (.builtin "object.__setattr__")))
    (naKR : PySem.W.findIn K (.ref C_Rest) "kind" = some none)
    (naFR : PySem.W.findIn K (.ref C_Rest) "factors" = some none)
    (mkR : PySem.W.makesIn K C_Rest = true)
    (kpR : PySem.W.keepIn K (.ref C_Rest) = true)
    (caR : PySem.W.findIn K (.ref C_Rest) "__class__" = some (some (.builtin "object.__class__")))
    (cmR : PySem.W.mroIn K C_Rest (.type "object") = some true)
    (rdIR : PySem.W.readsIn K C_Rest (.type "type") = true)
    (rdGR : PySem.W.specialIn K (.ref C_Rest) "__getattribute__" = some (some (.builtin "type.__getattribute__")))
    (mR_init : MethK K C_Rest "__init__" "Rest.__init__" s_Restinit fR_init fdR_init)
    (bR_init : Binds K fdR_init ["self", "kind", "factors"] [])
    (mR_eq : MethO K C_Rest "__eq__" "Rest.__eq__" s_Resteq fR_eq fdR_eq)
    (bR_eq : Binds K fdR_eq ["self", "other"] [])
    (mR_order : MethO K C_Rest "order" "Rest.order" s_Restorder fR_order fdR_order)
    (bR_order : Binds K fdR_order ["self"] [])
    (d_fbl : AliasK K mg "factors_beside_layouts" "factors_beside" s_factors_beside_layouts f_fbl fd_fbl)
    (b_fbl : Binds K fd_fbl ["thing"] [])
    (cR_of : CMetK K C_Rest "of" "Rest.of" s_Restof pR_of fR_of fdR_of)
    (bR_of : Binds K fdR_of ["cls", "kind", "layout"] [])
    (g_LETTERS : PySem.W.nsIn K mainGlobals "LETTERS" = some (some (.str Kn.c_LETTERS tL)))
    (g_DIGITS : PySem.W.nsIn K mainGlobals "DIGITS" = some (some (.str Kn.c_DIGITS tDg)))
    (g_LONGEST_NAME : PySem.W.nsIn K mainGlobals "LONGEST_NAME" = some (some (.int 8 tN)))
    (g_FEWEST_VARIANTS : PySem.W.nsIn K mainGlobals "FEWEST_VARIANTS" = some (some (.int 2 tF)))
    (g_MOST_VARIANTS : PySem.W.nsIn K mainGlobals "MOST_VARIANTS" = some (some (.int 8 tM)))
    (g_MOST_PARTS : PySem.W.nsIn K mainGlobals "MOST_PARTS" = some (some (.int 4 tP)))
    (g_gcdN : PySem.W.nsIn K mainGlobals "gcd" = some (some (.builtin "math.gcd")))
    (m_eq : MethO K C_Lay "__eq__" "Layout.__eq__" s_Layouteq fm_eq fdm_eq) (bm_eq : Binds K fdm_eq ["self", "other"] [])
    (m_mul : MethO K C_Lay "__mul__" "Layout.__mul__" s_Layoutmul fm_mul fdm_mul) (bm_mul : Binds K fdm_mul ["self", "other"] [])
    (m_rmul : MethO K C_Lay "__rmul__" "Layout.__rmul__" s_Layoutrmul fm_rmul fdm_rmul) (bm_rmul : Binds K fdm_rmul ["self", "other"] [])
    (pr_constant : PropK K C_Lay "constant" "Layout.constant" s_Layoutconstant pp_constant fp_constant fdp_constant) (bp_constant : Binds K fdp_constant ["self"] [])
    (d_law_kneaded : DefK K mg "_law_kneaded" s_law_kneaded f_law_kneaded fd_law_kneaded)
    (d_law_pot_of : DefK K mg "_law_pot_of" s_law_pot_of f_law_pot_of fd_law_pot_of)
    (d_law_below : DefK K mg "_law_below" s_law_below f_law_below fd_law_below)
    (d_law_pick : DefK K mg "_law_pick" s_law_pick f_law_pick fd_law_pick)
    (d_is_integer : DefK K mg "is_integer" s_is_integer f_is_integer fd_is_integer)
    (d_is_name : DefK K mg "is_name" Kn.s_is_name f_is_name fd_is_name)
    (d_is_variant : DefK K mg "is_variant" Kn.s_is_variant f_is_variant fd_is_variant)
    (d_tags_of : DefK K mg "tags_of" Kn.s_tags_of f_tags_of fd_tags_of)
    (d_is_kind : DefK K mg "is_kind" Kn.s_is_kind f_is_kind fd_is_kind)
    (d_check_kind : DefK K mg "check_kind" s_check_kind f_check_kind fd_check_kind)
    (d_polynomial : DefK K mg "polynomial" Kn.s_polynomial f_polynomial fd_polynomial)
    (d_difference : DefK K mg "difference" Kn.s_difference f_difference fd_difference)
    (d_trimmed : DefK K mg "trimmed" s_trimmed f_trimmed fd_trimmed)
    (d_factor_at : DefK K mg "factor_at" s_factor_at f_factor_at fd_factor_at)
    (d_negated : DefK K mg "negated" s_negated f_negated fd_negated)
    (d_added : DefK K mg "added" s_added f_added fd_added)
    (d_multiplied : DefK K mg "multiplied" s_multiplied f_multiplied fd_multiplied)
    (d_divided : DefK K mg "divided" s_divided f_divided fd_divided)
    (d_common_divisor : DefK K mg "common_divisor" s_common_divisor f_common_divisor fd_common_divisor)
    (d_are_integers : DefK K mg "are_integers" s_are_integers f_are_integers fd_are_integers)
    (d_are_factors : DefK K mg "are_factors" s_are_factors f_are_factors fd_are_factors)
    (d_is_from_zero : DefK K mg "is_from_zero" s_is_from_zero f_is_from_zero fd_is_from_zero)
    (d_are_like : DefK K mg "are_like" s_are_like f_are_like fd_are_like)
    (d_multiple : DefK K mg "multiple" s_multiple f_multiple fd_multiple)
    (d_law_some_names : DefK K mg "_law_some_names" Kn.s_law_some_names f_law_some_names fd_law_some_names)
    (d_law_some_kind : DefK K mg "_law_some_kind" Kn.s_law_some_kind f_law_some_kind fd_law_some_kind)
    (d_law_any_kind : DefK K mg "_law_any_kind" Kn.s_law_any_kind f_law_any_kind fd_law_any_kind)
    (d_law_some_factors : DefK K mg "_law_some_factors" s_law_some_factors f_law_some_factors fd_law_some_factors)
    (d_law_by : DefK K mg "_law_by" Kn.s_law_by f_law_by fd_law_by)
    (d_law_trimmed : DefK K mg "_law_trimmed" s_law_trimmed f_law_trimmed fd_law_trimmed)
    (d_law_sum : DefK K mg "_law_sum" s_law_sum f_law_sum fd_law_sum)
    (d_law_times : DefK K mg "_law_times" s_law_times f_law_times fd_law_times)
    (d_law_less : DefK K mg "_law_less" s_law_less f_law_less fd_law_less)
    (d_law_share : DefK K mg "_law_share" s_law_share f_law_share fd_law_share)
    (d_law_pair : DefK K mg "_law_pair" s_law_pair f_law_pair fd_law_pair)
    (d_law_due : DefK K mg "_law_due" s_law_due f_law_due fd_law_due)
    (d_law : DefK K mg "law" s_law f_law fd_law)
    (b_law_kneaded : Binds K fd_law_kneaded ["seed", "lap"] [])
    (b_law_pot_of : Binds K fd_law_pot_of ["script"] [])
    (b_law_below : Binds K fd_law_below ["pot", "bound"] [])
    (b_law_pick : Binds K fd_law_pick ["pot", "items"] [])
    (b_is_integer : Binds K fd_is_integer ["thing"] [])
    (b_is_name : Binds K fd_is_name ["thing"] [])
    (b_is_variant : Binds K fd_is_variant ["thing"] [])
    (b_tags_of : Binds K fd_tags_of ["kind"] [])
    (b_is_kind : Binds K fd_is_kind ["thing"] [])
    (b_check_kind : Binds K fd_check_kind ["thing"] [])
    (b_polynomial : Binds K fd_polynomial ["kind"] [])
    (b_difference : Binds K fd_difference ["kind"] [])
    (b_trimmed : Binds K fd_trimmed ["factors"] [])
    (b_factor_at : Binds K fd_factor_at ["factors", "k"] [])
    (b_negated : Binds K fd_negated ["factors"] [])
    (b_added : Binds K fd_added ["one", "other"] [])
    (b_multiplied : Binds K fd_multiplied ["one", "other"] [])
    (b_divided : Binds K fd_divided ["factors", "divisor"] [])
    (b_common_divisor : Binds K fd_common_divisor ["factors"] [])
    (b_are_integers : Binds K fd_are_integers ["thing"] [])
    (b_are_factors : Binds K fd_are_factors ["thing"] [])
    (b_is_from_zero : Binds K fd_is_from_zero ["thing"] [])
    (b_are_like : Binds K fd_are_like ["kind", "one", "other"] [])
    (b_multiple : Binds K fd_multiple ["kind", "one", "other"] [])
    (b_law_some_names : Binds K fd_law_some_names ["pot", "many"] [])
    (b_law_some_kind : Binds K fd_law_some_kind ["pot"] [])
    (b_law_any_kind : Binds K fd_law_any_kind ["pot"] [])
    (b_law_some_factors : Binds K fd_law_some_factors ["pot", "many", "most"] [])
    (b_law_by : Binds K fd_law_by ["kind"] [])
    (b_law_trimmed : Binds K fd_law_trimmed ["factors"] [])
    (b_law_sum : Binds K fd_law_sum ["one", "other"] [])
    (b_law_times : Binds K fd_law_times ["one", "other"] [])
    (b_law_less : Binds K fd_law_less ["one", "other"] [])
    (b_law_share : Binds K fd_law_share ["factors", "by"] [])
    (b_law_pair : Binds K fd_law_pair ["pot", "kind"] [])
    (b_law_due : Binds K fd_law_due ["kind", "one", "other"] [])
    (b_law : Binds K fd_law ["script"] [])
    (n_int : PySem.W.nsIn K mainGlobals "int" = some none)
    (n_range : PySem.W.nsIn K mainGlobals "range" = some none)
    (n_abs : PySem.W.nsIn K mainGlobals "abs" = some none)
    (n_enumerate : PySem.W.nsIn K mainGlobals "enumerate" = some none)
    (n_len : PySem.W.nsIn K mainGlobals "len" = some none)
    (n_isinstance : PySem.W.nsIn K mainGlobals "isinstance" = some none)
    (n_bool : PySem.W.nsIn K mainGlobals "bool" = some none)
    (n_list : PySem.W.nsIn K mainGlobals "list" = some none)
    (n_tuple : PySem.W.nsIn K mainGlobals "tuple" = some none)
    (n_all : PySem.W.nsIn K mainGlobals "all" = some none)
    (n_sum : PySem.W.nsIn K mainGlobals "sum" = some none)
    (n_max : PySem.W.nsIn K mainGlobals "max" = some none)
    (n_repr : PySem.W.nsIn K mainGlobals "repr" = some none)
    (n_reversed : PySem.W.nsIn K mainGlobals "reversed" = some none)
    (n_zip : PySem.W.nsIn K mainGlobals "zip" = some none)
    (n_min : PySem.W.nsIn K mainGlobals "min" = some none)
    (n_str : PySem.W.nsIn K mainGlobals "str" = some none)
    (n_set : PySem.W.nsIn K mainGlobals "set" = some none)
    (n_any : PySem.W.nsIn K mainGlobals "any" = some none)
    (bindL : ∀ (s : Shared) (v : Value), BindsTo s fd_law ⟨[v], []⟩ [("script", v)]) :
    ∃ fd : FuncData, (∀ (s : Shared) (v : Value), BindsTo s fd ⟨[v], []⟩ [("script", v)]) ∧ ∀ base : Heap, K.In base → base.Ns mainGlobals mg → FnG P w K mg base CX0 11 fa fd ["script"] (spLaw K) := by
  have e := hfa.symm.trans d_law.g
  cases e
  refine ⟨fd_law, bindL, fun base _ _ => ?_⟩
  have TD : TxtD mg := { n_int := PySem.W.mg_none_of X G n_int, n_range := PySem.W.mg_none_of X G n_range, n_abs := PySem.W.mg_none_of X G n_abs, n_enumerate := PySem.W.mg_none_of X G n_enumerate, n_len := PySem.W.mg_none_of X G n_len }
  have TF : TxtF mg := { n_isinstance := PySem.W.mg_none_of X G n_isinstance, n_int := PySem.W.mg_none_of X G n_int, n_bool := PySem.W.mg_none_of X G n_bool, n_len := PySem.W.mg_none_of X G n_len, n_list := PySem.W.mg_none_of X G n_list, n_tuple := PySem.W.mg_none_of X G n_tuple, n_all := PySem.W.mg_none_of X G n_all }
  have TL : TxtL mg := { n_len := PySem.W.mg_none_of X G n_len, n_bool := PySem.W.mg_none_of X G n_bool, n_sum := PySem.W.mg_none_of X G n_sum, n_max := PySem.W.mg_none_of X G n_max, n_range := PySem.W.mg_none_of X G n_range, n_isinstance := PySem.W.mg_none_of X G n_isinstance, n_list := PySem.W.mg_none_of X G n_list, n_tuple := PySem.W.mg_none_of X G n_tuple, n_repr := PySem.W.mg_none_of X G n_repr }
  have TQ : TxtQ mg := { n_len := PySem.W.mg_none_of X G n_len, n_range := PySem.W.mg_none_of X G n_range, n_enumerate := PySem.W.mg_none_of X G n_enumerate, n_max := PySem.W.mg_none_of X G n_max }
  have TV : TxtV mg := { n_len := PySem.W.mg_none_of X G n_len, n_range := PySem.W.mg_none_of X G n_range, n_enumerate := PySem.W.mg_none_of X G n_enumerate, n_list := PySem.W.mg_none_of X G n_list, n_reversed := PySem.W.mg_none_of X G n_reversed }
  have TM : TxtM mg := { n_range := PySem.W.mg_none_of X G n_range }
  have TMK : Kn.TxtM mg := { n_list := PySem.W.mg_none_of X G n_list, n_range := PySem.W.mg_none_of X G n_range, n_len := PySem.W.mg_none_of X G n_len, n_tuple := PySem.W.mg_none_of X G n_tuple, n_zip := PySem.W.mg_none_of X G n_zip }
  have TNG : TxtN mg := { n_tuple := PySem.W.mg_none_of X G n_tuple }
  have TB : Kn.TxtB mg := { n_max := PySem.W.mg_none_of X G n_max }
  have TW : TxtW mg := { n_list := PySem.W.mg_none_of X G n_list, n_len := PySem.W.mg_none_of X G n_len, n_enumerate := PySem.W.mg_none_of X G n_enumerate, n_range := PySem.W.mg_none_of X G n_range }
  have TDU : TxtDu mg := { n_len := PySem.W.mg_none_of X G n_len, n_min := PySem.W.mg_none_of X G n_min, n_range := PySem.W.mg_none_of X G n_range }
  have TPA : TxtPa mg := { n_max := PySem.W.mg_none_of X G n_max, n_range := PySem.W.mg_none_of X G n_range }
  have TLW : TxtLW mg := { n_repr := PySem.W.mg_none_of X G n_repr, n_int := PySem.W.mg_none_of X G n_int, n_range := PySem.W.mg_none_of X G n_range }
  have TY : TxtY mg tD := { n_len := PySem.W.mg_none_of X G n_len, g_MOST_DEGREE := PySem.W.mg_of X G g_MOST }
  let d : LayD := { too := ⟨C_TooMany, fI, cc, cda, fd_TooMany⟩, no := C_No, lay := C_Lay }
  have n1 : ∀ A B : Addr, A ≠ B → (Value.ref A == Value.ref B) = false := fun A B z => beq_eq_false_iff_ne.mpr fun q => z (by cases q; rfl)
  have D : LayF P K mg d := {
    too := s_TooMany k_TooMany
    noL := no_limit
    no := p_No k_No
    noB := (k_No.mro _).trans (by rw [show (mroVE C_No LE).contains (.type "BaseException") = true by simp])
    noT := k_No.t
    lay := ⟨pg, hd, po, sa⟩
    gLay := PySem.W.mg_of X G gLay
    exNN := (exm_to k_No k_No).trans (by rw [show (mroVE C_No LE).contains (.ref C_No) = true by simp])
    exTN := (exm_to k_TooMany k_No).trans (by rw [show (mroVE C_TooMany LE).contains (.ref C_No) = false by simp [mroVE, nd.1, nd.2]])
    exTT := (exm_to k_TooMany k_TooMany).trans (by rw [show (mroVE C_TooMany LE).contains (.ref C_TooMany) = true by simp])
    xf := k_TooMany.xf
    naF := naF
    naD := naD }
  have M : Mk K d.lay f_Layoutinit := ⟨mk, m_init.i, m_init.fn, kp⟩
  have TN : Kn.TxtN mg tL tDg tN := { n_isinstance := PySem.W.mg_none_of X G n_isinstance, n_str := PySem.W.mg_none_of X G n_str, n_int := PySem.W.mg_none_of X G n_int, n_bool := PySem.W.mg_none_of X G n_bool, n_len := PySem.W.mg_none_of X G n_len, n_all := PySem.W.mg_none_of X G n_all, g_LETTERS := PySem.W.mg_of X G g_LETTERS, g_DIGITS := PySem.W.mg_of X G g_DIGITS, g_LONGEST_NAME := PySem.W.mg_of X G g_LONGEST_NAME }
  have TK : Kn.TxtK mg tF tM tP := { n_isinstance := PySem.W.mg_none_of X G n_isinstance, n_tuple := PySem.W.mg_none_of X G n_tuple, n_len := PySem.W.mg_none_of X G n_len, n_set := PySem.W.mg_none_of X G n_set, n_all := PySem.W.mg_none_of X G n_all, n_any := PySem.W.mg_none_of X G n_any, n_str := PySem.W.mg_none_of X G n_str, n_int := PySem.W.mg_none_of X G n_int, n_bool := PySem.W.mg_none_of X G n_bool, g_FEWEST_VARIANTS := PySem.W.mg_of X G g_FEWEST_VARIANTS, g_MOST_VARIANTS := PySem.W.mg_of X G g_MOST_VARIANTS, g_MOST_PARTS := PySem.W.mg_of X G g_MOST_PARTS }
  have TP : Kn.TxtP mg tP := { n_range := PySem.W.mg_none_of X G n_range, n_tuple := PySem.W.mg_none_of X G n_tuple, g_MOST_PARTS := PySem.W.mg_of X G g_MOST_PARTS }
  have G_law_pot_of := ok_pot_of (P := P) (w := w) (base := base) (k := 0) d_law_pot_of.F TD
  have G_law_below := ok_below (P := P) (w := w) (base := base) (k := 0) d_law_below.F TD d_law_kneaded.F b_law_kneaded d_law_kneaded.g
  have G_law_pick := ok_pick (P := P) (w := w) (base := base) (k := 0) d_law_pick.F TD d_law_below.F b_law_below d_law_below.g G_law_below
  have G_is_integer := ok_is_integer (P := P) (w := w) (base := base) (k := 0) d_is_integer.F TF
  have GK_is_integer := Kn.ok_is_integer (P := P) (w := w) (base := base) (k := 0) d_is_integer.F TN
  have G_is_name := Kn.ok_is_name (P := P) (w := w) (base := base) (k := 0) d_is_name.F TN
  have G_is_variant := Kn.ok_is_variant (P := P) (w := w) (base := base) (k := 0) d_is_variant.F TK d_is_name.F b_is_name d_is_name.g G_is_name d_is_integer.F b_is_integer d_is_integer.g GK_is_integer
  have G_tags_of := Kn.ok_tags_of (P := P) (w := w) (mg := mg) (base := base) (k := 0) d_tags_of.F
  have G_is_kind := Kn.ok_is_kind (P := P) (w := w) (base := base) (k := 1) d_is_kind.F TK d_is_variant.F b_is_variant d_is_variant.g G_is_variant d_tags_of.F b_tags_of d_tags_of.g G_tags_of
  have G_polynomial := Kn.ok_polynomial (P := P) (w := w) (base := base) (k := 0) d_polynomial.F TP
  have G_difference := Kn.ok_difference (P := P) (w := w) (base := base) (k := 0) d_difference.F d_polynomial.F b_polynomial d_polynomial.g G_polynomial
  have G_trimmed := ok_trimmed (P := P) (w := w) (base := base) (k := 0) d_trimmed.F TF
  have G_are_factors := ok_are_factors (P := P) (w := w) (base := base) (k := 0) d_are_factors.F TF d_is_integer.F b_is_integer d_is_integer.g G_is_integer
  have GI := ok_Layoutinit (P := P) (w := w) (base := base) (k := 0) m_init.F TY D d_are_factors.F b_are_factors d_are_factors.g G_are_factors d_trimmed.F b_trimmed d_trimmed.g G_trimmed
  have RL := mk_of_lay GI b_Layoutinit
  have LG : LayG K d.lay (.type "type") := ⟨kit_self _, kit_int_own clsC tyC raS, ca, cn, ct, cm, ⟨rdI, rdG⟩, fst, ⟨⟨_, raR, .inr ⟨_, rfl⟩⟩, ⟨_, raF⟩, ⟨_, raO⟩, raS⟩⟩
  have mulI : BinI K d.lay "__mul__" "__rmul__" "int" := ⟨⟨_, rmR, .inr ⟨_, rfl⟩⟩, ⟨_, rmF⟩, ⟨_, rmO⟩, raS⟩
  have mulR : BinR K d.lay "__mul__" "__rmul__" := ⟨⟨_, m_mul.M.at_⟩, ⟨_, rmF⟩, ⟨_, rmO⟩, sLI⟩
  let dr : RestD := ⟨C_NK, C_NN, C_Rest⟩
  have R : RestF P K mg dr := { nk := p_NK k_NK, nkB := (k_NK.mro _).trans (by rw [show (mroVE C_NK LE).contains (.type "BaseException") = true by simp]), nkT := k_NK.t, nn := p_NN k_NN, nnB := (k_NN.mro _).trans (by rw [show (mroVE C_NN LE).contains (.type "BaseException") = true by simp]), nnT := k_NN.t, rest := ⟨pgR, hdR, poR, saR⟩, gRest := PySem.W.mg_of X G gRest, naK := naKR, naF := naFR }
  have RG : RestG K dr.rest (.type "type") := ⟨kit_self _, caR, cn, ct, cmR, ⟨rdIR, rdGR⟩⟩
  have G_check_kind := ok_check (P := P) (w := w) (base := base) (k := 0) d_check_kind.F R d_is_kind.F b_is_kind d_is_kind.g G_is_kind
  have G_are_integers := ok_are_integers (P := P) (w := w) (base := base) (k := 0) d_are_integers.F TF d_is_integer.F b_is_integer d_is_integer.g G_is_integer
  have G_divided := ok_divided (P := P) (w := w) (base := base) (k := 0) d_divided.F TV d_trimmed.F b_trimmed d_trimmed.g G_trimmed
  have GDL := ok_dividedL (P := P) (w := w) (base := base) (k := 0) d_divided.F TV d_trimmed.F b_trimmed d_trimmed.g G_trimmed
  have G_factor_at := ok_factor_at (P := P) (w := w) (base := base) (k := 0) d_factor_at.F TL
  have G_added := ok_added (P := P) (w := w) (base := base) (k := 0) d_added.F TL d_trimmed.F b_trimmed d_trimmed.g G_trimmed d_factor_at.F b_factor_at d_factor_at.g G_factor_at
  have G_negated := ok_negated (P := P) (w := w) (base := base) (k := 0) d_negated.F TNG
  have G_multiplied := ok_multiplied (P := P) (w := w) (base := base) (k := 0) d_multiplied.F TQ d_trimmed.F b_trimmed d_trimmed.g G_trimmed
  have g_gcd := PySem.W.mg_of X G g_gcdN
  have G_common_divisor := ok_common (P := P) (w := w) (base := base) (k := 0) d_common_divisor.F g_gcd
  have M_Rest : Mk K dr.rest fR_init := ⟨mkR, mR_init.i, mR_init.fn, kpR⟩
  have R_Rest : FnR P w K mg base (L2.CX P w) _ _ _ := (ok_Restinit (P := P) (w := w) (base := base) (k := 0) mR_init.F R d_check_kind.F b_check_kind d_check_kind.g G_check_kind d_are_integers.F b_are_integers d_are_integers.g G_are_integers d_divided.F b_divided d_divided.g G_divided d_difference.F b_difference d_difference.g G_difference).raw bR_init .nil
  simp only [List.append_nil] at R_Rest
  have R_of : FnR P w K mg base CX0 _ _ _ := (ok_of (P := P) (w := w) (base := base) (k := 0) cR_of.F D R M_Rest R_Rest).raw bR_of .nil
  simp only [List.append_nil] at R_of
  have R_eqR : FnR P w K mg base CX0 _ _ _ := (ok_ResteqG (P := P) (w := w) (base := base) (k := 0) mR_eq.F TL R RG).raw bR_eq .nil
  simp only [List.append_nil] at R_eqR
  have G_order := ok_order (P := P) (w := w) (base := base) (k := 0) mR_order.F R d_difference.F b_difference d_difference.g G_difference d_common_divisor.F b_common_divisor d_common_divisor.g G_common_divisor d_divided.F b_divided d_divided.g GDL
  have G_is_from_zero := ok_is_from_zero (P := P) (w := w) (base := base) (k := 0) d_is_from_zero.F d_is_integer.F b_is_integer d_is_integer.g G_is_integer
  have G_fbl := ok_factors_beside (P := P) (w := w) (base := base) (k := 0) d_fbl.F TL D LG d_is_from_zero.F b_is_from_zero d_is_from_zero.g G_is_from_zero
  have R_mul : FnR P w K mg base (L2.CX P w) _ _ _ := (ok_mul (P := P) (w := w) (base := base) (k := 0) m_mul.F D M GI b_Layoutinit d_fbl.F b_fbl d_fbl.g G_fbl d_multiplied.F b_multiplied d_multiplied.g G_multiplied).raw bm_mul .nil
  simp only [List.append_nil] at R_mul
  have R_rmul : FnR P w K mg base (L2.CX P w) _ _ _ := (ok_rmul (P := P) (w := w) (base := base) (k := 0) m_rmul.F D LG mulI m_mul.M R_mul d_is_from_zero.F b_is_from_zero d_is_from_zero.g G_is_from_zero).raw bm_rmul .nil
  simp only [List.append_nil] at R_rmul
  have R_eq : FnR P w K mg base CX0 _ _ _ := (ok_layeqB (P := P) (w := w) (base := base) (k := 0) m_eq.F TL D LG).raw bm_eq .nil
  simp only [List.append_nil] at R_eq
  have GP_constant := ok_constant (P := P) (w := w) (base := base) (k := 0) pr_constant.F D
  have G_are_like := ok_are_like (P := P) (w := w) (base := base) (k := 0) d_are_like.F D LG R RG d_check_kind.F b_check_kind d_check_kind.g G_check_kind m_eq.M R_eq pr_constant.M bp_constant GP_constant mR_eq.M R_eqR cR_of.M R_of
  have G_multiple := ok_multiple (P := P) (w := w) (base := base) (k := 0) d_multiple.F D LG R d_check_kind.F b_check_kind d_check_kind.g G_check_kind d_added.F b_added d_added.g G_added d_negated.F b_negated d_negated.g G_negated m_eq.M R_eq pr_constant.M bp_constant GP_constant M_Rest R_Rest mR_order.M bR_order G_order
  have G_law_some_names := Kn.ok_some_names (P := P) (w := w) (base := base) (k := 0) d_law_some_names.F TMK d_law_below.F b_law_below d_law_below.g G_law_below d_law_pick.F b_law_pick d_law_pick.g G_law_pick
  have G_law_some_kind := Kn.ok_some_kind (P := P) (w := w) (base := base) (k := 0) d_law_some_kind.F TMK d_law_below.F b_law_below d_law_below.g G_law_below d_law_pick.F b_law_pick d_law_pick.g G_law_pick d_law_some_names.F b_law_some_names d_law_some_names.g G_law_some_names
  have G_law_any_kind := Kn.ok_any_kind (P := P) (w := w) (base := base) (k := 0) d_law_any_kind.F TMK d_law_below.F b_law_below d_law_below.g G_law_below d_law_pick.F b_law_pick d_law_pick.g G_law_pick d_law_some_names.F b_law_some_names d_law_some_names.g G_law_some_names d_law_some_kind.F b_law_some_kind d_law_some_kind.g G_law_some_kind
  have G_law_some_factors := ok_some_factors (P := P) (w := w) (base := base) (k := 0) d_law_some_factors.F TM d_law_below.F b_law_below d_law_below.g G_law_below d_law_pick.F b_law_pick d_law_pick.g G_law_pick
  have G_law_by := Kn.ok_by (P := P) (w := w) (base := base) (k := 0) d_law_by.F TB
  have G_law_trimmed := ok_law_trimmed (P := P) (w := w) (base := base) (k := 0) d_law_trimmed.F TL
  have G_law_sum := ok_law_sum (P := P) (w := w) (base := base) (k := 0) d_law_sum.F TQ d_law_trimmed.F b_law_trimmed d_law_trimmed.g G_law_trimmed
  have G_law_times := ok_law_times (P := P) (w := w) (base := base) (k := 0) d_law_times.F TQ d_law_trimmed.F b_law_trimmed d_law_trimmed.g G_law_trimmed
  have G_law_less := ok_lessL (P := P) (w := w) (base := base) (k := 0) d_law_less.F d_law_sum.F b_law_sum d_law_sum.g G_law_sum
  have G_law_share := ok_share (P := P) (w := w) (base := base) (k := 0) d_law_share.F TW d_law_trimmed.F b_law_trimmed d_law_trimmed.g G_law_trimmed
  have G_law_pair := ok_pair (P := P) (w := w) (base := base) (k := 0) d_law_pair.F TPA ⟨d_law_by.F, b_law_by, d_law_by.g, G_law_by⟩ ⟨d_law_pick.F, b_law_pick, d_law_pick.g, G_law_pick⟩ ⟨d_law_below.F, b_law_below, d_law_below.g, G_law_below⟩ ⟨d_law_times.F, b_law_times, d_law_times.g, G_law_times⟩ ⟨d_law_some_factors.F, b_law_some_factors, d_law_some_factors.g, G_law_some_factors⟩ ⟨d_law_sum.F, b_law_sum, d_law_sum.g, G_law_sum⟩
  have G_law_due := ok_due (P := P) (w := w) (base := base) (k := 0) d_law_due.F TDU ⟨d_law_trimmed.F, b_law_trimmed, d_law_trimmed.g, G_law_trimmed⟩ ⟨d_law_less.F, b_law_less, d_law_less.g, G_law_less⟩ ⟨d_law_by.F, b_law_by, d_law_by.g, G_law_by⟩ ⟨d_law_share.F, b_law_share, d_law_share.g, G_law_share⟩
  exact go_law d_law.F TLW D LG M RL mulI m_mul.M R_mul mulR m_rmul.M R_rmul ⟨d_law_pot_of.F, b_law_pot_of, d_law_pot_of.g, G_law_pot_of⟩ ⟨d_law_below.F, b_law_below, d_law_below.g, G_law_below⟩ ⟨d_law_any_kind.F, b_law_any_kind, d_law_any_kind.g, G_law_any_kind⟩ ⟨d_law_pair.F, b_law_pair, d_law_pair.g, G_law_pair⟩ ⟨d_law_some_factors.F, b_law_some_factors, d_law_some_factors.g, G_law_some_factors⟩ ⟨d_law_due.F, b_law_due, d_law_due.g, G_law_due⟩ ⟨d_multiple.F, b_multiple, d_multiple.g, G_multiple⟩ ⟨d_are_like.F, b_are_like, d_are_like.g, G_are_like⟩
end
end My

open PySem PySem.W PyProof.Rows
theorem PySem.Challenge.cw_layoutswap_k15_multiples_holds : PySem.Challenge.rw_layoutswap_k15_multiples.Holds := by
  w_on; o_law; k_head; (case hw => w_witness2)
  k_fill
  refine My.walk_ofG (l := PySem.Challenge.rw_layoutswap_k15_multiples) (n := 63) (k := 11) (x := "script") (sp := My.spLaw) rfl (by decide) rfl ⟨rfl, by decide, by decide⟩ (fun w h Y => PySem.W.kIn_of Y) ?F (fun K H a ns hl hS => ⟨a, ns, rfl, hS, Nat.le_trans hl (by decide), fun _ => rfl⟩)
  case F =>
    intro w mg fa h KX G hmg
    refine' My.all_mk KX G hmg ?k_TooMany ?k_No ?s_TooMany ?no_limit ?p_No ?nd ?gLay ?pg ?hd ?po ?sa ?naF ?naD ?mk ?kp ?m_init ?b_Layoutinit ?g_MOST ?tyC ?clsC ?ca ?cn ?ct ?cm ?rdI ?rdG ?fst ?raR ?raF ?raO ?raS ?rmR ?rmF ?rmO ?sLI ?p_NK ?p_NN ?k_NK ?k_NN ?gRest ?pgR ?hdR ?poR ?saR ?naKR ?naFR ?mkR ?kpR ?caR ?cmR ?rdIR ?rdGR ?mR_init ?bR_init ?mR_eq ?bR_eq ?mR_order ?bR_order ?d_fbl ?b_fbl ?cR_of ?bR_of ?g_LETTERS ?g_DIGITS ?g_LONGEST_NAME ?g_FEWEST_VARIANTS ?g_MOST_VARIANTS ?g_MOST_PARTS ?g_gcdN ?m_eq ?bm_eq ?m_mul ?bm_mul ?m_rmul ?bm_rmul ?pr_constant ?bp_constant ?d_law_kneaded ?d_law_pot_of ?d_law_below ?d_law_pick ?d_is_integer ?d_is_name ?d_is_variant ?d_tags_of ?d_is_kind ?d_check_kind ?d_polynomial ?d_difference ?d_trimmed ?d_factor_at ?d_negated ?d_added ?d_multiplied ?d_divided ?d_common_divisor ?d_are_integers ?d_are_factors ?d_is_from_zero ?d_are_like ?d_multiple ?d_law_some_names ?d_law_some_kind ?d_law_any_kind ?d_law_some_factors ?d_law_by ?d_law_trimmed ?d_law_sum ?d_law_times ?d_law_less ?d_law_share ?d_law_pair ?d_law_due ?d_law ?b_law_kneaded ?b_law_pot_of ?b_law_below ?b_law_pick ?b_is_integer ?b_is_name ?b_is_variant ?b_tags_of ?b_is_kind ?b_check_kind ?b_polynomial ?b_difference ?b_trimmed ?b_factor_at ?b_negated ?b_added ?b_multiplied ?b_divided ?b_common_divisor ?b_are_integers ?b_are_factors ?b_is_from_zero ?b_are_like ?b_multiple ?b_law_some_names ?b_law_some_kind ?b_law_any_kind ?b_law_some_factors ?b_law_by ?b_law_trimmed ?b_law_sum ?b_law_times ?b_law_less ?b_law_share ?b_law_pair ?b_law_due ?b_law ?n_int ?n_range ?n_abs ?n_enumerate ?n_len ?n_isinstance ?n_bool ?n_list ?n_tuple ?n_all ?n_sum ?n_max ?n_repr ?n_reversed ?n_zip ?n_min ?n_str ?n_set ?n_any ?bindL
    (case gLay => k_is); (case g_MOST => k_is)
    (case s_TooMany => (intro c; refine' My.sup_mk KX G c ?zzgC ?zzlC ?zzrv ?zzsa ?zziC ?zztI ?zzlI ?zzcdq ?zzlc ?zzhv ?zzhf ?zzlcc ?zznoS ?zzanyC ?zzsupI ?zznoTop; (case zzgC => k_is); (case zzlC => k_is); (case zzrv => decide +kernel); (case zzsa => k_is); (case zziC => k_is); (case zztI => k_is); (case zzlI => k_is); (case zzcdq => k_is); (case zzlc => k_is); (case zzhv => exact rfl); (case zzhf => decide +kernel); (case zzlcc => k_is); (case zznoS => k_is); (case zzanyC => k_is); (case zzsupI => ks_is); (case zznoTop => decide +kernel)))
    (case p_No => (intro c; refine' My.plain_mk KX G c ?zzgC ?zzq; (case zzgC => k_is); (case zzq => k_exc)))
    (case k_TooMany => (refine' My.ck_mk ?zzm ?zzr ?zzt ?zzk ?zzhg ?zzhk ?zzhd ?zzha; (case zzm => k_is); (case zzr => exact rfl); (case zzt => k_is); (case zzk => k_is); (case zzhg => k_is); (case zzhk => k_is); (case zzhd => k_is); (case zzha => k_is)))
    (case k_No => (refine' My.ck_mk ?zzm ?zzr ?zzt ?zzk ?zzhg ?zzhk ?zzhd ?zzha; (case zzm => k_is); (case zzr => exact rfl); (case zzt => k_is); (case zzk => k_is); (case zzhg => k_is); (case zzhk => k_is); (case zzhd => k_is); (case zzha => k_is)))
    (case no_limit => k_is); (case nd => decide); (case pg => k_is); (case hd => k_is); (case po => k_is); (case sa => k_is); (case naF => k_is); (case naD => k_is); (case mk => k_is); (case kp => k_is)
    (case m_init => (refine' My.meth_mk ?zzi ?zzn ?zzl ?zzc ?zzk; (case zzi => k_is); (case zzn => k_is); (case zzl => k_is); (case zzc => k_is); (case zzk => k_is)))
    (case b_Layoutinit => exact .all fun us hl => match us, hl with | [_, _], _ => rfl)
    (case tyC => k_is)
    (case clsC => k_is)
    (case ca => k_is)
    (case cn => k_is)
    (case ct => k_is)
    (case cm => k_is)
    (case rdI => k_is)
    (case rdG => k_is)
    (case fst => k_is)
    (case raR => k_is)
    (case raF => k_is)
    (case raO => k_is)
    (case raS => k_is)
    (case rmR => k_is)
    (case rmF => k_is)
    (case rmO => k_is)
    (case sLI => k_is)
    (case p_NK => (intro c; refine' My.plain_mk KX G c ?zzgC ?zzq; (case zzgC => k_is); (case zzq => k_exc)))
    (case p_NN => (intro c; refine' My.plain_mk KX G c ?zzgC ?zzq; (case zzgC => k_is); (case zzq => k_exc)))
    (case k_NK => (refine' My.ck_mk ?zzm ?zzr ?zzt ?zzk ?zzhg ?zzhk ?zzhd ?zzha; (case zzm => k_is); (case zzr => exact rfl); (case zzt => k_is); (case zzk => k_is); (case zzhg => k_is); (case zzhk => k_is); (case zzhd => k_is); (case zzha => k_is)))
    (case k_NN => (refine' My.ck_mk ?zzm ?zzr ?zzt ?zzk ?zzhg ?zzhk ?zzhd ?zzha; (case zzm => k_is); (case zzr => exact rfl); (case zzt => k_is); (case zzk => k_is); (case zzhg => k_is); (case zzhk => k_is); (case zzhd => k_is); (case zzha => k_is)))
    (case gRest => k_is)
    (case pgR => k_is)
    (case hdR => k_is)
    (case poR => k_is)
    (case saR => k_is)
    (case naKR => k_is)
    (case naFR => k_is)
    (case mkR => k_is)
    (case kpR => k_is)
    (case caR => k_is)
    (case cmR => k_is)
    (case rdIR => k_is)
    (case rdGR => k_is)
    (case mR_init => (refine' My.meth_mk ?zzi ?zzn ?zzl ?zzc ?zzk; (case zzi => k_is); (case zzn => k_is); (case zzl => k_is); (case zzc => k_is); (case zzk => k_is)))
    (case bR_init => exact .all fun us hl => match us, hl with | [_, _, _], _ => rfl)
    (case mR_eq => (refine' My.metho_mk ?zzi ?zzn ?zzf ?zzl ?zzc ?zzk; (case zzi => k_is); (case zzn => k_is); (case zzf => k_is); (case zzl => k_is); (case zzc => k_is); (case zzk => k_is)))
    (case bR_eq => exact .all fun us hl => match us, hl with | [_, _], _ => rfl)
    (case mR_order => (refine' My.metho_mk ?zzi ?zzn ?zzf ?zzl ?zzc ?zzk; (case zzi => k_is); (case zzn => k_is); (case zzf => k_is); (case zzl => k_is); (case zzc => k_is); (case zzk => k_is)))
    (case bR_order => exact .all fun us hl => match us, hl with | [_], _ => rfl)
    (case d_fbl => (refine' My.alias_mk KX G ?zzg ?zzl ?zzc ?zzk; (case zzg => k_is); (case zzl => k_is); (case zzc => k_is); (case zzk => k_is)))
    (case b_fbl => exact .all fun us hl => match us, hl with | [_], _ => rfl)
    (case cR_of => (refine' My.cmetk_mk ?zzi ?zzr ?zzf ?zzl ?zzc ?zzk; (case zzi => k_is); (case zzr => k_is); (case zzf => k_is); (case zzl => k_is); (case zzc => k_is); (case zzk => k_is)))
    (case bR_of => exact .all fun us hl => match us, hl with | [_, _, _], _ => rfl)
    (case g_LETTERS => k_is)
    (case g_DIGITS => k_is)
    (case g_LONGEST_NAME => k_is)
    (case g_FEWEST_VARIANTS => k_is)
    (case g_MOST_VARIANTS => k_is)
    (case g_MOST_PARTS => k_is)
    (case g_gcdN => k_is)
    (case m_eq => (refine' My.metho_mk ?zzi ?zzn ?zzf ?zzl ?zzc ?zzk; (case zzi => k_is); (case zzn => k_is); (case zzf => k_is); (case zzl => k_is); (case zzc => k_is); (case zzk => k_is)))
    (case bm_eq => exact .all fun us hl => match us, hl with | [_, _], _ => rfl)
    (case m_mul => (refine' My.metho_mk ?zzi ?zzn ?zzf ?zzl ?zzc ?zzk; (case zzi => k_is); (case zzn => k_is); (case zzf => k_is); (case zzl => k_is); (case zzc => k_is); (case zzk => k_is)))
    (case bm_mul => exact .all fun us hl => match us, hl with | [_, _], _ => rfl)
    (case m_rmul => (refine' My.metho_mk ?zzi ?zzn ?zzf ?zzl ?zzc ?zzk; (case zzi => k_is); (case zzn => k_is); (case zzf => k_is); (case zzl => k_is); (case zzc => k_is); (case zzk => k_is)))
    (case bm_rmul => exact .all fun us hl => match us, hl with | [_, _], _ => rfl)
    (case pr_constant => (refine' My.propk_mk ?zzi ?zzg ?zzt ?zzr ?zzl ?zzc ?zzk; (case zzi => k_is); (case zzg => k_is); (case zzt => k_is); (case zzr => k_is); (case zzl => k_is); (case zzc => k_is); (case zzk => k_is)))
    (case bp_constant => exact .all fun us hl => match us, hl with | [_], _ => rfl)
    (case d_law_kneaded => (refine' My.def_mk KX G ?zzg ?zzl ?zzc ?zzk; (case zzg => k_is); (case zzl => k_is); (case zzc => k_is); (case zzk => k_is)))
    (case d_law_pot_of => (refine' My.def_mk KX G ?zzg ?zzl ?zzc ?zzk; (case zzg => k_is); (case zzl => k_is); (case zzc => k_is); (case zzk => k_is)))
    (case d_law_below => (refine' My.def_mk KX G ?zzg ?zzl ?zzc ?zzk; (case zzg => k_is); (case zzl => k_is); (case zzc => k_is); (case zzk => k_is)))
    (case d_law_pick => (refine' My.def_mk KX G ?zzg ?zzl ?zzc ?zzk; (case zzg => k_is); (case zzl => k_is); (case zzc => k_is); (case zzk => k_is)))
    (case d_is_integer => (refine' My.def_mk KX G ?zzg ?zzl ?zzc ?zzk; (case zzg => k_is); (case zzl => k_is); (case zzc => k_is); (case zzk => k_is)))
    (case d_is_name => (refine' My.def_mk KX G ?zzg ?zzl ?zzc ?zzk; (case zzg => k_is); (case zzl => k_is); (case zzc => k_is); (case zzk => k_is)))
    (case d_is_variant => (refine' My.def_mk KX G ?zzg ?zzl ?zzc ?zzk; (case zzg => k_is); (case zzl => k_is); (case zzc => k_is); (case zzk => k_is)))
    (case d_tags_of => (refine' My.def_mk KX G ?zzg ?zzl ?zzc ?zzk; (case zzg => k_is); (case zzl => k_is); (case zzc => k_is); (case zzk => k_is)))
    (case d_is_kind => (refine' My.def_mk KX G ?zzg ?zzl ?zzc ?zzk; (case zzg => k_is); (case zzl => k_is); (case zzc => k_is); (case zzk => k_is)))
    (case d_check_kind => (refine' My.def_mk KX G ?zzg ?zzl ?zzc ?zzk; (case zzg => k_is); (case zzl => k_is); (case zzc => k_is); (case zzk => k_is)))
    (case d_polynomial => (refine' My.def_mk KX G ?zzg ?zzl ?zzc ?zzk; (case zzg => k_is); (case zzl => k_is); (case zzc => k_is); (case zzk => k_is)))
    (case d_difference => (refine' My.def_mk KX G ?zzg ?zzl ?zzc ?zzk; (case zzg => k_is); (case zzl => k_is); (case zzc => k_is); (case zzk => k_is)))
    (case d_trimmed => (refine' My.def_mk KX G ?zzg ?zzl ?zzc ?zzk; (case zzg => k_is); (case zzl => k_is); (case zzc => k_is); (case zzk => k_is)))
    (case d_factor_at => (refine' My.def_mk KX G ?zzg ?zzl ?zzc ?zzk; (case zzg => k_is); (case zzl => k_is); (case zzc => k_is); (case zzk => k_is)))
    (case d_negated => (refine' My.def_mk KX G ?zzg ?zzl ?zzc ?zzk; (case zzg => k_is); (case zzl => k_is); (case zzc => k_is); (case zzk => k_is)))
    (case d_added => (refine' My.def_mk KX G ?zzg ?zzl ?zzc ?zzk; (case zzg => k_is); (case zzl => k_is); (case zzc => k_is); (case zzk => k_is)))
    (case d_multiplied => (refine' My.def_mk KX G ?zzg ?zzl ?zzc ?zzk; (case zzg => k_is); (case zzl => k_is); (case zzc => k_is); (case zzk => k_is)))
    (case d_divided => (refine' My.def_mk KX G ?zzg ?zzl ?zzc ?zzk; (case zzg => k_is); (case zzl => k_is); (case zzc => k_is); (case zzk => k_is)))
    (case d_common_divisor => (refine' My.def_mk KX G ?zzg ?zzl ?zzc ?zzk; (case zzg => k_is); (case zzl => k_is); (case zzc => k_is); (case zzk => k_is)))
    (case d_are_integers => (refine' My.def_mk KX G ?zzg ?zzl ?zzc ?zzk; (case zzg => k_is); (case zzl => k_is); (case zzc => k_is); (case zzk => k_is)))
    (case d_are_factors => (refine' My.def_mk KX G ?zzg ?zzl ?zzc ?zzk; (case zzg => k_is); (case zzl => k_is); (case zzc => k_is); (case zzk => k_is)))
    (case d_is_from_zero => (refine' My.def_mk KX G ?zzg ?zzl ?zzc ?zzk; (case zzg => k_is); (case zzl => k_is); (case zzc => k_is); (case zzk => k_is)))
    (case d_are_like => (refine' My.def_mk KX G ?zzg ?zzl ?zzc ?zzk; (case zzg => k_is); (case zzl => k_is); (case zzc => k_is); (case zzk => k_is)))
    (case d_multiple => (refine' My.def_mk KX G ?zzg ?zzl ?zzc ?zzk; (case zzg => k_is); (case zzl => k_is); (case zzc => k_is); (case zzk => k_is)))
    (case d_law_some_names => (refine' My.def_mk KX G ?zzg ?zzl ?zzc ?zzk; (case zzg => k_is); (case zzl => k_is); (case zzc => k_is); (case zzk => k_is)))
    (case d_law_some_kind => (refine' My.def_mk KX G ?zzg ?zzl ?zzc ?zzk; (case zzg => k_is); (case zzl => k_is); (case zzc => k_is); (case zzk => k_is)))
    (case d_law_any_kind => (refine' My.def_mk KX G ?zzg ?zzl ?zzc ?zzk; (case zzg => k_is); (case zzl => k_is); (case zzc => k_is); (case zzk => k_is)))
    (case d_law_some_factors => (refine' My.def_mk KX G ?zzg ?zzl ?zzc ?zzk; (case zzg => k_is); (case zzl => k_is); (case zzc => k_is); (case zzk => k_is)))
    (case d_law_by => (refine' My.def_mk KX G ?zzg ?zzl ?zzc ?zzk; (case zzg => k_is); (case zzl => k_is); (case zzc => k_is); (case zzk => k_is)))
    (case d_law_trimmed => (refine' My.def_mk KX G ?zzg ?zzl ?zzc ?zzk; (case zzg => k_is); (case zzl => k_is); (case zzc => k_is); (case zzk => k_is)))
    (case d_law_sum => (refine' My.def_mk KX G ?zzg ?zzl ?zzc ?zzk; (case zzg => k_is); (case zzl => k_is); (case zzc => k_is); (case zzk => k_is)))
    (case d_law_times => (refine' My.def_mk KX G ?zzg ?zzl ?zzc ?zzk; (case zzg => k_is); (case zzl => k_is); (case zzc => k_is); (case zzk => k_is)))
    (case d_law_less => (refine' My.def_mk KX G ?zzg ?zzl ?zzc ?zzk; (case zzg => k_is); (case zzl => k_is); (case zzc => k_is); (case zzk => k_is)))
    (case d_law_share => (refine' My.def_mk KX G ?zzg ?zzl ?zzc ?zzk; (case zzg => k_is); (case zzl => k_is); (case zzc => k_is); (case zzk => k_is)))
    (case d_law_pair => (refine' My.def_mk KX G ?zzg ?zzl ?zzc ?zzk; (case zzg => k_is); (case zzl => k_is); (case zzc => k_is); (case zzk => k_is)))
    (case d_law_due => (refine' My.def_mk KX G ?zzg ?zzl ?zzc ?zzk; (case zzg => k_is); (case zzl => k_is); (case zzc => k_is); (case zzk => k_is)))
    (case d_law => (refine' My.def_mk KX G ?zzg ?zzl ?zzc ?zzk; (case zzg => k_is); (case zzl => k_is); (case zzc => k_is); (case zzk => k_is)))
    (case b_law_kneaded => exact .all fun us hl => match us, hl with | [_, _], _ => rfl)
    (case b_law_pot_of => exact .all fun us hl => match us, hl with | [_], _ => rfl)
    (case b_law_below => exact .all fun us hl => match us, hl with | [_, _], _ => rfl)
    (case b_law_pick => exact .all fun us hl => match us, hl with | [_, _], _ => rfl)
    (case b_is_integer => exact .all fun us hl => match us, hl with | [_], _ => rfl)
    (case b_is_name => exact .all fun us hl => match us, hl with | [_], _ => rfl)
    (case b_is_variant => exact .all fun us hl => match us, hl with | [_], _ => rfl)
    (case b_tags_of => exact .all fun us hl => match us, hl with | [_], _ => rfl)
    (case b_is_kind => exact .all fun us hl => match us, hl with | [_], _ => rfl)
    (case b_check_kind => exact .all fun us hl => match us, hl with | [_], _ => rfl)
    (case b_polynomial => exact .all fun us hl => match us, hl with | [_], _ => rfl)
    (case b_difference => exact .all fun us hl => match us, hl with | [_], _ => rfl)
    (case b_trimmed => exact .all fun us hl => match us, hl with | [_], _ => rfl)
    (case b_factor_at => exact .all fun us hl => match us, hl with | [_, _], _ => rfl)
    (case b_negated => exact .all fun us hl => match us, hl with | [_], _ => rfl)
    (case b_added => exact .all fun us hl => match us, hl with | [_, _], _ => rfl)
    (case b_multiplied => exact .all fun us hl => match us, hl with | [_, _], _ => rfl)
    (case b_divided => exact .all fun us hl => match us, hl with | [_, _], _ => rfl)
    (case b_common_divisor => exact .all fun us hl => match us, hl with | [_], _ => rfl)
    (case b_are_integers => exact .all fun us hl => match us, hl with | [_], _ => rfl)
    (case b_are_factors => exact .all fun us hl => match us, hl with | [_], _ => rfl)
    (case b_is_from_zero => exact .all fun us hl => match us, hl with | [_], _ => rfl)
    (case b_are_like => exact .all fun us hl => match us, hl with | [_, _, _], _ => rfl)
    (case b_multiple => exact .all fun us hl => match us, hl with | [_, _, _], _ => rfl)
    (case b_law_some_names => exact .all fun us hl => match us, hl with | [_, _], _ => rfl)
    (case b_law_some_kind => exact .all fun us hl => match us, hl with | [_], _ => rfl)
    (case b_law_any_kind => exact .all fun us hl => match us, hl with | [_], _ => rfl)
    (case b_law_some_factors => exact .all fun us hl => match us, hl with | [_, _, _], _ => rfl)
    (case b_law_by => exact .all fun us hl => match us, hl with | [_], _ => rfl)
    (case b_law_trimmed => exact .all fun us hl => match us, hl with | [_], _ => rfl)
    (case b_law_sum => exact .all fun us hl => match us, hl with | [_, _], _ => rfl)
    (case b_law_times => exact .all fun us hl => match us, hl with | [_, _], _ => rfl)
    (case b_law_less => exact .all fun us hl => match us, hl with | [_, _], _ => rfl)
    (case b_law_share => exact .all fun us hl => match us, hl with | [_, _], _ => rfl)
    (case b_law_pair => exact .all fun us hl => match us, hl with | [_, _], _ => rfl)
    (case b_law_due => exact .all fun us hl => match us, hl with | [_, _, _], _ => rfl)
    (case b_law => exact .all fun us hl => match us, hl with | [_], _ => rfl)
    (case n_int => k_is); (case n_range => k_is); (case n_abs => k_is); (case n_enumerate => k_is); (case n_len => k_is); (case n_isinstance => k_is); (case n_bool => k_is); (case n_list => k_is); (case n_tuple => k_is); (case n_all => k_is); (case n_sum => k_is); (case n_max => k_is); (case n_repr => k_is); (case n_reversed => k_is); (case n_zip => k_is); (case n_min => k_is); (case n_str => k_is); (case n_set => k_is); (case n_any => k_is)
    (case bindL => exact fun s v => .of_eq rfl)
