import PyProof.Rows.All
import Wide.All
import OpenK.AllK
import Wide.FinOn
import HandS.ForMost
import HandS.Walk
import HandS.IsInst
import HandS.Codes
import HandS.Wide
import HandS.Exc
import HandS.ExcInit
import HandS.ExcIs
import HandS.ExcOwn
import HandS.ExcValue
import HandS.FStr
import KE.KExcSuper
import HandS.TryMany
import HandS.Strs
import HandS.Dict
import KE.KDictPairs
import HandS.Style
import HandS.TupAny
import KE.KRevSl
import HandS.TupMul
import HandS.Deep
import HandS.ForExc
import HandS.WordsExc
import HandS.ExcField
import PyProof.StrLawsRepr
import HandS.Star
import HandS.SlotsOwn
import HandS.Property
import HandS.ClsMeth
import HandS.Flt
import KE.KTupSum
import KE.KTupTruth
import KE.KOpsOwn
import HandS.Defaults
import KE.DataCmp
import KE.KFmtOwn
import PyProof.FactsAll.object_2
import HandS.TupLe
import HandS.Iter
import PyProof.EnumMake
import KE.GoesMore
import KE.GoesEnum
import HandS.SetFor
import HandS.WrittenGet
import HandS.HeadHook3
import PySem.Challenge.RW_layoutswap_k24_steps_at_larger_layouts
set_option Elab.async false
set_option linter.all false
set_option maxRecDepth 100000
set_option maxHeartbeats 0
namespace My
open PySem PySem.Spec PyProof.Rows L2
/-! ### the text by places -/
def topS (i : Nat) : Stmt := PySem.Challenge.pw_layoutswap_k24_steps_at_larger_layouts.main.body.getD i (.Pass ⟨0, 0, 0, 0⟩)
abbrev s_law_kneaded : Stmt := topS 33
theorem sc_law_kneaded : FnScope ["seed", "lap", "prime", "amount", "again"] ["seed", "lap"] (defScope s_law_kneaded) := ⟨rfl, rfl, rfl, by decide +kernel, rfl, by decide +kernel, by decide +kernel⟩
abbrev s_law_pot_of : Stmt := topS 34
theorem sc_law_pot_of : FnScope ["script", "cell", "cells", "place"] ["script"] (defScope s_law_pot_of) := ⟨rfl, rfl, rfl, by decide +kernel, rfl, by decide +kernel, by decide +kernel⟩
abbrev s_law_below : Stmt := topS 35
theorem sc_law_below : FnScope ["pot", "bound", "cells", "place", "amount", "found"] ["pot", "bound"] (defScope s_law_below) := ⟨rfl, rfl, rfl, by decide +kernel, rfl, by decide +kernel, by decide +kernel⟩
abbrev s_law_pick : Stmt := topS 36
theorem sc_law_pick : FnScope ["pot", "items"] ["pot", "items"] (defScope s_law_pick) := ⟨rfl, rfl, rfl, by decide +kernel, rfl, by decide +kernel, by decide +kernel⟩
/-! ### heaps -/
/-- all that was tracked is as it was, but what stands at p -/
def But (p : Addr) (H H' : Hp) : Prop := (∀ b o, H b = some o → b ≠ p → H' b = some o) ∧ H' p ≠ none
theorem But.trans {p : Addr} {H H1 H2 : Hp} (a : But p H H1) (b : But p H1 H2) : But p H H2 := ⟨fun c o e n => b.1 c o (a.1 c o e n) n, b.2⟩
theorem But.free {p : Addr} {H H' : Hp} (a : But p H H') {q : Addr} (h : H' q = none) : H q = none := by
  cases e : H q with
  | none => rfl
  | some o =>
    by_cases n : q = p
    · subst n
      exact absurd h a.2
    · rw [a.1 q o e n] at h
      cases h
theorem But.same {p : Addr} {H H1 H2 : Hp} (a : But p H H1) (b : Same H1 H2) : But p H H2 := ⟨fun c o e n => b c o (a.1 c o e n), fun z => by
  cases e : H1 p with
  | none => exact a.2 e
  | some o =>
    rw [b p o e] at z
    cases z⟩
theorem But.of {p : Addr} {H H1 : Hp} {o : HO} (h : H1 p = some o) (b : Same H H1) : But p H H1 := ⟨fun c o e n => b c o e, fun z => by
  rw [h] at z
  cases z⟩
theorem same_upd {H : Hp} {p : Addr} {o : HO} (h : H p = none) : Same H (upd H p o) := fun b x e => by
  rw [upd_ne (ne_of_none e h)]
  exact e
theorem but_upd {H : Hp} {p : Addr} {o : HO} : But p H (upd H p o) := ⟨fun b x e n => by
  rw [upd_ne n]
  exact e, fun z => by
  rw [upd_same] at z
  cases z⟩
/-- a pot at p, its cells at c -/
def Pot (H : Hp) (p c : Addr) : Prop := ∃ (ns : List Int) (pl am sz : Int), H p = some (.lst [.ref c, .int pl, .int am, .int sz]) ∧ H c = some (.lst (ns.map V.int)) ∧ ns.length ≤ 17
theorem pot_ne {H : Hp} {p c : Addr} {ns : List Int} {r : List V} (hp : H p = some (.lst (.ref c :: r))) (hc : H c = some (.lst (ns.map V.int))) : c ≠ p := fun z => by
  rw [z, hp] at hc
  cases ns with
  | nil => cases hc
  | cons x s => cases hc
theorem Pot.same {H H' : Hp} {p c : Addr} (h : Pot H p c) (s : Same H H') : Pot H' p c := by
  obtain ⟨ns, pl, am, sz, h1, h2, h3⟩ := h
  exact ⟨ns, pl, am, sz, s _ _ h1, s _ _ h2, h3⟩
theorem Pot.but {H H' : Hp} {p c q : Addr} (h : Pot H p c) (s : But q H H') (n1 : p ≠ q) (n2 : c ≠ q) : Pot H' p c := by
  obtain ⟨ns, pl, am, sz, h1, h2, h3⟩ := h
  exact ⟨ns, pl, am, sz, s.1 _ _ h1 n1, s.1 _ _ h2 n2, h3⟩
theorem at4 {x0 x1 x2 x3 : V} : atI [x0, x1, x2, x3] 0 = some x0 ∧ atI [x0, x1, x2, x3] 1 = some x1 ∧ atI [x0, x1, x2, x3] 2 = some x2 ∧ atI [x0, x1, x2, x3] 3 = some x3 := ⟨rfl, rfl, rfl, rfl⟩
theorem fmod_range {i j : Int} (h : 0 < j) : 0 ≤ i % j ∧ i % j < j := ⟨Int.emod_nonneg _ (by omega), Int.emod_lt_of_pos _ h⟩
theorem at_mod {ns : List Int} {pl : Int} (h : ns ≠ []) : ∃ z, atI (ns.map V.int) (pl % (ns.length : Int)) = some (.int z) := by
  have hl : 0 < ns.length := by
    cases ns with
    | nil => exact absurd rfl h
    | cons => exact Nat.succ_pos _
  have a := fmod_range (i := pl) (j := (ns.length : Int)) (by omega)
  obtain ⟨j, hj⟩ : ∃ j : Nat, pl % (ns.length : Int) = (j : Int) := ⟨(pl % (ns.length : Int)).toNat, by omega⟩
  have hjl : j < ns.length := by omega
  refine ⟨ns[j], ?_⟩
  rw [hj]
  refine atI_nat ?_
  rw [List.getElem?_map, List.getElem?_eq_getElem hjl]
  rfl
/-! ### data: lists of ints, of texts -/
theorem dp_ints {K : PySem.W.Frag} {H : Hp} : ∀ ns : List Int, DpAll K H (ns.map V.int) (ns.map PyData.int)
  | [] => .nil
  | n :: r => .cons (.int n) (dp_ints r)
theorem lay_ints : ∀ ns : List Int, PyData.canLayAll0 (ns.map PyData.int) = true
  | [] => by simp [PyData.canLayAll0]
  | n :: r => by simp [PyData.canLayAll0, PyData.canLay0, lay_ints r]
theorem dep_ints : ∀ ns : List Int, PyData.depthAll (ns.map PyData.int) ≤ 1
  | [] => by simp [PyData.depthAll]
  | n :: r => by
    have h := dep_ints r
    simp only [List.map_cons, PyData.depthAll, PyData.depth]
    omega
theorem sh_of {d : PyData} (h1 : d.canLay0 = true) (h2 : d.depth ≤ 64) : SeqAt.shaped d = true := by
  show (d.canLay0 && decide (d.depth ≤ 64)) = true
  rw [h1, decide_eq_true h2]
  rfl
theorem sh_ints (ns : List Int) : SeqAt.shaped (.list (ns.map PyData.int)) = true := by
  have h := dep_ints ns
  exact sh_of (by simp only [PyData.canLay0]; exact lay_ints ns) (by simp only [PyData.depth]; omega)
theorem sh_nil : SeqAt.shaped (.list []) = true := sh_of (by simp [PyData.canLay0, PyData.canLayAll0]) (by simp [PyData.depth, PyData.depthAll])
theorem eqv_nil : ∀ ds : List PyData, PyData.eqv (.list ds) (.list []) = decide (ds = [])
  | [] => by simp [PyData.eqv, PyData.eqvAll]
  | _ :: _ => by simp [PyData.eqv, PyData.eqvAll]
theorem pos17 : (0 : Int) < 17 := by decide
theorem posQ : (0 : Int) < 982451629 := by decide
theorem div64 {i j : Int} (h : 0 < j) (h1 : j < 18446744073709551616) : CDivW i j := wide_div (b := 65) h (by omega) (by decide) (by decide)
theorem posP : (0 : Int) < 2305843009213693907 := by decide
/-! ### what the module holds -/
structure TxtD (mg : Str → Option Value) : Prop where
  n_int : mg "int" = none
  n_range : mg "range" = none
  n_abs : mg "abs" = none
  n_enumerate : mg "enumerate" = none
  n_len : mg "len" = none
/-! ### promises -/
def spKneaded : Sp := fun vs H Q _ => ∃ (a b : Int), vs = [.int a, .int b] ∧ ∀ v, Q (.int v) H
def spPotOf (K : PySem.W.Frag) : Sp := fun vs H Q _ => ∃ (a : Addr) (ns : List Int), vs = [.ref a] ∧ SqL K H a (ns.map V.int) ∧ ns.length ≤ 63 ∧ ∀ p c H', Same H H' → H p = none → H c = none → Pot H' p c → Q (.ref p) H'
def spBelow : Sp := fun vs H Q _ => ∃ (p c : Addr) (b : Int), vs = [.ref p, .int b] ∧ Pot H p c ∧ 0 < b ∧ b < 18446744073709551616 ∧ ∀ v H', 0 ≤ v → v < b → Pot H' p c → But p H H' → Q (.int v) H'
def spPick (K : PySem.W.Frag) : Sp := fun vs H Q _ => ∃ (p c l : Addr) (xs : List V), vs = [.ref p, .ref l] ∧ Pot H p c ∧ SqL K H l xs ∧ xs ≠ [] ∧ xs.length < 1073741824 ∧ (∀ H', But p H H' → SqL K H' l xs) ∧ ∀ v H', v ∈ xs → Pot H' p c → But p H H' → Q v H'
section
variable {P : Program} {w : World} {K : PySem.W.Frag} {mg : Str → Option Value} {base : Heap}
theorem ok_kneaded {f : Addr} {fd : FuncData} {k : Nat} (F : Fun K "_law_kneaded" "_law_kneaded" s_law_kneaded f fd) (T : TxtD mg) : FnOk P w K mg base CX0 (k + 1) f fd ["seed", "lap"] spKneaded := by
  refine F.ok sc_law_kneaded (fun vs H Q E h => ?_) (fun cdv A outer s H vs Q E hr h => ?_)
  · obtain ⟨a, b, rfl, _⟩ := h
    rfl
  · obtain ⟨a, b, rfl, q⟩ := h
    refine ⟨_, (pss_cons (ps_set (i := 2) sc_law_kneaded.nd rfl (.inl rfl) pe_int)
  (pss_cons (ps_set (i := 3) sc_law_kneaded.nd rfl (.inl rfl) (pe_op op_mod (pe_callTy call_int1 (by rfl) T.n_int (by decide +kernel) (pa_cons (pe_op op_add (pe_op op_add (pe_op op_mul (pv 0) pe_int) (pe_op op_mul (pv 1) pe_int)) pe_int) pa_nil)) (pv 2)))
  (pss_cons (ps_for PassesOwn.never rfl (pi_range1 (by rfl) T.n_range (pa_cons pe_int pa_nil)) (pg_name (i := 4) sc_law_kneaded.nd rfl (.inl rfl))
   (pss_one (ps_set (i := 3) sc_law_kneaded.nd rfl (.inl rfl) (pe_op op_mod (pe_callTy call_int1 (by rfl) T.n_int (by decide +kernel) (pa_cons (pe_op op_add (pe_op op_add (pe_op op_add (pe_op op_mul (pv 3) (pv 3)) (pe_op op_mul pe_int (pv 3))) (pe_op op_mul pe_int (pv 4))) (pv 1)) pa_nil)) (pv 2)))))
  (pss_one (ps_ret (pe_op op_add (pe_op op_mul (pv 3) (pv 2)) (pe_op op_mod (pe_callTy call_int1 (by rfl) T.n_int (by decide +kernel) (pa_cons (pe_op op_add (pe_op op_mul (pv 3) pe_int) (pv 1)) pa_nil)) (pv 2)))))))), ?_⟩
    -- prime = ..; amount = ..
    refine ⟨_, rfl, _, _, rfl, rfl, .inr ⟨by decide, by decide⟩, _, rfl, _, _, rfl, rfl, .inr ⟨by decide, by decide⟩, _, _, rfl, rfl, _, _, rfl, rfl, .inl ⟨_, rfl, _, rfl, _, _, rfl, rfl, posP, ?_⟩⟩
    refine ⟨4, rfl, by decide, by decide, for_range (n := 4) (fun i σ H2 => H2 = H ∧ ∃ (am : Int) (v : Option V), σ = [some (.int a), some (.int b), some (.int 2305843009213693907), some (.int am), v] ∧ 0 ≤ am ∧ am < 2305843009213693907)
      ⟨rfl, _, none, rfl, (fmod_range (by decide)).1, (fmod_range (by decide)).2⟩ ?_ ?_⟩
    · rintro i σ H2 hi ⟨rfl, am, v, rfl, h1, h2⟩
      refine ⟨_, rfl, _, rfl, _, _, rfl, rfl, .inl ⟨by omega, by omega⟩, _, rfl, _, _, rfl, rfl, .inl ⟨by decide, by decide⟩, _, _, rfl, rfl, _, rfl, _, _, rfl, rfl, .inl ⟨by decide, by decide⟩, _, _, rfl, rfl, _, rfl, _, _, rfl, rfl, .inl ⟨_, rfl, _, rfl, _, _, rfl, rfl, posP, ?_⟩⟩
      exact ⟨rfl, _, _, rfl, (fmod_range (by decide)).1, (fmod_range (by decide)).2⟩
    · rintro σ H2 ⟨rfl, am, v, rfl, h1, h2⟩
      refine ⟨_, rfl, _, rfl, _, _, rfl, rfl, .inl ⟨by omega, by omega⟩, _, rfl, _, _, rfl, rfl, .inl ⟨by omega, by omega⟩, _, rfl, _, _, rfl, rfl, .inl ⟨_, rfl, _, rfl, _, _, rfl, rfl, posP, ?_⟩⟩
      exact ⟨_, _, rfl, rfl, q _⟩
theorem cut_map (ns : List Int) (lo hi : Option Int) : cutV (ns.map V.int) lo hi = ((ns.drop (HT.sIx ns.length 0 lo)).take (HT.sIx ns.length ns.length hi - HT.sIx ns.length 0 lo)).map V.int := by
  unfold cutV
  rw [List.length_map, List.map_take, List.map_drop]
theorem ok_pot_of {f : Addr} {fd : FuncData} {k : Nat} (F : Fun K "_law_pot_of" "_law_pot_of" s_law_pot_of f fd) (T : TxtD mg) : FnOk P w K mg base CX0 (k + 1) f fd ["script"] (spPotOf K) := by
  refine F.ok sc_law_pot_of (fun vs H Q E h => ?_) (fun cdv A outer s H vs Q E hr h => ?_)
  · obtain ⟨a, ns, rfl, _⟩ := h
    rfl
  · obtain ⟨a, ns, rfl, hS, hl, q⟩ := h
    refine ⟨_, (pss_cons (ps_setLc (i := 2) (own := [("cell", 1)]) (g := gName 1) rfl sc_law_pot_of.nd rfl rfl (sw_true rfl rfl rfl (by decide +kernel)) (pi_list (pe_slice sl_list (pv 0) po_none (po_some pe_int))) (blkOk_by (own := [("cell", 1)]) (N := ["script", "cell", "cells", "place"]) (sc := defScope s_law_pot_of) (by decide +kernel)) (fun _ _ _ _ _ => (pg_name (i := 1) sc_law_pot_of.nd rfl (.inl rfl))) (fun _ _ _ _ _ => pts_nil) (fun _ _ _ _ _ => (pe_callB call_abs (by rfl) T.n_abs (by decide +kernel) (pa_cons (pv 1) pa_nil))))
  (pss_cons (ps_for PassesOwn.never rfl (pi_enum (by rfl) T.n_enumerate (pa_cons (pe_slice sl_list (pv 0) (po_some pe_int) (po_some pe_int)) pa_nil)) (pg_tup rfl (pgs_cons (pg_name (i := 3) sc_law_pot_of.nd rfl (.inl rfl)) (pgs_cons (pg_name (i := 1) sc_law_pot_of.nd rfl (.inl rfl)) pgs_nil)))
   (pss_one (ps_asg (pe_op op_add (pe_ix ix_list (pv 2) (pe_op op_mod (pv 3) pe_int) (fun _ _ => rfl)) (pe_callB call_abs (by rfl) T.n_abs (by decide +kernel) (pa_cons (pv 1) pa_nil))) (pg_sub (pv 2) (pe_op op_mod (pv 3) pe_int) set_list))))
  (pss_one (ps_ret (pe_lst (pa_cons (pv 2) (pa_cons pe_int (pa_cons pe_int (pa_cons pe_int pa_nil))))))))), ?_⟩
    -- cells
    refine ⟨_, rfl, _, rfl, a, _, rfl, hS, fun p1 n1 => ?_⟩
    rw [cut_map]
    generalize hm : (ns.drop (HT.sIx ns.length 0 none)).take (HT.sIx ns.length ns.length (some 17) - HT.sIx ns.length 0 none) = ms
    have lm : ms.length = min 17 ns.length := by
      rw [← hm, HT.sIx_none, show HT.sIx ns.length ns.length (some 17) = min 17 ns.length from HT.sIx_nat ns.length ns.length 17]
      rw [List.drop_zero, List.length_take]
      omega
    have s1 : Same H (upd H p1 (.lst (ms.map V.int))) := same_upd n1
    refine ⟨p1, rfl, ⟨_, .inl (.inl upd_same)⟩, fun D nD => ?_⟩
    have nDH : H D = none := s1.free nD
    have nDp : p1 ≠ D := fun z => by
      rw [z, upd_same] at nD
      cases nD
    refine lc_list (K := K) (a := p1) (xs := ms.map V.int) (fun i H2 => Same (upd H p1 (.lst (ms.map V.int))) H2 ∧ ∃ zs : List Int, H2 D = some (.lst (zs.map V.int)) ∧ zs.length = i) ⟨same_upd nD, [], upd_same, rfl⟩ (fun i H2 _ h => .inl (.inl (h.1 _ _ upd_same))) ?_ ?_
    · rintro i x H2 hi ⟨s2, zs, hz, hlz⟩
      have hil : i < ms.length := by
        have h := (List.getElem?_eq_some_iff.mp hi).1
        rw [List.length_map] at h
        exact h
      rw [List.getElem?_map, List.getElem?_eq_getElem hil] at hi
      obtain rfl : V.int ms[i] = x := Option.some.inj hi
      refine ⟨rfl, ?_⟩
      unfold tYes
      dsimp only
      rw [if_pos rfl]
      refine ⟨_, rfl, _, rfl, _, hz, ?_, ?_, ?_⟩
      · rw [List.length_map]
        exact small1000 (by omega)
      · exact fun b o e => by
          have hb : b ≠ D := ne_of_none e nD
          rw [upd_ne hb]
          exact s2 b o e
      · refine ⟨zs ++ [if ms[i] < 0 then -ms[i] else ms[i]], ?_, ?_⟩
        · rw [upd_same, List.map_append]
          rfl
        · rw [List.length_append, hlz]
          rfl
    · rintro H2 ⟨s2, zs, hz, hlz⟩
      have sH : Same H H2 := s1.trans s2
      rw [List.length_map] at hlz
      -- enumerate(script[17:60])
      refine ⟨_, rfl, _, rfl, _, rfl, a, _, rfl, sH.seq hS, fun p2 n2 => ?_⟩
      rw [cut_map]
      generalize hm2 : (ns.drop (HT.sIx ns.length 0 (some 17))).take (HT.sIx ns.length ns.length (some 60) - HT.sIx ns.length 0 (some 17)) = ms2
      have lm2 : ms2.length = min 60 ns.length - 17 := by
        rw [← hm2, show HT.sIx ns.length ns.length (some 60) = min 60 ns.length from HT.sIx_nat ns.length ns.length 60, show HT.sIx ns.length 0 (some 17) = min 17 ns.length from HT.sIx_nat ns.length 0 17]
        rw [List.length_take, List.length_drop]
        omega
      have s3 : Same H2 (upd H2 p2 (.lst (ms2.map V.int))) := same_upd n2
      have nDp2 : D ≠ p2 := ne_of_none hz n2
      refine ⟨p2, _, rfl, .inl (.inl upd_same), ?_⟩
      refine for_it (walk_enum (xs := ms2.map V.int)) (fun i σ H3 => Same H H3 ∧ H3 p2 = some (.lst (ms2.map V.int)) ∧ ∃ (zs : List Int) (y z : Option V), σ = [some (.ref a), y, some (.ref D), z] ∧ H3 D = some (.lst (zs.map V.int)) ∧ zs.length = ms.length)
        ⟨sH.trans s3, upd_same, zs, _, _, rfl, s3 _ _ hz, hlz⟩ (fun i σ H3 _ h => .inl (.inl h.2.1)) ?_ ?_
      · rintro i x σ H3 H4 hi ⟨s4, h4, zs4, y, z, rfl, hz4, lz4⟩ ⟨T4, x4, y4, rfl, nT, rfl, ex, ey⟩
        rw [List.length_map] at hi
        have ey : (ms2.map V.int)[i]? = some y4 := ey
        rw [List.getElem?_map, List.getElem?_eq_getElem hi] at ey
        obtain rfl : V.int ms2[i] = y4 := Option.some.inj ey
        obtain rfl : V.int (i : Nat) = x4 := Option.some.inj ex
        have l17 : zs4.length = 17 := by omega
        have r := fmod_range (i := ((i : Nat) : Int)) (j := 17) (by omega)
        obtain ⟨j, hj⟩ : ∃ j : Nat, ((i : Nat) : Int) % 17 = (j : Int) := ⟨(((i : Nat) : Int) % 17).toNat, by omega⟩
        have hjl : j < zs4.length := by omega
        have s5 : Same H3 (upd H3 T4 (.tup [.int (i : Nat), .int ms2[i]])) := same_upd nT
        have hz5 := s5 _ _ hz4
        refine ⟨T4, _, rfl, .inl (.inl upd_same), rfl, _, _, rfl, _, _, rfl, rfl, ?_⟩
        refine ⟨_, rfl, _, rfl, _, _, rfl, rfl, pos17, D, _, _, V.int zs4[j], rfl, rfl, .inl (.inl hz5), ?_, _, rfl, _, rfl, _, _, rfl, rfl, _, rfl, _, rfl, _, _, rfl, rfl, pos17, D, _, _, j, rfl, rfl, hz5, ?_, ?_⟩
        · rw [hj]
          refine atI_nat ?_
          rw [List.getElem?_map, List.getElem?_eq_getElem hjl]
          rfl
        · rw [List.length_map, hj]
          unfold ixN
          rw [if_pos (by omega), if_pos (by omega)]
          rfl
        · refine ⟨?_, ?_, zs4.set j (zs4[j] + (if ms2[i] < 0 then -ms2[i] else ms2[i])), _, _, rfl, ?_, ?_⟩
          · exact fun b o e => by
              have hb : b ≠ D := ne_of_none e nDH
              rw [upd_ne hb]
              exact s5 _ _ (s4 b o e)
          · rw [upd_ne (fun z => nDp2 z.symm)]
            exact s5 _ _ h4
          · rw [upd_same, List.map_set]
          · rw [List.length_set]
            exact lz4
      · rintro σ H3 ⟨s4, h4, zs4, y, z, rfl, hz4, lz4⟩
        refine ⟨_, rfl, ?_, fun p np => ?_⟩
        · show 4 ≤ sizeLine
          decide
        · have s6 : Same H3 (upd H3 p (.lst [.ref D, .int 0, .int 0, .int 0])) := same_upd np
          exact q p D _ (s4.trans s6) (s4.free np) nDH ⟨zs4, 0, 0, 0, upd_same, s6 _ _ hz4, by omega⟩
theorem ok_below {f fk : Addr} {fd fdk : FuncData} {k : Nat} (F : Fun K "_law_below" "_law_below" s_law_below f fd) (T : TxtD mg) (F__law_kneaded : Fun K "_law_kneaded" "_law_kneaded" s_law_kneaded fk fdk) (b__law_kneaded : Binds K fdk ["seed", "lap"] []) (g_k : mg "_law_kneaded" = some (.ref fk)) :
    FnOk P w K mg base CX0 (k + 2) f fd ["pot", "bound"] spBelow := by
  have G__law_kneaded : FnOk P w K mg base CX0 1 fk fdk ["seed", "lap"] spKneaded := ok_kneaded F__law_kneaded T
  refine F.ok sc_law_below (fun vs H Q E h => ?_) (fun cdv A outer s H vs Q E hr h => ?_)
  · obtain ⟨p, c, b, rfl, _⟩ := h
    rfl
  · obtain ⟨p, c, b, rfl, ⟨ns, pl, am, sz, hp, hc, hl⟩, b0, b1, q⟩ := h
    refine ⟨_, (C8.pss_cut (ps_if (pt_cmpR op_lt (pe_ix ix_list (pv 0) pe_int (fun _ _ => rfl)) (pv 1) (nomark _))
   (pss_cons (ps_par (i := 2) (j := 3) (by rfl) sc_law_below.nd rfl rfl (by decide) rfl rfl (pa_cons (pe_ix ix_list (pv 0) pe_int (fun _ _ => rfl)) (pa_cons (pe_ix ix_list (pv 0) pe_int (fun _ _ => rfl)) pa_nil)) (by rfl))
  (C8.pss_cut (ps_set (i := 4) sc_law_below.nd rfl (.inl rfl) (pe_ifExp (pt_cmpR (op_neD hr.units) (pv 2) (pe_lst pa_nil) (nomark _)) (pe_ix ix_list (pv 2) (pe_op op_mod (pv 3) (pe_callB call_len_seq (by rfl) T.n_len (by decide +kernel) (pa_cons (pv 2) pa_nil))) (fun _ _ => rfl)) pe_int))
  (C8.pss_cut (ps_if (PW.pt (pw_or (pt_cmpR op_ge (pv 3) (pe_callB call_len_seq (by rfl) T.n_len (by decide +kernel) (pa_cons (pv 2) pa_nil)) (nomark _)) (pw_or1 (pt_cmpR op_lt (pv 4) (pe_op op_pow pe_int pe_int) (nomark _)))))
   (pss_one (ps_set (i := 4) sc_law_below.nd rfl (.inl rfl) (pe_call G__law_kneaded (hr.mono (by omega)) (by rfl) g_k F__law_kneaded.kp b__law_kneaded .nil pass0 (pa_cons (pe_op op_mod (pe_callTy call_int1 (by rfl) T.n_int (by decide +kernel) (pa_cons (pv 4) pa_nil)) pe_int) (pa_cons (pv 3) pa_nil)))))
   pss_nil)
  (pss_cons (ps_asg (pe_op op_add (pv 3) pe_int) (pg_sub (pv 0) pe_int set_list))
  (pss_cons (ps_asg (pv 4) (pg_sub (pv 0) pe_int set_list))
  (pss_one (ps_asg (pv 4) (pg_sub (pv 0) pe_int set_list))))))))
   pss_nil)
  (pss_cons (ps_set (i := 5) sc_law_below.nd rfl (.inl rfl) (pe_op op_mod (pe_callTy call_int1 (by rfl) T.n_int (by decide +kernel) (pa_cons (pe_ix ix_list (pv 0) pe_int (fun _ _ => rfl)) pa_nil)) (pv 1)))
  (pss_cons (ps_asg (pe_op op_fdivW (pe_ix ix_list (pv 0) pe_int (fun _ _ => rfl)) (pv 1)) (pg_sub (pv 0) pe_int set_list))
  (pss_cons (ps_asg (pe_op op_fdivW (pe_ix ix_list (pv 0) pe_int (fun _ _ => rfl)) (pv 1)) (pg_sub (pv 0) pe_int set_list))
  (pss_one (ps_ret (pv 5))))))), ?_⟩
    have ncp : c ≠ p := pot_ne hp hc
    refine ⟨fun σ H2 => ∃ (pl2 am2 sz2 : Int) (x2 x3 x4 : Option V), σ = [some (.ref p), some (.int b), x2, x3, x4, none] ∧ But p H H2 ∧ H2 p = some (.lst [.ref c, .int pl2, .int am2, .int sz2]) ∧ H2 c = some (.lst (ns.map V.int)), ?_, ?_⟩
    · refine ⟨_, rfl, p, _, _, _, rfl, rfl, .inl (.inl hp), at4.2.2.2, _, rfl, _, _, rfl, rfl, _, rfl, ite2 (fun e => ?_) (fun e => ?_)⟩
      · refine ⟨_, rfl, p, _, _, _, rfl, rfl, .inl (.inl hp), at4.1, _, rfl, p, _, _, _, rfl, rfl, .inl (.inl hp), at4.2.1, _, _, rfl, ?_⟩
        -- amount = cells[..] if cells != [] else 0
        refine ⟨fun σ H2 => ∃ am3 : Int, σ = [some (.ref p), some (.int b), some (.ref c), some (.int pl), some (.int am3), none] ∧ Same H H2, ?_, ?_⟩
        · refine ⟨_, rfl, Nat.zero_le _, fun o no => ?_⟩
          have so : Same H (upd H o (.lst [])) := same_upd no
          have ho : SqL K (upd H o (.lst [])) o [] := .inl (.inl upd_same)
          have hp1 := so _ _ hp
          have hc1 := so _ _ hc
          refine ⟨_, _, .lst (.inl (.inl hc1)) (dp_ints ns), .lst ho .nil, sh_ints ns, sh_nil, _, rfl, ?_⟩
          rw [eqv_nil]
          by_cases hn : ns = []
          · subst hn
            refine iteF ?_
            exact ⟨_, rfl, so⟩
          · have h1 : decide (ns.map PyData.int = []) = false := by
              cases ns with
              | nil => exact absurd rfl hn
              | cons => rfl
            rw [h1]
            refine iteT ?_
            obtain ⟨z, hz⟩ := at_mod (pl := pl) hn
            have hl0 : 0 < ns.length := by
              cases ns with
              | nil => exact absurd rfl hn
              | cons => exact Nat.succ_pos _
            refine ⟨_, rfl, _, rfl, _, rfl, c, _, rfl, .inl (.inl (.inl hc1)), _, _, rfl, rfl, ?_, c, _, _, V.int z, rfl, rfl, .inl (.inl hc1), ?_, ?_⟩
            · rw [List.length_map]
              omega
            · rw [List.length_map]
              exact hz
            · exact ⟨z, rfl, so⟩
        -- if place >= len(cells) or amount < 10 ** 16
        · rintro σ H2 ⟨am3, rfl, s2⟩
          have hp2 := s2 _ _ hp
          have hc2 := s2 _ _ hc
          refine ⟨fun σ H2 => ∃ am3 : Int, σ = [some (.ref p), some (.int b), some (.ref c), some (.int pl), some (.int am3), none] ∧ Same H H2, ?_, ?_⟩
          · have yes : ∃ am4 : Int, ∀ v : Int, True := ⟨0, fun _ => True.intro⟩
            refine ⟨_, rfl, _, rfl, c, _, rfl, .inl (.inl (.inl hc2)), _, _, rfl, rfl, _, rfl, ?_⟩
            refine ite2 (fun e => ?_) (fun e => ?_)
            · refine iteT ?_
              refine ⟨_, rfl, .inl ⟨_, rfl, _, _, rfl, rfl, posQ, _, rfl, _, _, rfl, fun v => ⟨v, rfl, s2⟩⟩⟩
            · refine ⟨_, rfl, _, _, rfl, rfl, ⟨by decide, by decide, by decide⟩, _, _, rfl, rfl, _, rfl, ?_⟩
              refine ite2 (fun e => ?_) (fun e => ?_)
              · refine ⟨_, rfl, .inl ⟨_, rfl, _, _, rfl, rfl, posQ, _, rfl, _, _, rfl, fun v => ⟨v, rfl, s2⟩⟩⟩
              · exact ⟨am3, rfl, s2⟩
          · -- pot[1] = place + 1; pot[2] = amount; pot[3] = amount
            rintro σ H2 ⟨am3, rfl, s2⟩
            have hp2 := s2 _ _ hp
            have hc2 := s2 _ _ hc
            refine ⟨_, rfl, _, _, rfl, rfl, _, rfl, p, _, _, _, rfl, rfl, hp2, rfl, ?_⟩
            refine ⟨_, rfl, _, rfl, p, _, _, _, rfl, rfl, upd_same, rfl, ?_⟩
            refine ⟨_, rfl, _, rfl, p, _, _, _, rfl, rfl, upd_same, rfl, ?_⟩
            refine ⟨pl + 1, am3, am3, _, _, _, rfl, (((But.of hp2 s2).trans but_upd).trans but_upd).trans but_upd, ?_, ?_⟩
            · rw [upd_same]
              rfl
            · rw [upd_ne ncp, upd_ne ncp, upd_ne ncp]
              exact hc2
      · exact ⟨pl, am, sz, none, none, none, rfl, ⟨fun _ _ z _ => z, by rw [hp]; exact fun z => nomatch z⟩, hp, hc⟩
    · rintro σ H2 ⟨pl2, am2, sz2, x2, x3, x4, rfl, hb, hp2, hc2⟩
      -- found = int(pot[2]) % bound
      refine ⟨_, rfl, p, _, _, _, rfl, rfl, .inl (.inl hp2), at4.2.2.1, .inl ⟨_, rfl, _, rfl, _, _, rfl, rfl, b0, ?_⟩⟩
      -- pot[2] = pot[2] // bound; pot[3] = pot[3] // bound
      refine ⟨_, rfl, p, _, _, _, rfl, rfl, .inl (.inl hp2), at4.2.2.1, _, rfl, _, _, rfl, rfl, (div64 b0 b1), _, rfl, p, _, _, _, rfl, rfl, hp2, rfl, ?_⟩
      refine ⟨_, rfl, p, _, _, _, rfl, rfl, .inl (.inl upd_same), at4.2.2.2, _, rfl, _, _, rfl, rfl, (div64 b0 b1), _, rfl, p, _, _, _, rfl, rfl, upd_same, rfl, ?_⟩
      refine ⟨_, rfl, q _ _ (fmod_range b0).1 (fmod_range b0).2 ⟨ns, pl2, am2 / b, sz2 / b, ?_, ?_, hl⟩ ((hb.trans but_upd).trans but_upd)⟩
      · rw [upd_same]
        rfl
      · rw [upd_ne ncp, upd_ne ncp]
        exact hc2
theorem ok_pick {f fb : Addr} {fd fdb : FuncData} {k : Nat} (F : Fun K "_law_pick" "_law_pick" s_law_pick f fd) (T : TxtD mg) (F__law_below : Fun K "_law_below" "_law_below" s_law_below fb fdb) (b__law_below : Binds K fdb ["pot", "bound"] []) (g_b : mg "_law_below" = some (.ref fb))
    (G__law_below : FnOk P w K mg base CX0 2 fb fdb ["pot", "bound"] spBelow) : FnOk P w K mg base CX0 (k + 3) f fd ["pot", "items"] (spPick K) := by
  refine F.ok sc_law_pick (fun vs H Q E h => ?_) (fun cdv A outer s H vs Q E hr h => ?_)
  · obtain ⟨p, c, l, xs, rfl, _⟩ := h
    rfl
  · obtain ⟨p, c, l, xs, rfl, hP, hS, hne, hlen, hk, q⟩ := h
    have hl : 0 < xs.length := by
      cases xs with
      | nil => exact absurd rfl hne
      | cons => exact Nat.succ_pos _
    refine ⟨_, (pss_one (ps_ret (pe_ix ix_list (pv 1) (pe_call G__law_below (hr.mono (by omega)) (by rfl) g_b F__law_below.kp b__law_below .nil pass0 (pa_cons (pv 0) (pa_cons (pe_callB call_len_seq (by rfl) T.n_len (by decide +kernel) (pa_cons (pv 1) pa_nil)) pa_nil))) (fun _ _ => rfl)))), ?_⟩
    refine ⟨_, rfl, _, rfl, _, rfl, l, xs, rfl, .inl hS, p, c, _, rfl, hP, by omega, by omega, fun v H' v0 v1 hP' hb => ?_⟩
    obtain ⟨j, rfl⟩ : ∃ j : Nat, v = (j : Int) := ⟨v.toNat, by omega⟩
    have hj : j < xs.length := by omega
    exact ⟨l, xs, _, xs[j], rfl, rfl, hk H' hb, atI_nat (List.getElem?_eq_getElem hj), q _ H' (List.getElem_mem hj) hP' hb⟩
end
end My

namespace My
open PySem PySem.Spec PyProof.Rows L2
/-! ### defs whose run shows containers: nothing is being shown around them -/
structure FnG (P : Program) (w : World) (K : PySem.W.Frag) (mg : Str → Option Value) (base : Heap) (CX : CXT) (k : Nat) (f : Addr) (fd : FuncData) (ps : List Str) (sp : Sp) : Prop where
  many : ∀ vs H Q E, sp vs H Q E → vs.length = ps.length
  go : ∀ {A : Around} {outer : List Env} {s : Shared} {H : Hp} {args : Args} {us : List Value} {vs : List V} {Q : VK} {E : XK}, Room k A → A.guards = some [] → Env0 P w K mg base A outer s H → BindsTo s fd args (ps.zip us) → Vals vs us →
    sp vs H Q E → codeAny (model P w) A (.call (.ref f) args) (CR CX outer P w H s Q E) s
theorem guards_deeper {A : Around} {env : Env} (h : A.guards = some []) : (A.deeper env).guards = some [] := by
  first | exact h | (simp [Around.deeper, h]; done)
section
variable {P : Program} {w : World} {K : PySem.W.Frag} {mg : Str → Option Value} {base : Heap} {CX : CXT} {k : Nat} {f : Addr} {fd : FuncData} {ps : List Str} {sp : Sp}
theorem FnG.of (F : FnOk P w K mg base CX k f fd ps sp) : FnG P w K mg base CX k f fd ps sp :=
  ⟨F.len, fun r _ e b v h => F.run _ _ _ _ _ _ _ _ _ r e b v h⟩
/-- a def by its body, where nothing is being shown -/
theorem go_of {x qual : Str} {st : Stmt} {N : List Str} (F : Fun K x qual st f fd) (S : FnScope N ps (defScope st)) (many : ∀ vs H Q E, sp vs H Q E → vs.length = ps.length)
    (hb : ∀ (cdv : Value) (A : Around) (outer : List Env) (s : Shared) (H : Hp) (vs : List V) (Q : VK) (E : XK), Room k (A.deeper (envOfC qual (defScope st) s.heap.objs.size f cdv)) → (A.deeper (envOfC qual (defScope st) s.heap.objs.size f cdv)).guards = some [] →
      sp vs H Q E → ∃ t, PSs (cxOf CX P w K mg base N qual (defScope st) f cdv A outer s H E) (defBody st) t ∧ t { nx := fun _ H' => Q .non H', rt := Q } (start N vs) H) : FnG P w K mg base CX (k + 1) f fd ps sp := by
  obtain ⟨oc, od, kV, doc, pm, an, cdv, ct, osl, e1, lk, hcd⟩ := F.ex
  subst e1
  refine ⟨many, ?_⟩
  intro A outer s H args us vs Q E room quiet e0 bind rel want
  have inK := e0.mod.kin.keeps (h' := s.heap) (fun b o z => (e0.bs b o z).1)
  have nolim := e0.mod.nolimit.keeps (h' := s.heap) (fun b o z => (e0.bs b o z).1)
  have kinds : ∀ y ∈ ps.zip us, (defScope st).names.lookup y.1 = some .local ∨ ((defScope st).names.lookup y.1 = some .cell ∧ ((cellsFrom (s.heap.objs.size + 1) (defScope st).names []).lookup y.1).isSome = true) := by
    rintro ⟨n, v⟩ hy
    have hn := (List.of_mem_zip hy).1
    cases S.par n hn with
    | inl z => exact Or.inl z
    | inr z => exact Or.inr ⟨z, PySem.W.cellsFrom_some _ _ _ (Or.inl z)⟩
  refine codeAny_call_function room.depth (inK _ _ lk) rfl S.co S.gen rfl (PySem.W.codeRec_of inK hcd) (bind _ _ _ _ (wpAny_newFunctionEnv_cells S.kind kinds ?_))
  rintro env rfl s1 ic
  obtain ⟨t, ht, ready⟩ := hb cdv A outer s H vs Q E (room.deeper _) (guards_deeper quiet) want
  have J : Inv (cxOf CX P w K mg base N qual (defScope st) f cdv A outer s H E) [] (start N vs) H s1 := inv_start S room.hd e0 (many _ _ _ _ want) rel ic
  refine ⟨nolim.keeps ic.toInCall.keep, codeAny_func (wpAny_mono (ht.run [] s1 _ H _ J ready) ?_ (fun _ _ z => z))⟩
  intro fl s' hs
  cases fl with
  | next =>
    obtain ⟨σ', H', J', q⟩ := hs
    exact ⟨V.non, H', J'.os, J'.bare, J'.base, J'.hok, rfl, q⟩
  | ret u =>
    obtain ⟨v, σ', H', J', rv, q⟩ := hs
    exact ⟨v, H', J'.os, J'.bare, J'.base, J'.hok, rv, q⟩
  | brk =>
    obtain ⟨_, _, _, z⟩ := hs
    exact (z : False).elim
  | cont =>
    obtain ⟨_, _, _, z⟩ := hs
    exact (z : False).elim
end
section
variable {X : Cx} {CX : CXT} {k : Nat} {f : Addr} {fd : FuncData} {ps : List Str} {sp : Sp} {dvs : List V} {ds : List Value} {E : XK} {x : Str} {p pos : Pos} {e : Expr} {es : List Expr} {t : TA}
/-- a call of such a def from where nothing is being shown -/
theorem pe_callG (F : FnG X.prog X.w X.K X.mg X.base CX k f fd ps sp) (hr : Room k X.A) (quiet : X.A.guards = some []) (hg : Gl X x) (hm : X.mg x = some (.ref f)) (hk : PySem.W.keepIn X.K (.ref f) = true) (hb : Binds X.K fd ps ds) (hd : Vals dvs ds) (hx : Passes CX X E)
    (ha : PA X (e :: es) t) (hdb : (x == ("__debug__" : Str)) = false := by decide) (he : starEach (e :: es) X.env = (false, eval e X.env) :: starEach es X.env := by rfl) (hpl : (backTo pos (starEach es X.env)).any (·.1) = false := by rfl) :
    PE X (.Call (.Name x p) (e :: es) [] pos) (tCall sp dvs E t) := by
  constructor
  intro pins s σ H Q I h
  have args := ha.run pos pins s σ H _ I h
  refine wpAny_Call_Name_kw (ld_glob I hg hm (PySem.W.callWith_K (h₀ := X.base) I.ok.mod.kin hk (thn args ?_) he hpl) hdb)
  rintro us s1 ⟨vs, H1, J, r, want⟩
  have rel := r.append hd
  refine ⟨J.kIn, wpAny_call (codeAny_mono (F.go (A := X.A) hr quiet J.env0 (hb s1 us J.kIn ?_) rel want) ?_)⟩
  · have z := rel.length
    rw [← z]
    exact F.many _ _ _ _ want
  · intro res s' hq
    match res, hq with
    | .error _, hq => exact hx pins σ H1 s1 _ s' J hq
    | .ok (.ret _), hq => exact J.after hq
    | .ok .next, hq => exact False.elim hq
    | .ok .brk, hq => exact False.elim hq
    | .ok .cont, hq => exact False.elim hq
end
/-! ### repr of data -/
structure rRepr (K : PySem.W.Frag) (xs : List V) (H : Hp) (Q : VK) : Prop where
  ex : ∃ x d, xs = [x] ∧ Dp K H x d ∧ d.showable = true ∧ d.canLay0 = true ∧ d.depth ≤ 60 ∧ d.shown.length ≤ sizeLine ∧ Q (.str d.shown) H
theorem call_repr {X : Cx} (quiet : X.A.guards = some []) (hu : X.A.units + 64 < cLine) : CallR X (.builtin "repr") (rRepr X.K) := by
  intro pins s σ H xs us Q I r h
  obtain ⟨x, d, rfl, hd, h1, h2, h3, h4, q⟩ := h
  obtain ⟨u, rfl, ru⟩ := vals1 r
  cases hd with
  | non =>
    cases (show u = Value.none from ru)
    exact PySem.P.repr_of_none ⟨.str "None", H, I.tok _, ⟨_, rfl⟩, by simpa only [PyData.shown] using q⟩
  | bl b =>
    cases (show u = Value.bool b from ru)
    exact PySem.P.repr_of_bool ⟨.str (if b then "True" else "False"), H, I.tok _, ⟨_, rfl⟩, by simpa only [PyData.shown] using q⟩
  | int i =>
    obtain ⟨tk, rfl⟩ := (show ∃ t, u = Value.int i t from ru)
    exact PySem.P.repr_of_int (by simpa only [PyData.showable, decide_eq_true_eq] using h1) ⟨V.str (Str.ofString (toString i)), H, I.tok _, ⟨_, rfl⟩, by simpa only [PyData.shown] using q⟩
  | str z =>
    obtain ⟨tk, rfl⟩ := (show ∃ t, u = Value.str z t from ru)
    exact PySem.P.repr_of_str ⟨.str (reprText z), H, I.tok _, ⟨_, rfl⟩, by simpa only [PyData.shown] using q⟩ (by simpa only [PyData.shown] using h4)
  | @lst a ys ds hs ha =>
    cases (show u = Value.ref a from ru)
    obtain ⟨as, rd⟩ := Dp.reads I (.list ds) (.ref a) (.ref a) (.lst hs ha) rfl
    exact PySem.repr_of_reads' rd h1 (PyData.noDict_hsm (PyData.hasDict_of_canLay _ h2)) quiet (by omega) (fun _ _ z => z) (fun h' v tk k => ⟨.str (PyData.list ds).shown, H, I.kept k, ⟨_, rfl⟩, q⟩) h4
  | @tup a ys ds hs ha =>
    cases (show u = Value.ref a from ru)
    obtain ⟨as, rd⟩ := Dp.reads I (.tuple ds) (.ref a) (.ref a) (.tup hs ha) rfl
    exact PySem.repr_of_reads' rd h1 (PyData.noDict_hsm (PyData.hasDict_of_canLay _ h2)) quiet (by omega) (fun _ _ z => z) (fun h' v tk k => ⟨.str (PyData.tuple ds).shown, H, I.kept k, ⟨_, rfl⟩, q⟩) h4
/-! ### the law's own call -/
/-- only the script may be tracked -/
def One (H : Hp) (a : Addr) : Prop := ∀ b, H b = none ∨ (b = a ∧ ∃ o xs, H b = some (.frz o (.lst xs)))
section
variable {P : Program} {w : World} {K : PySem.W.Frag} {mg mb : Str → Option Value} {k : Nat} {fa a : Addr} {fd : FuncData} {x : Str} {sp : Sp} {s₁ : Shared} {vs : List Value} {ns : List Int}
/-- a law's def run at its call, from an abstract heap that tracks the script or nothing -/
theorem top_run {H : Hp} (KX : K.In s₁.heap) (hns : s₁.heap.Ns mainGlobals mg) (hb : s₁.heap.Ns builtinsNs mb) (hbb : ∀ y : Str, y ≠ "__name__" → mb y = bootBuiltins y) (hlim : s₁.heap.NoLimit) (hg : s₁.gens = #[])
    (ha : s₁.heap.get? a = some { cls := .type "list", data := .seq vs.toArray }) (hr : Room k callerA) (hbind : ∀ (s : Shared) (u : Value), BindsTo s fd ⟨[u], []⟩ [(x, u)])
    (F : ∀ base : Heap, K.In base → base.Ns mainGlobals mg → FnG P w K mg base CX0 k fa fd [x] sp)
    (one : One H a) (free : H a ≠ none → K.lookup a = none) (ok : HOk P w H s₁.heap) (want : sp [.ref a] H (fun v _ => v = .bl true) fun _ _ _ => False) :
    codeAny (model P w) callerA (.call (.ref fa) ⟨[.ref a], []⟩) (fun r s' => r = .ok (.ret (.bool true)) ∧ OldK s₁.heap s'.heap ∧ s'.os = s₁.os ∧ AllBare s'.gens) s₁ := by
  have not_a : ∀ {b : Addr}, b ≠ a → H b = none := fun {b} n => (one b).elim id fun z => (n z.1).elim
  have seen : ∀ {b : Addr} {o : Obj}, s₁.heap.get? b = some o → H b = none → (hidT s₁.heap H).get? b = some o := hidT_get
  have dict_free : ∀ {b : Addr} {o : Obj} {es : Array DictEntry} {ep : Nat}, s₁.heap.get? b = some o → o.data = .dict es ep → H b = none := by
    intro b o es ep e1 e2
    refine not_a fun z => ?_
    subst z
    cases ha.symm.trans e1
    cases e2
  have keepNs : ∀ {b : Addr} {m : Str → Option Value}, s₁.heap.Ns b m → (hidT s₁.heap H).Ns b m := by
    rintro b m ⟨o, es, ep, e1, e2, e3⟩
    exact ⟨o, es, ep, seen e1 (dict_free e1 e2), e2, e3⟩
  have KB : K.In (hidT s₁.heap H) := by
    intro b o e
    refine seen (KX b o e) ?_
    by_cases z : b = a
    · subst z
      cases q : H b with
      | none => rfl
      | some u =>
        have z2 := free (by rw [q]; exact fun z => nomatch z)
        cases z2.symm.trans e
    · exact not_a z
  obtain ⟨ml, l1, l2⟩ := hlim
  have e0 : Env0 P w K mg (hidT s₁.heap H) callerA [] s₁ H := {
    frames := rfl
    mod := ⟨KB, keepNs hns, ⟨mb, keepNs hb, hbb⟩, ⟨ml, keepNs l1, l2⟩⟩
    bs := fun b o e => of_hidT e
    bsz := Nat.le_of_eq (hidT_size _ _)
    funs := trivial
    frf := fun b z => nomatch z
    hok := ok
    bare := .of_eq hg }
  refine codeAny_mono ((F _ KB (keepNs hns)).go (us := [.ref a]) (vs := [.ref a]) hr rfl e0 (hbind s₁ (.ref a)) (.cons rfl .nil) want) ?_
  intro r s' hq
  match r, hq with
  | .ok (.ret u), hq =>
    obtain ⟨v, H', os, bare, un, ok', rv, q⟩ := hq
    subst q
    cases (show u = Value.bool true from rv)
    refine ⟨rfl, OldK.of_keep ?_, os, bare⟩
    intro b o e
    rcases one b with z | ⟨_, ob, xs, z⟩
    · exact un.keep b o e z (fun z => nomatch z) (fun z => nomatch z)
    · have h1 : s₁.heap.get? b = some ob := (ok b _ z).1
      have h2 : s'.heap.get? b = some ob := (ok' b _ (un.frzs b ob _ z)).1
      rw [← h1.symm.trans e]
      exact h2
  | .ok .next, hq => exact False.elim hq
  | .ok .brk, hq => exact False.elim hq
  | .ok .cont, hq => exact False.elim hq
  | .error _, hq => exact False.elim hq
/-- .. from whatever the script is -/
theorem top_call (KX : K.In s₁.heap) (hns : s₁.heap.Ns mainGlobals mg) (hb : s₁.heap.Ns builtinsNs mb) (hbb : ∀ y : Str, y ≠ "__name__" → mb y = bootBuiltins y) (hlim : s₁.heap.NoLimit) (hg : s₁.gens = #[])
    (ha : s₁.heap.get? a = some { cls := .type "list", data := .seq vs.toArray }) (hi : IntsAre vs ns) (hl : ns.length ≤ sizeLine) (hr : Room k callerA) (hbind : ∀ (s : Shared) (u : Value), BindsTo s fd ⟨[u], []⟩ [(x, u)])
    (F : ∀ base : Heap, K.In base → base.Ns mainGlobals mg → FnG P w K mg base CX0 k fa fd [x] sp)
    (want : ∀ H : Hp, One H a → SqL K H a (ns.map V.int) → sp [.ref a] H (fun v _ => v = .bl true) fun _ _ _ => False) :
    codeAny (model P w) callerA (.call (.ref fa) ⟨[.ref a], []⟩) (fun r s' => r = .ok (.ret (.bool true)) ∧ OldK s₁.heap s'.heap ∧ s'.os = s₁.os ∧ AllBare s'.gens) s₁ := by
  have rv := vals_ints hi
  have len := hi.length
  cases hk : K.lookup a with
  | none =>
    let O : Obj := { cls := .type "list", data := .seq vs.toArray }
    let H : Hp := fun b => if b = a then some (.frz O (.lst (ns.map V.int))) else none
    have Ha : H a = some (.frz O (.lst (ns.map V.int))) := if_pos rfl
    have one : One H a := fun b => by
      by_cases z : b = a
      · exact .inr ⟨z, O, ns.map V.int, if_pos z⟩
      · exact .inl (if_neg z)
    refine top_run KX hns hb hbb hlim hg ha hr hbind F one (fun _ => hk) ?_ (want H one (.inl (.inr ⟨O, Ha⟩)))
    intro b u e
    rcases one b with z | ⟨z, _⟩
    · cases z.symm.trans e
    · subst z
      cases Ha.symm.trans e
      exact ⟨ha, by rw [List.length_map]; exact hl, vs, _, rv, ha⟩
  | some o =>
    cases (KX a o hk).symm.trans ha
    have one : One (fun _ => none) a := fun _ => .inl rfl
    refine top_run KX hns hb hbb hlim hg ha hr hbind F one (fun z => absurd rfl z) (fun _ _ z => nomatch z) (want _ one (.inr ⟨_, vs.toArray, _, hk, rfl, rfl, rfl, ?_, ?_⟩))
    · rw [List.size_toArray, len]
      exact hl
    · simpa using rv
end
/-- the end of a law whose def is FnG -/
theorem walk_ofG {l : PySem.W.OpenLaw} {n k : Nat} {q : Program} {loose : List Str} {XP : (Str → Option Value) → Heap → Prop} {YP : World → Heap → Prop} {d : DefRec} {K : Params → PySem.W.Frag} {sp : PySem.W.Frag → Sp} {x : Str}
    (hn : l.most = some n) (hn2 : n ≤ sizeLine) (hdf : d.params.defaults = []) (hr : Room k callerA) (hY : ∀ (w : World) (h : Heap), YP w h → (K w.params).In h)
    (F : ∀ (w : World) (mg : Str → Option Value) (fa : Addr) (h : Heap), (K w.params).In h → h.Ns mainGlobals mg → mg d.name = some (.ref fa) →
      ∃ fd : FuncData, (∀ (s : Shared) (u : Value), BindsTo s fd ⟨[u], []⟩ [(x, u)]) ∧ ∀ base : Heap, (K w.params).In base → base.Ns mainGlobals mg → FnG l.prog w (K w.params) mg base CX0 k fa fd [x] (sp (K w.params)))
    (want : ∀ (K : PySem.W.Frag) (H : Hp) (a : Addr) (ns : List Int), ns.length ≤ n → SqL K H a (ns.map V.int) → sp K [.ref a] H (fun v _ => v = .bl true) fun _ _ _ => False) :
    PySem.W.WalkO q loose XP YP l.row.toRowW d [] (fun f vs => PySem.call f vs) := by
  refine Att.attach_call hn hdf ?_
  intro w s₀ s₁ mg mb fa o pm cd doc a vs ns G Y ho hd hcd hmg hobj hints hlen hg
  obtain ⟨fd, hbind, hF⟩ := F w mg fa _ (hY w _ Y) G.T.g hmg
  exact top_call (hY w _ Y) G.T.g G.T.b G.T.builtins G.T.nolimit hg hobj hints (Nat.le_trans hlen hn2) hr hbind hF fun H _ hS => want _ H a ns hlen hS
/-! ### list(text), text * int -/
abbrev oneS (c : Nat) : Str := ⟨#[c]⟩
def rListS : List V → Hp → VK → Prop := fun xs H Q => ∃ z : Str, xs = [.str z] ∧ z.length ≤ sizeLine ∧ ∀ p, H p = none → Q (.ref p) (upd H p (.lst (z.cps.toList.map fun c => V.str (oneS c))))
theorem call_listS {X : Cx} (calm : X.calm = true) : CallR X (.type "list") rListS := by
  intro pins s σ H xs us Q I r h
  obtain ⟨z, rfl, hz, q⟩ := h
  obtain ⟨u, rfl, tk, rfl⟩ := vals1 r
  refine PySem.call_list_str (I.ok.hd calm) z tk (fun h' t acc c keep new items => ?_) hz
  refine ⟨.ref s.heap.objs.size, upd H s.heap.objs.size (.lst (z.cps.toList.map fun c => V.str (oneS c))), I.laid (t' := t) keep (Nat.le_refl _) ?_, rfl, q _ (I.hok.fresh (Nat.le_refl _))⟩
  refine ⟨?_, acc.toList, c, ?_, by rw [Array.toArray_toList]; exact new⟩
  · rw [List.length_map, Array.length_toList]
    exact hz
  · have len : acc.toList.length = z.cps.toList.length := by rw [Array.length_toList, Array.length_toList]; exact items.1
    have all : ∀ (cs : List Nat) (vs : List Value), vs.length = cs.length → (∀ (j : Nat) (v : Value), vs[j]? = some v → ∃ c u, cs[j]? = some c ∧ v = .str (oneS c) u) → Vals (cs.map fun c => V.str (oneS c)) vs := by
      intro cs
      induction cs with
      | nil =>
        intro vs hl _
        cases vs with
        | nil => exact .nil
        | cons => cases hl
      | cons a r ih =>
        intro vs hl hv
        cases vs with
        | nil => cases hl
        | cons v t =>
          obtain ⟨c, u, e1, e2⟩ := hv 0 v rfl
          cases e1
          exact .cons ⟨u, e2⟩ (ih t (Nat.succ.inj hl) fun j x e => hv (j + 1) x e)
    refine all _ _ len fun j v e => ?_
    rw [Array.getElem?_toList] at e
    obtain ⟨c, u, e1, e2⟩ := items.2 j v e
    exact ⟨c, u, by rw [Array.getElem?_toList]; exact e1, e2⟩
def rRepS : R2 := fun x y H Q => ∃ z n, x = .str z ∧ y = .int n ∧ MulOk z n ∧ Q (.str (Txt.mul z n)) H
theorem op_repS {X : Cx} : OpR X (binaryOp .Mult) rRepS := by
  intro pins s σ H x y v u Q I rx ry h
  obtain ⟨z, n, rfl, rfl, ok, q⟩ := h
  obtain ⟨tx, rfl⟩ := rx
  obtain ⟨ty, rfl⟩ := ry
  exact PySem.SB.mul ok fun t' k => ⟨.str (Txt.mul z n), H, I.tok _, ⟨_, rfl⟩, q⟩
/-- texts joined by nothing -/
theorem joinL_nil : ∀ l : List (List Nat), TL.joinL [] l = l.flatten
  | [] => rfl
  | [p] => by simp [TL.joinL]
  | p :: q :: r => by
    have h := joinL_nil (q :: r)
    show p ++ ([] ++ TL.joinL [] (q :: r)) = _
    rw [h]
    simp
theorem tl_join0 (ys : List Str) : (Txt.join "" ys).cps.toList = (ys.map fun y => y.cps.toList).flatten := by
  rw [TL.join_eq]
  have h := TL.tl_join "" ys
  have h2 : TL.tl ("" : Str) = [] := by decide +kernel
  rw [h2, joinL_nil] at h
  exact h
end My

namespace My
open PySem PySem.Spec PyProof.Rows L2
/-! ### own errors whose __init__ says super().__init__(text) -/
structure SupScope (N ps : List Str) (sc : Scope) : Prop where
  kind : sc.kind = .function
  co : sc.isCoroutine = false
  gen : sc.isGenerator = false
  nd : N.Nodup
  pre : N.take ps.length = ps
  par : ∀ x ∈ ps, sc.names.lookup x = some .local
  nocell : ∀ y ∈ sc.names, y.2 ≠ .cell
  sup : sc.names.lookup ("super" : Str) = some .globalImplicit
  cls : sc.names.lookup ("__class__" : Str) = some .free
  free : ∀ y ∈ sc.names, y.2 = .free → y.1 = ("__class__" : Str)
abbrev supEnv (qual : Str) (sc : Scope) (L f cda cc : Addr) : Env := PySem.W.ksEnv qual sc L f (.ref cda) cc
/-- such an __init__'s body running -/
def cxS (P : Program) (w : World) (K : PySem.W.Frag) (mg : Str → Option Value) (base : Heap) (N : List Str) (qual : Str) (sc : Scope) (f cda cc : Addr) (A : Around) (outer : List Env) (s : Shared) (H : Hp) : Cx where
  prog := P
  w := w
  K := K
  mg := mg
  base := base
  A := A.deeper (supEnv qual sc s.heap.objs.size f cda cc)
  N := N
  s_0 := s
  H_0 := H
  env := supEnv qual sc s.heap.objs.size f cda cc
  outer := outer
  stack := supEnv qual sc s.heap.objs.size f cda cc :: outer
  ex := []
  calm := true
  fn := fun x => !(x == ("__class__" : Str))
  pn := []
  xe := fun _ _ => False
theorem cells_one {cc c : Addr} {x : Str} (h : List.lookup x [(("__class__" : Str), cc)] = some c) : x = "__class__" ∧ c = cc := by
  rw [List.lookup_cons] at h
  split at h
  · rename_i e
    exact ⟨beq_iff_eq.mp e, (Option.some.inj h).symm⟩
  · cases h
theorem lookup_mem {y : Str} {u : Value} : ∀ {l : List (Str × Value)}, (l.map (·.1)).Nodup → (y, u) ∈ l → l.lookup y = some u
  | [], _, h => nomatch h
  | (z, v) :: r, hn, h => by
    rw [List.map_cons, List.nodup_cons] at hn
    rw [List.lookup_cons]
    rcases List.mem_cons.mp h with e | h
    · cases e
      simp
    · have ne : (y == z) = false := by
        refine beq_eq_false_iff_ne.mpr fun e => hn.1 ?_
        rw [← e]
        exact List.mem_map.mpr ⟨(y, u), h, rfl⟩
      rw [ne]
      exact lookup_mem hn.2 h
theorem zip_sub : ∀ (ps : List Str) (us : List Value), ((ps.zip us).map fun q : Str × Value => q.1).Sublist ps
  | [], _ => List.Sublist.refl _
  | _ :: _, [] => List.nil_sublist _
  | p :: ps, u :: us => List.Sublist.cons_cons _ (zip_sub ps us)
theorem zip_lookup {ps : List Str} {us : List Value} {i : Nat} {y : Str} {u : Value} (hn : ps.Nodup) (h1 : ps[i]? = some y) (h2 : us[i]? = some u) : (ps.zip us).reverse.lookup y = some u := by
  refine lookup_mem ?_ ?_
  · rw [List.map_reverse]
    refine List.pairwise_reverse.mpr (List.Pairwise.imp (R := fun a b => a ≠ b) (fun z => Ne.symm z) ?_)
    refine List.Pairwise.sublist ?_ hn
    exact zip_sub ps us
  · rw [List.mem_reverse]
    refine List.mem_of_getElem? (i := i) ?_
    rw [List.getElem?_zip_eq_some]
    exact ⟨h1, h2⟩
section
variable {P : Program} {w : World} {K : PySem.W.Frag} {mg : Str → Option Value} {base : Heap} {N ps : List Str} {qual : Str} {sc : Scope} {f cda cc : Addr} {A : Around} {outer : List Env} {s : Shared} {H : Hp} {us : List Value} {vs : List V}
theorem sup_start {oc : Obj} {v0 : Value} (S : SupScope N ps sc) (hd : A.handled = none) (e0 : Env0 P w K mg base A outer s H) (hl : vs.length = ps.length) (r : Vals vs us) (hc : K.lookup cc = some oc) (hcd : oc.data = .cell (some v0))
    {h : Heap} {t : Nat} (ns : h.Ns s.heap.objs.size (fun x => (ps.zip us).reverse.lookup x)) (keep : ∀ b o, s.heap.get? b = some o → h.get? b = some o) :
    Inv (cxS P w K mg base N qual sc f cda cc A outer s H) [] (L2.start N vs) H { s with heap := h, toks := t } := by
  have noA : ∀ b : Addr, b ∉ (cxS P w K mg base N qual sc f cda cc A outer s H).ex := fun b z => nomatch z
  have cB : base.get? cc = some oc := e0.mod.kin _ _ hc
  have cS := e0.bs _ _ cB
  have pl : ps.length ≤ N.length := by
    have z := congrArg List.length S.pre
    rw [List.length_take] at z
    omega
  constructor
  · constructor
    · exact e0.mod
    · exact S.kind
    · rfl
    · rfl
    · exact Nat.le_refl _
    · intro x y c h1 h2
      exact (cells_one h1).1.trans (cells_one h2).1.symm
    · intro x hx
      have hx : sc.names.lookup x = some .cell ∨ sc.names.lookup x = some .free := hx
      rcases hx with z | z
      · exact absurd rfl (S.nocell _ (PySem.mem_of_lookup z))
      · have e := S.free _ (PySem.mem_of_lookup z) rfl
        exact ⟨cc, by show List.lookup x [(("__class__" : Str), cc)] = some cc; rw [show x = "__class__" from e]; rfl⟩
    · intro x c h1 h2
      have e := (cells_one h2).1
      subst e
      exact absurd (show (!((("__class__" : Str)) == ("__class__" : Str))) = true from h1) (by decide)
    · exact fun _ => hd
    · exact Around.frames_deeper e0.frames
    · exact .inr ⟨rfl, rfl⟩
    · exact fun b z => absurd z (noA b)
    · exact e0.bs
    · exact e0.bsz
    · exact fun b _ _ => noA b
    · exact fun b z => absurd z (noA b)
    · exact e0.funs
    · exact e0.frf
  · rfl
  · exact e0.bare
  · exact Un.kept keep
  · refine ⟨_, ns, fun i y v h1 h2 h3 => ?_⟩
    have hi : i < vs.length := by
      by_cases z : i < vs.length
      · exact z
      · unfold L2.start at h2
        rw [List.getElem?_append_right (by simpa using z), List.getElem?_replicate] at h2
        split at h2 <;> cases h2
    have ha : vs[i]? = some v := by
      unfold L2.start at h2
      rw [List.getElem?_append_left (by simpa using hi), List.getElem?_map, List.getElem?_eq_getElem hi] at h2
      rw [List.getElem?_eq_getElem hi]
      exact Option.some.inj h2
    obtain ⟨u, hu, rv⟩ := r.get ha
    have hp : ps[i]? = some y := by
      rw [← S.pre, List.getElem?_take_of_lt (by omega)]
      exact h1
    have ndp : ps.Nodup := by
      rw [← S.pre]
      exact S.nd.sublist (List.take_sublist _ _)
    refine ⟨u, rv, .inl ⟨S.par y (List.mem_of_getElem? hp), ?_⟩⟩
    exact zip_lookup ndp hp hu
  · intro x c h1
    obtain ⟨_, rfl⟩ := cells_one h1
    exact ⟨_, oc, keep _ _ cS.1, hcd⟩
  · exact e0.hok.fresh (Nat.le_refl _)
  · intro x c h1
    obtain ⟨_, rfl⟩ := cells_one h1
    exact cS.2
  · exact fun p z => nomatch z
  · exact e0.hok.kept keep
  · show (L2.start N vs).length = N.length
    unfold L2.start
    rw [List.length_append, List.length_map, List.length_replicate]
    omega
end
/-- the built-in __init__ bound to an exception, called: its args are laid anew -/
theorem mw_call {prog : Program} {w : World} {A : Around} {E : Value → Shared → Prop} {h : Heap} {g : Array GenState} {d : Drawn} {t : Nat} {os : OsState} {nm q : Str} {C N u x t0 : Addr} {bs bm : List Value} {hdct : Bool} {sn : List Str} {sub : List Value} {ab : Bool} {col : Option Bool}
    {dd : Option Addr} {k0 k1 k2 k3 k5 : Option Value} {rest : List Value} {Q : Value → Shared → Prop} (hC : h.get? C = some (excClassObj nm q C N bs bm hdct sn sub ab col dd k0 k1 k2 k3 k5 "ValueError.__new__")) (hu : h.get? u = some (PySem.W.kxs_mw "ValueError.__init__" x))
    (he : h.get? x = some (PySem.HandSPX.excO C t0)) (hz : rest.length ≤ sizeLine)
    (hq : ∀ h' t1, (∀ b o, b ≠ x → h.get? b = some o → h'.get? b = some o) → h'.get? x = some (PySem.HandSPX.excO C t1) → Q .none ⟨h', g, d, t, os⟩) :
    wpAny (model prog w) A (call (.ref u) rest) Q E ⟨h, g, d, t, os⟩ := by
  refine wpAny_call (codeAny_of_tree ?_)
  show wpAny _ A.in1 (callAny (.ref u) ⟨rest, []⟩) _ _ _
  unfold callAny
  refine wpAny_bind (wpAny_load hu ?_)
  have k : (Value.type "method-wrapper" == Value.type "method" || Value.type "method-wrapper" == Value.type "builtin_function_or_method" || Value.type "method-wrapper" == Value.type "method-wrapper") = true := by decide
  simp only [PySem.W.kxs_mw, k, if_true]
  refine PySem.W.KFB.if_so (by decide) ?_
  refine wpAny_bind (PySem.W.check_bound_init F.excBase_ValueError.toExcCallFacts hC he rfl ?_)
  refine wpAny_bind (wpAny_pure (wpAny_pure ⟨plainId_quiet F.excBase_ValueError.init.plain _, codeAny_builtin F.excBase_ValueError.initEntry ?_⟩))
  exact PySem.W.exc_init_tree (cls := .ref C) (t0 := t0) (dv := none) (c2 := .none) (c3 := .none) (b4 := .bool false) he hz fun h' k1 k2 _ => hq h' h.objs.size k1 k2
/-- what the text and the top say of such a class -/
structure SupCls (P : Program) (K : PySem.W.Frag) (mg : Str → Option Value) (x qual : Str) (st : Stmt) (C fI cc cda : Addr) (fd : FuncData) : Prop where
  gC : mg x = some (.ref C)
  ox : OexC K C
  iC : PySem.W.findIn K (.ref C) "__init__" = some (some (.ref fI))
  tI : PySem.W.typeIn K (.ref fI) = some (.type "function")
  fn : ∃ (oc : Value) (od : Option Addr) (doc pm : Value) (an : Option Addr) (ct : Value) (osl : Array (Option Value)), fd = PySem.W.ksFn "__init__" qual (defArgs st) (defBody st) (defScope st) .none .none doc pm an (.ref cda) ct cc ∧ K.lookup fI = some ⟨oc, od, .func fd, osl⟩
  cdq : PySem.W.codeIn K (.ref cda) qual = true
  code : ∃ (ccl : Value) (cdd : Option Addr) (vs : Array Value) (ccs : Array (Option Value)) (file : Str) (tf : Tok), K.lookup cda = some ⟨ccl, cdd, .fields vs, ccs⟩ ∧ vs[2]? = some (.str file tf) ∧ ((P.main.file : Str) == file) = true
  cell : ∃ (cl : Value) (cld : Option Addr) (csl : Array (Option Value)), K.lookup cc = some ⟨cl, cld, .cell (some (.ref C)), csl⟩
  sub : PySem.W.mroIn K C (.ref C) = some true
  noS : mg "super" = none
  anyC : PySem.W.nsIn K cStatics "thirdparty.any" = some none
  supI : PySem.W.ks_superIn K C C "__init__" = some (some (.builtin "ValueError.__init__"))
  subV : PySem.W.subIn K (.ref C) (.type "ValueError") = some true
  noTop : (P.main.scope.names.lookup ("super" : Str)).isSome = false
theorem boot_super : bootBuiltins "super" = some (.type "super") := by decide +kernel
section
variable {P : Program} {w : World} {K : PySem.W.Frag} {mg : Str → Option Value} {base : Heap}
theorem ok_sup {x qual : Str} {st : Stmt} {C fI cc cda : Addr} {fd : FuncData} {N ps : List Str} {ar : Arg} {k : Nat} {sp : Sp} {p0 p1 p2 p3 p4 : Pos} {msg : Expr} {rest : List Stmt} (T : SupCls P K mg x qual st C fI cc cda fd) (S : SupScope N ps (defScope st))
    (hp : ((defArgs st).posonlyargs ++ (defArgs st).args).head? = some ar) (hps : ps[0]? = some ar.arg) (hbody : defBody st = .Expr (.Call (.Attribute (.Call (.Name "super" p0) [] [] p1) "__init__" p2) [msg] [] p3) p4 :: rest)
    {pl : Sem Bool} (hev : ∀ L : Addr, eval (.Call (.Attribute (.Call (.Name "super" p0) [] [] p1) "__init__" p2) [msg] [] p3) (supEnv qual (defScope st) L fI cda cc) = (do
      let ov ← attributeBase (.Call (.Name "super" p0) [] [] p1) "__init__" (supEnv qual (defScope st) L fI cda cc) (eval (.Call (.Name "super" p0) [] [] p1) (supEnv qual (defScope st) L fI cda cc))
      standAt p2.atName
      let (f, first) ← holding [ov] (getMethod ov "__init__" pl)
      callWith p3 f first (backTo p3 (starEach [msg] (supEnv qual (defScope st) L fI cda cc))) []))
    (hst : ∀ L : Addr, starEach [msg] (supEnv qual (defScope st) L fI cda cc) = [(false, eval msg (supEnv qual (defScope st) L fI cda cc))])
    (len : ∀ vs H Q E, sp vs H Q E → vs.length = ps.length)
    (hb : ∀ (A : Around) (outer : List Env) (s : Shared) (H : Hp) (vs : List V) (Q : VK) (E : XK), Room k (A.deeper (supEnv qual (defScope st) s.heap.objs.size fI cda cc)) → sp vs H Q E →
      ∃ (a : Addr) (tm : TE) (t : TS), vs[0]? = some (.ref a) ∧ H a = some (exo a C none) ∧ PE (cxS P w K mg base N qual (defScope st) fI cda cc A outer s H) msg tm ∧ PSs (cxS P w K mg base N qual (defScope st) fI cda cc A outer s H) rest t ∧
        tm (L2.start N vs) H fun _ H1 => H1 a = some (exo a C none) ∧ t { nx := fun _ H' => Q .non H', rt := Q } (L2.start N vs) H1) :
    FnOk P w K mg base CX0 (k + 1) fI fd ps sp := by
  refine ⟨len, fun A outer s H args us vs Q E hr e0 bind r want => ?_⟩
  obtain ⟨oc, od, doc, pm, an, ct, osl, rfl, lk⟩ := T.fn
  obtain ⟨ccl, cdd, cvs, ccs, file, tf, lkc, hv2, hfile⟩ := T.code
  obtain ⟨cl, cld, csl, lcc⟩ := T.cell
  obtain ⟨nm, qn, NS, bs, bm, sn, sub, ab, col, dd, k0, k1, k2, k3, k5, hC, hbm⟩ := T.ox.cls
  have hl := len _ _ _ _ want
  have KX : K.In s.heap := e0.mod.kin.keeps fun b o z => (e0.bs b o z).1
  have lim : s.heap.NoLimit := e0.mod.nolimit.keeps fun b o z => (e0.bs b o z).1
  obtain ⟨a, tm, t, h0, hexo, pm1, prest, ready⟩ := hb A outer s H vs Q E (hr.deeper _) want
  refine PySem.ks_codeAny_call_defAt (body := defBody st) hr.depth (KX _ _ lk) rfl lim (PySem.W.codeRec_of KX T.cdq) rfl bind S.nocell (fun y hy => ?_) (fun hh hns hk => ?_) S.co S.gen S.kind
  · exact S.par _ (List.of_mem_zip (a := y.1) (b := y.2) hy).1
  have I0 : Inv (cxS P w K mg base N qual (defScope st) fI cda cc A outer s H) [] (L2.start N vs) H { s with heap := hh, toks := s.toks + (ps.zip us).length } := sup_start S hr.hd e0 hl r lcc rfl hns hk
  have KH : K.In hh := KX.keeps hk
  have v0 : us[0]? = some (.ref a) := by
    obtain ⟨u, hu, ru⟩ := r.get h0
    cases (show u = Value.ref a from ru)
    exact hu
  obtain ⟨t0, hea⟩ := exo_at I0.hok hexo
  have hea : hh.get? a = some (PySem.HandSPX.excO C t0) := hea
  -- super().__init__(msg)
  show PySem.wpAt (model P w) (A.deeper (supEnv qual (defScope st) s.heap.objs.size fI cda cc)) (.func (defBody st) (supEnv qual (defScope st) s.heap.objs.size fI cda cc)) (execs (defBody st) (supEnv qual (defScope st) s.heap.objs.size fI cda cc)) _ _ _
  rw [show execs (defBody st) (supEnv qual (defScope st) s.heap.objs.size fI cda cc) = execs (.Expr (.Call (.Attribute (.Call (.Name "super" p0) [] [] p1) "__init__" p2) [msg] [] p3) p4 :: rest) (supEnv qual (defScope st) s.heap.objs.size fI cda cc) from congrArg (fun b => execs b _) hbody]
  obtain ⟨mL, glob, blt⟩ : (∃ m, (⟨hh, s.gens, s.drawn, s.toks + (ps.zip us).length, s.os⟩ : Shared).heap.Ns s.heap.objs.size m) ∧ hh.Ns mainGlobals mg ∧ ∃ mb, hh.Ns builtinsNs mb ∧ ∀ y : Str, y ≠ "__name__" → mb y = bootBuiltins y := by
    refine ⟨⟨_, hns⟩, e0.mod.glob.keeps I0.bk, ?_⟩
    obtain ⟨mb, b1, b2⟩ := e0.mod.blt
    exact ⟨mb, b1.keeps I0.bk, b2⟩
  obtain ⟨mb, b1, b2⟩ := blt
  obtain ⟨cdD, hcdD, oD, hoD, hoD2⟩ : ∃ cdD, PySem.W.clsIn K C = some cdD ∧ ∃ oD, hh.get? C = some oD ∧ oD.data = .cls cdD := by
    refine ⟨{ name := nm, bases := bs, mro := .ref C :: bm, ns := NS, qualname := qn, hasDict := true, slotNames := sn, subclasses := sub, abstract := ab, collection := col, hasDel := false }, ?_, _, KH _ _ hC, rfl⟩
    unfold PySem.W.clsIn
    rw [hC] <;> rfl
  refine PySem.ks_wpAt_execs_cons (PySem.ks_wpAt_Expr_any (PySem.ks_wpAt_MethodCall (pl := pl) ?_ (hev _)) (by unfold interactive; rw [show (supEnv qual (defScope st) s.heap.objs.size fI cda cc).scope.kind = .function from S.kind]; rfl) (by rfl))
  refine PySem.ks_wpAt_super_base (env := supEnv qual (defScope st) s.heap.objs.size fI cda cc) S.sup S.cls (by decide) rfl (KH _ _ lk) rfl hp rfl (KH _ _ lkc) rfl hv2 hfile T.noTop ?_
  refine PySem.W.ks_loadName_global S.kind S.sup (PySem.Calls.loadGlobal_builtin (env := supEnv qual (defScope st) s.heap.objs.size fI cda cc) glob T.noS b1 ((b2 _ (by decide)).trans boot_super) ⟨rfl, ?_⟩)
  refine wpAny_loadName_free S.kind S.cls rfl ⟨_, KH _ _ lcc, rfl⟩ ?_
  refine wpAny_loadName_local S.kind (S.par _ (List.mem_of_getElem? hps)) hns (zip_lookup (i := 0) (by rw [← S.pre]; exact S.nd.sublist (List.take_sublist _ _)) hps v0) ?_
  refine PySem.ks_wpAny_isType_cls hoD hoD2 ⟨rfl, ?_⟩
  refine PySem.ks_wpAny_call_super hoD hoD2 hea rfl (fun c e => nomatch e) (PySem.W.looks_mroIn KH T.sub) (fun h1 hso k1 => ?_)
  have KH1 : K.In h1 := KH.keeps k1
  have hea1 := k1 _ _ hea
  have inst : PySem.W.InstAt h1 a (PySem.HandSPX.excO C t0) C none := ⟨hea1, rfl, rfl, trivial⟩
  have along : PySem.W.alongIn K "__init__" ((cdD.mro.dropWhile (· != .ref C)).drop 1) = some (some (.builtin "ValueError.__init__")) := by
    have z := T.supI
    unfold PySem.W.ks_superIn at z
    rw [hcdD] at z
    exact z
  refine PySem.W.kxs_getMethod PySem.W.kxs_ValueError hso (PySem.W.looks_opaque KH1 T.anyC) (l₀ := cdD.mro) (fun A Q E s k q => wpAny_bind ((PySem.W.looks_clsIn KH1 hcdD) A _ E s k (wpAny_pure q))) rfl KH1 along
    (inst.type.andThen (PySem.W.looks_subIn KH1 T.subV)) (PySem.W.ks_ne KH1 inst hcdD) (by decide) ?_
  show wpAny _ _ (callWith p3 (.ref h1.objs.size) [] (backTo p3 (starEach [msg] (supEnv qual (defScope st) s.heap.objs.size fI cda cc))) []) _ _ _
  rw [hst]
  generalize hu : h1.objs.size = u
  have k2 : ∀ b o, h1.get? b = some o → (h1.push (PySem.W.kxs_mw "ValueError.__init__" a)).get? b = some o := fun b o z => Heap.get?_push_of_some _ z
  have hmw : (h1.push (PySem.W.kxs_mw "ValueError.__init__" a)).get? u = some (PySem.W.kxs_mw "ValueError.__init__" a) := by rw [← hu]; exact Heap.get?_push_size _ rfl
  have I2 := I0.kept (h' := h1.push (PySem.W.kxs_mw "ValueError.__init__" a)) (t' := s.toks + (ps.zip us).length + 1) (fun b o z => k2 b o (k1 b o z))
  have uH : H u = none := by
    rw [← hu]
    exact I0.hok.fresh (Nat.le_of_lt (Heap.lt_size hso))
  have I3 : Inv (cxS P w K mg base N qual (defScope st) fI cda cc A outer s H) [(u, PySem.W.kxs_mw "ValueError.__init__" a)] (L2.start N vs) H _ := I2.pins_of (by
    intro p hp
    rw [List.mem_singleton.mp hp]
    refine ⟨hmw, uH, ?_, ?_, fun v z => nomatch z⟩
    · have z1 : s.heap.objs.size < hh.objs.size := hns.lt
      have z2 := Heap.lt_size hso
      rw [hu] at z2
      exact Nat.ne_of_gt (Nat.lt_trans z1 z2)
    · refine I0.nofs ?_
      rw [← hu]
      exact Nat.le_of_lt (Heap.lt_size hso))
  refine PySem.W.kxs_callWith (i := "ValueError.__init__") (x := a) rfl (PySem.Calls.evalArgs_plain ?_)
  refine PySem.Calls.spliced_cons (wpAny_mono (pm1.run _ _ _ _ _ I3 ready) ?_ (fun _ _ z => z.elim))
  rintro v s1 ⟨y, H1, I4, ry, hexo1, ready1⟩
  refine PySem.Calls.spliced_nil ⟨(I4.pin (u, _) (List.mem_append_right _ List.mem_cons_self)).1, ?_⟩
  obtain ⟨t1, he1⟩ := exo_at I4.hok hexo1
  have hmw1 := (I4.pin (u, _) (List.mem_append_right _ List.mem_cons_self)).1
  have KH4 := I4.kIn
  obtain ⟨hp4, g4, d4, tk4, os4⟩ := s1
  refine mw_call (KH4 _ _ hC) hmw1 he1 (by show 1 ≤ sizeLine; decide) (fun h5 t5 keep5 he5 => ?_)
  have I5 := I4.write (t' := tk4) (x := a) (e := a) (o := exo a C none) (by rw [hexo1]; exact True.intro) (.inl rfl) keep5 ⟨_, he5⟩ (exo_ok he5)
  have eH : upd H1 a (exo a C none) = H1 := by
    funext b
    by_cases hb : b = a
    · rw [hb, upd_same, hexo1]
    · rw [upd_ne hb]
  rw [eH] at I5
  refine PySem.wpAt_of_wpAny (wpAny_mono (prest.run _ _ _ _ _ I5 ready1) ?_ (fun _ _ z => z.elim))
  intro fl s' hs
  cases fl with
  | next =>
    obtain ⟨σ', H', J, q⟩ := hs
    exact ⟨V.non, H', J.os, J.bare, J.base, J.hok, rfl, q⟩
  | ret z =>
    obtain ⟨v', σ', H', J, rv, q⟩ := hs
    exact ⟨v', H', J.os, J.bare, J.base, J.hok, rv, q⟩
  | brk =>
    obtain ⟨_, _, _, z⟩ := hs
    exact (z : False).elim
  | cont =>
    obtain ⟨_, _, _, z⟩ := hs
    exact (z : False).elim
end
/-! ### such an error as a value -/
/-- C(e, ..) as a value: a new error at a, its dict at d -/
def tNewE (C : Addr) (sp : Sp) (ta : TA) : TE := fun σ H Q => ta σ H fun vs H1 => vs.length ≤ 1000 ∧ ∀ a, H1 a = none → sp (.ref a :: vs) (upd H1 a (exo a C none)) (fun v H2 => v = .non ∧ H1 a = none ∧ Q (.ref a) H2) fun _ _ _ => False
theorem pe_oex {X : Cx} {x : Str} {C fI : Addr} {k : Nat} {fd : FuncData} {ps : List Str} {sp : Sp} {e : Expr} {es : List Expr} {ta : TA} {p pos : Pos} (T : OexC X.K C) (iC : PySem.W.findIn X.K (.ref C) "__init__" = some (some (.ref fI))) (tI : PySem.W.typeIn X.K (.ref fI) = some (.type "function"))
    (F1 : FnOk X.prog X.w X.K X.mg X.base CX0 k fI fd ps sp) (hr : Room (k + 1) X.A) (hb : Binds X.K fd ps []) (hg : Gl X x) (hm : X.mg x = some (.ref C)) (ha : PA X (e :: es) ta)
    (hdb : (x == ("__debug__" : Str)) = false := by decide) (he : starEach (e :: es) X.env = (false, eval e X.env) :: starEach es X.env := by rfl) (hpl : (backTo pos (starEach es X.env)).any (·.1) = false := by rfl) :
    PE X (.Call (.Name x p) (e :: es) [] pos) (tNewE C sp ta) := by
  constructor
  intro pins s σ H Q I h
  obtain ⟨nm, q, N, bs, bm, sn, sub, ab, col, dd, k0, k1, k2, k3, k5, hC, hbm⟩ := T.cls
  have args := ha.run pos pins s σ H _ I h
  refine wpAny_Call_Name_kw (ld_glob I hg hm (PySem.W.callWith_K (h₀ := X.base) I.ok.mod.kin T.kC (thn args ?_) he hpl) hdb)
  rintro us s1 ⟨vs, H1, J, r1, hz, want⟩
  refine ⟨J.kIn, ?_⟩
  show wpAny _ _ (call (.ref C) us) _ _ _
  obtain ⟨hp, g, dr, tk, os⟩ := s1
  let a := hp.objs.size + 1
  let h2 : Heap := (hp.push (PySem.W.kdv_tup us)).push (PySem.HandSPX.excO C hp.objs.size)
  have big : hp.objs.size ≤ a := Nat.le_succ _
  have na : H1 a = none := J.hok.fresh big
  have keep : ∀ b o, hp.get? b = some o → h2.get? b = some o := fun b o z => Heap.get?_push_of_some _ (Heap.get?_push_of_some _ z)
  have at2 : h2.get? a = some (PySem.HandSPX.excO C hp.objs.size) := by
    show ((hp.push (PySem.W.kdv_tup us)).push (PySem.HandSPX.excO C hp.objs.size)).get? (hp.objs.size + 1) = _
    heap_get
  have J2 : Inv X pins σ (upd H1 a (exo a C none)) ⟨h2, g, dr, tk, os⟩ := J.laid (t' := tk) (a := a) (o := exo a C none) (h' := h2) keep big (exo_ok at2)
  have rel : Vals (V.ref a :: vs) (Value.ref a :: us) := .cons rfl r1
  have ready := want a na
  have len : (Value.ref a :: us).length = ps.length := by
    rw [← rel.length]
    exact F1.len _ _ _ _ ready
  have lus : us.length ≤ sizeLine := by
    rw [← r1.length, sizeLine_eq]
    omega
  have rel0 : Vals (V.ref a :: vs) (Value.ref a :: us ++ []) := by
    rw [List.append_nil]
    exact rel
  refine wpAny_call (PySem.HandSPX.call_own F.excBase_ValueError (fun Y => PySem.HandSPX.refsVE_contains Y bm hbm) (J.kIn _ _ hC) (PySem.W.looks_findIn J.kIn iC) (fun self => PySem.W.bind_fn J.kIn self tI) lus
    (codeAny_mono (F1.run _ X.stack _ _ ⟨Value.ref a :: us, []⟩ (Value.ref a :: us ++ []) (V.ref a :: vs) _ (fun _ _ _ => False) (hr.make C us []) (J2.env0.make C us []) (hb _ (Value.ref a :: us) J2.kIn (by rw [List.append_nil]; exact len)) rel0 ready) ?_))
  intro r s' hq
  match r, hq with
  | .error _, hq => exact (hq : False).elim
  | .ok .next, hq => exact False.elim hq
  | .ok .brk, hq => exact False.elim hq
  | .ok .cont, hq => exact False.elim hq
  | .ok (.ret u), hq =>
    obtain ⟨v, H2, os2, bare2, un2, ok2, rv, ev, _, q2⟩ := hq
    subst ev
    obtain ⟨hh2, g2, d2, t2, os'⟩ := s'
    exact ⟨rv, .ref a, H2, J2.call' (ch := []) os2 un2 ok2 bare2 (fun b z => nomatch z), rfl, q2⟩
/-! ### e.f of such an error that is tracked -/
def tExf (K : PySem.W.Frag) (f : Str) (te : TE) : TE := fun σ H Q => te σ H fun x H1 => ∃ (a C d : Addr) (fs : List (Str × V)) (v : V), x = .ref a ∧ ExcC K C ∧ PySem.W.findIn K (.ref C) f = some none ∧ H1 a = some (exo a C (some d)) ∧ H1 d = some (exd d fs) ∧ fs.lookup f = some v ∧ Q v H1
theorem pe_exf {X : Cx} {e : Expr} {te : TE} {pos : Pos} {n : Str} (he : PE X e te) (hb : attributeBase e n X.env (eval e X.env) = eval e X.env := by rfl) : PE X (.Attribute e n pos) (tExf X.K n te) := by
  constructor
  intro pins s σ H Q I h
  refine attr_of hb (thn (he.run pins s σ H _ I h) ?_)
  rintro u s1 ⟨x, H1, J, rx, a, C, d, fs, v, rfl, T, hno, ea, ed, hl, q⟩
  cases (show u = Value.ref a from rx)
  obtain ⟨t1, ho⟩ := exo_at J.hok ea
  obtain ⟨mA, hns, hr⟩ := exd_at J.hok ed
  obtain ⟨od, hod, hlk⟩ := lookIn_ns hns
  obtain ⟨w', hw, rw'⟩ := RelO.some_of (v := v) (o := mA n) (by rw [← hl]; exact hr n)
  have inst : PySem.W.InstAt s1.heap a { cls := .ref C, dict := some d, data := .fields #[.ref t1, .none, .none, .none, .bool false, .none] } C (some od) := ⟨ho, rfl, rfl, hod⟩
  exact HandSPX.exc_get J.kIn inst T.hg T.hk T.hs (PySem.W.findObj_own T.hd hno rfl (by rw [hlk, hw])) (handed_of rw') ⟨v, H1, J.tok _, rw', q⟩
/-! ### isinstance of an error that is tracked -/
theorem found_cls {K : PySem.W.Frag} {D : Addr} (T : ExcC K D) (od : Option Obj) : PySem.W.findObj K D od "__class__" = some (.bind (.builtin "getset_descriptor.__get__") (.builtin "object.__class__")) := by
  cases od with
  | none =>
    refine PySem.W.findObj_dataN ?_ T.ha T.hn T.ht
    obtain ⟨cd, e, _⟩ := PySem.W.any_some T.hd
    rw [e] <;> rfl
  | some o =>
    refine PySem.W.findObj_data ?_ T.ha T.hn T.ht
    obtain ⟨cd, e, _⟩ := PySem.W.any_some T.hd
    rw [e] <;> rfl
/-- e.__class__ of an error, with a dict of its own or without -/
theorem err_class {prog : Program} {w : World} {A : Around} {E : Value → Shared → Prop} {s : Shared} {K : PySem.W.Frag} {x D : Addr} {ox : Obj} {od : Option Obj} {Q : Option Value → Shared → Prop} (T : ExcC K D) (X : K.In s.heap) (I : PySem.W.InstAt s.heap x ox D od)
    (h : Q (some (.ref D)) { s with toks := s.toks + 1 }) : wpAny (model prog w) A (getAttr? (.ref x) "__class__") Q E s := by
  obtain ⟨hp, g, d, t, os⟩ := s
  have isD := I.type (M := model prog w)
  have noGo : (Value.builtin "BaseException.__getattribute__" == Value.builtin "object.__getattribute__") = false := by decide +kernel
  have plain : (onTheHeap (Value.ref D) && Value.builtin "BaseException.__getattribute__" == Value.builtin "object.__getattribute__") = false := by
    rw [noGo]
    exact Bool.and_false _
  unfold getAttr? getAttrBy? getAttrBy
  refine wpAny_bind (wpAny_mkText (wpAny_bind (wpAny_attempt (wpAny_holding (wpAny_bind (isD.at (wpAny_bind ((PySem.W.looks_findIn (M := model prog w) X T.hg).at ?_))))))))
  show wpAny _ _ (if (onTheHeap (Value.ref D) && Value.builtin "BaseException.__getattribute__" == Value.builtin "object.__getattribute__") = true then _ else _) _ _ _
  rw [if_neg (by rw [plain]; exact Bool.false_ne_true)]
  unfold getAttrByItsOwn hookBefore
  refine wpAny_bind ?_
  have onHeap : onTheHeap (Value.ref D) = true := rfl
  rw [if_pos onHeap]
  refine (PySem.W.looks_findIn (M := model prog w) X T.hk).at (wpAny_bind (wpAny_attempt (wpAny_holding ?_)))
  unfold callGetattribute boundAndCalled
  rw [if_neg (by exact Bool.false_ne_true), PySem.F.excAttr_ValueError.ga.bind (.ref x)]
  refine wpAny_bind (wpAny_pure ?_)
  show wpAny _ _ (call (.builtin "BaseException.__getattribute__") [.ref x, .str "__class__" t]) _ _ _
  refine wpAny_call (codeAny_call_builtin PySem.F.excAttr_ValueError.ga.plain PySem.F.entry_bexc_ga ?_)
  have sub : PySem.W.Looks (model prog w) hp (isInstance (.ref x) (.type "BaseException")) true := isD.andThen (PySem.W.looks_subIn X T.hs)
  refine @PySem.W.check_slot (model prog w) _ _ ⟨hp, g, d, t + 1, os⟩ "BaseException.__getattribute__" "BaseException" "__getattribute__" (.ref x) [.str "__class__" t] [] _ (by decide +kernel) (by decide +kernel) sub (PySem.F.args_bexc_ga (.ref x) (.str "__class__" t)) ?_
  unfold Builtin.«object.__getattribute__»
  refine wpAny_bind (wpAny_of_eq (a := ((Value.ref x : Value), [Value.str "__class__" t])) (by first | rfl | (simp only [slotArgs]; rfl)) (wpAny_bind (wpAny_pure (wpAny_bind (isD.at (wpAny_bind ((PySem.W.looks_find (M := model prog w) X I (found_cls T od)).at ?_)))))))
  show wpAny _ _ (holding [Value.builtin "object.__class__"] (call (.builtin "getset_descriptor.__get__") [.builtin "object.__class__", .ref x, .ref D]) >>= ret) _ _ _
  refine wpAny_bind (wpAny_holding (wpAny_call (PySem.W.class_get (s := ⟨hp, g, d, t + 1, os⟩) (ox := ox) (od := od) X I T.hm (wpAny_pure ?_))))
  show wpAny _ _ (handedOut (.ref D)) _ _ _
  rw [PySem.W.handedOut_of (v := .ref D) rfl]
  first
    | exact wpAny_pure (wpAny_pure h)
    | exact wpAny_pure h
    | exact wpAny_pure (wpAny_bind (wpAny_pure (wpAny_pure h)))
theorem kitx_err {K : PySem.W.Frag} {x D : Addr} {ox : Obj} {od : Option Obj} (T : ExcC K D) : PySem.W.KitX K (.ref x) (.ref D) (fun h => PySem.W.InstAt h x ox D od) := by
  have Z := PySem.W.handS_kitx_exc (x := x) (ox := ox) T.hg T.hk T.hs T.hd T.ha T.hn T.ht T.hm
  refine ⟨fun _ _ _ I => I.type, fun M h X _ => ?_, Z.ne, fun X I k => err_class T X I k⟩
  obtain ⟨cdD, e, _⟩ := PySem.W.any_some T.hd
  unfold PySem.W.clsIn at e
  split at e
  · rename_i c' d' cd' sl' ho
    intro A' Q' E' s' k q
    unfold isType loadHead
    exact wpAny_bind (wpAny_loadPart (k _ _ (X _ _ ho)) (wpAny_pure q))
  · cases e
/-- an error of the class at C stands at a -/
def ErrAt (H : Hp) (a C : Addr) : Prop := H a = some (ExO (.ref C) a) ∨ ∃ d fs, H a = some (exo a C (some d)) ∧ H d = some (exd d fs)
def rIsX (K : PySem.W.Frag) : List V → Hp → VK → Prop := fun xs H Q => ∃ (a C : Addr) (c : V) (u : Value) (b : Bool), xs = [.ref a, c] ∧ ErrAt H a C ∧ ExcC K C ∧ ClsV c u ∧ PySem.W.kitOne K (.ref C) u = some b ∧ Q (.bl b) H
theorem call_isX {X : Cx} : CallR X (.builtin "isinstance") (rIsX X.K) := by
  intro pins s σ H xs us Q I r h
  obtain ⟨a, C, c, cv, b, rfl, err, T, hc, e, q⟩ := h
  obtain ⟨u1, u2, rfl, r1, r2⟩ := vals2 r
  cases (show u1 = Value.ref a from r1)
  have e2 := hc.eq r2
  subst e2
  rcases err with ea | ⟨d, fs, ea, ed⟩
  · obtain ⟨⟨oe, vs, ho, hz, hd, _⟩, _, _⟩ := I.hok a _ ea
    obtain ⟨oc, od, oda, osl⟩ := oe
    obtain ⟨h1, h2⟩ := hz
    dsimp only at h1 h2 hd
    subst h1 h2 hd
    exact PySem.W.kia_one (PySem.W.handS_kitx_exc T.hg T.hk T.hs T.hd T.ha T.hn T.ht T.hm) I.kIn (show PySem.W.InstAt s.heap a _ C none from ⟨ho, rfl, rfl, trivial⟩) e (fun z => nomatch z) fun tk => ⟨.bl b, H, I.tok tk, rfl, q⟩
  · obtain ⟨t1, ho⟩ := exo_at I.hok ea
    obtain ⟨mA, hns, _⟩ := exd_at I.hok ed
    obtain ⟨od, hod, _⟩ := lookIn_ns hns
    exact PySem.W.kia_one (kitx_err T) I.kIn (show PySem.W.InstAt s.heap a _ C (some od) from ⟨ho, rfl, rfl, hod⟩) e (fun z => nomatch z) fun tk => ⟨.bl b, H, I.tok tk, rfl, q⟩
end My

namespace My
open PySem PySem.Spec PyProof.Rows L2
/-! ### try with several clauses, each with a name -/
/-- what a clause names, where its name stands, what its suite does -/
structure Clause where
  c : Value
  at_ : Nat
  ts : Addr → Value → Option Addr → TS
/-- the ways out of a suite: the clause's name is gone -/
def gone (i : Nat) (D : Ends) : Ends where
  nx := fun σ H => D.nx (σ.set i none) H
  rt := D.rt
  bk := fun σ H => D.bk (σ.set i none) H
  ct := fun σ H => D.ct (σ.set i none) H
/-- what the clauses wish of the body's exception -/
def wEach (K : PySem.W.Frag) (W0 : WX) (D : Ends) : List Clause → WX
  | [] => W0
  | q :: r => fun cls d σ H => ∃ b, PySem.W.exmOne K cls q.c = some b ∧ (b = true → ∀ a, H a = none → q.ts a cls d (gone q.at_ D) (σ.set q.at_ (some (.ref a))) H) ∧ (b = false → wEach K W0 D r cls d σ H)
inductive Clauses (X : Cx) : List ExceptHandler → List Clause → Prop
  | nil : Clauses X [] []
  | cons {x n : Str} {q : Clause} {st : Stmt} {sts : List Stmt} {p1 p2 : Pos} {more : List ExceptHandler} {r : List Clause} (nm : Names X x q.c) (slot : X.N[q.at_]? = some n) (loc : X.env.kindOf n = some .local)
      (body : ∀ (a : Addr) (oe : Obj) (cls : Value) (d : Option Addr) (pn : List (Addr × Obj)), Zc cls d oe → (∃ vs, oe.data = .fields vs) → PSs (X.suite a ((a, oe) :: pn)) (st :: sts) (q.ts a cls d)) (rest : Clauses X more r) :
      Clauses X (.ExceptHandler (some (.Name x p1)) (some n) (st :: sts) p2 :: more) (q :: r)
/-- the place where the clauses are asked -/
structure Landed (X : Cx) (a : Addr) (B : Heap) (sI s : Shared) (pins : List (Addr × Obj)) (σ : L2.St) (H : Hp) (cls : Value) (d : Option Addr) : Prop where
  J : Inv X pins σ H sI
  nb : ∀ b o, sI.heap.get? b = some o → b ∉ frs X.stack → B.get? b = some o
  up : sI.heap.UpToSlots s.heap
  os : s.os = sI.os
  ag : AllBare s.gens
  na : H a = none
  fl : HandSPX.FlyingZ B (X.env :: X.outer) a (Zc cls d) s.heap
section
variable {X : Cx} {a : Addr} {B : Heap} {sI s : Shared} {pins : List (Addr × Obj)} {σ : L2.St} {H : Hp} {cls : Value} {d : Option Addr}
theorem Landed.off (L : Landed X a B sI s pins σ H cls d) (hf : X.env.frame = some X.env.locals) : a ≠ X.env.locals ∧ a ∉ X.fs := by
  obtain ⟨o, vs, e, _, dt⟩ := L.fl.there
  have out : a ∉ frs (X.env :: X.outer) := by
    intro m
    obtain ⟨_, o', e', k⟩ := L.fl.2.2.1.mem m
    cases e.symm.trans e'
    exact k _ dt
  constructor
  · intro z
    refine out (List.mem_filterMap.mpr ⟨_, .head _, ?_⟩)
    rw [hf, z]
  · intro m
    obtain ⟨v, hv, q⟩ := List.mem_filterMap.mp m
    exact out (List.mem_filterMap.mpr ⟨v, .tail _ hv, q⟩)
theorem Landed.here (L : Landed X a B sI s pins σ H cls d) : Inv X pins σ H s := by
  have z := L.J.landed (s' := s) L.nb L.fl.1 L.up L.os L.ag
  exact z
theorem Landed.moved {h : Heap} (L : Landed X a B sI s pins σ H cls d) (f : HandSPX.FlyingZ B (X.env :: X.outer) a (Zc cls d) h) (u : s.heap.UpToSlots h) : Landed X a B sI { s with heap := h } pins σ H cls d :=
  ⟨L.J, L.nb, L.up.trans u, L.os, L.ag, L.na, f⟩
theorem Landed.asked {D : Ends} {W0 : WX} (hs : X.stack = X.env :: X.outer) (hf : X.env.frame = some X.env.locals) (hN : X.N.Nodup) (tk : Takes X W0) (L : Landed X a B sI s pins σ H cls d) :
    ∀ {hds : List ExceptHandler} {l : List Clause}, Clauses X hds l → wEach X.K W0 D l cls d σ H → wpAny (model X.prog X.w) X.A (handleBy (.ref a) X.env hds) (SP X pins D) X.xe s := by
  intro hds l cl
  have ok := L.J.ok
  obtain ⟨offL, offF⟩ := L.off hf
  obtain ⟨o, vs, ho, hz, hd⟩ := L.fl.there
  have S := L.here.suite ho hd L.na offL offF
  induction cl with
  | nil =>
    intro w
    refine wpAny_handleBy_nil ?_
    obtain ⟨_, _, _, o', vs', T, _, _, e', _, d', tb, _⟩ := id L.fl
    unfold PySem.passOn
    refine wpAny_bind (wpAny_field e' d' tb ?_)
    have nn : ¬ ((Value.ref T == Value.none) = true) := by simp
    rw [if_neg nn]
    have out : wpAny (model X.prog X.w) X.A (setFlight (.ref a) X.env.frame) (fun _ t => wpAny (model X.prog X.w) X.A (throw (.ref a) : Sem Flow) (SP X pins D) X.xe t) X.xe s := by
      rw [hf]
      refine HandSPX.setFlight_upZ L.fl fun g hg ug => wpAny_throw (tk _ _ ?_)
      have sky : Sky B X.stack a (Zc cls d) X.env.locals g := by
        rw [hs]
        exact .inr (.inr hg)
      exact ⟨_, _, _, _, _, _, _, _, rfl, L.J, L.nb, L.up.trans ug, sky, L.na, L.os, L.ag, w⟩
    first
      | exact wpAny_bind (wpAny_pure (wpAny_bind out))
      | exact wpAny_bind out
  | @cons x n q st sts p1 p2 more r nm slot loc body rest ih =>
    rintro ⟨b, eb, yes, no⟩
    refine wpAny_handleBy_cons (codeAny_handlers_test ?_) (by intro z; cases z)
    have ty : PySem.W.Looks (model X.prog X.w) s.heap (typeOf (.ref a)) cls := by
      intro A Q E t k z
      refine wpAny_typeOf_ref (k _ _ ho) ?_
      rw [hz.1]
      exact z
    have fits := PySem.W.exm_one (M := model X.prog X.w) L.here.kIn ty eb
    have named : ∀ {Q E : Value → Shared → Prop}, Q q.c s → wpAny (model X.prog X.w) (X.A.mark (some (.ref a))) (eval (.Name x p1) X.env) Q E s := by
      intro Q E z
      obtain ⟨g1, g2, g3⟩ := nm
      rcases g3 with g3 | ⟨g3, g4, g5⟩
      · exact ld_glob (X := X.suite a ((a, o) :: (X.pn ++ pins))) S g1 g3 z g2
      · exact ld_blt (X := X.suite a ((a, o) :: (X.pn ++ pins))) S g1 g3 g4 z g5 g2
    refine named (fits.here ?_)
    cases b with
    | false =>
      show wpAny _ X.A (handleBy (.ref a) X.env more) _ _ _
      exact ih (no rfl)
    | true =>
      refine codeAny_handlers_suite_as ?_
      refine HandSPX.lands_againZ L.fl fun g fg ug => ?_
      have Lm := L.moved fg ug
      obtain ⟨o2, _, e2, z2, d2⟩ := fg.there
      have S2 := Lm.here.suite e2 d2 L.na offL offF
      refine store_ok (X := X.suite a ((a, o2) :: (X.pn ++ pins))) (v := .ref a) S2 hN slot (.inl loc) rfl (fun t St => ?_) (.inr loc)
      have run := (body a o2 cls d (X.pn ++ pins) z2 ⟨_, d2⟩).run [] t _ H (gone q.at_ D) St (yes rfl a L.na)
      refine wpAny_mono run (fun f t6 post => ?_) (fun _ _ z => False.elim z)
      have close : ∀ {σ6 : L2.St} {H6 : Hp} {R : Shared → Prop}, Inv (X.suite a ((a, o2) :: (X.pn ++ pins))) [] σ6 H6 t6 → (∀ t7, Inv X pins (σ6.set q.at_ none) H6 t7 → R t7) →
          wpAny (model X.prog X.w) X.A (do bindName X.env n .none; unbindBehindTheSuite X.env n p2) (fun _ t7 => R t7) X.xe t6 := by
        intro σ6 H6 R I6 k
        exact gone_ok (I6.unsuite ok) hN slot loc k
      match f, post with
      | .next, ⟨_, _, I6, w6⟩ => exact close I6 fun t7 J7 => ⟨_, _, J7, w6⟩
      | .brk, ⟨_, _, I6, w6⟩ => exact close I6 fun t7 J7 => ⟨_, _, J7, w6⟩
      | .cont, ⟨_, _, I6, w6⟩ => exact close I6 fun t7 J7 => ⟨_, _, J7, w6⟩
      | .ret u, ⟨_, _, _, I6, r6, w6⟩ => exact close I6 fun t7 J7 => ⟨_, _, _, J7, r6, w6⟩
end
theorem ps_try_each {X : Cx} {body : List Stmt} {h0 : ExceptHandler} {hds : List ExceptHandler} {l : List Clause} {pos : Pos} {tb : WX → TS} {W0 : WX} (hs : X.stack = X.env :: X.outer) (hf : X.env.frame = some X.env.locals) (hN : X.N.Nodup) (tk : Takes X W0)
    (hb : ∀ (W : WX) (pn : List (Addr × Obj)) (xe : Value → Shared → Prop), Takes (X.tr pn xe) W → PassesOwn (model X.prog X.w) X.A X.env xe → PSs (X.tr pn xe) body (tb W)) (cl : Clauses X (h0 :: hds) l) :
    PS X (.Try body (h0 :: hds) [] [] pos) (fun D σ H => tb (wEach X.K W0 D l) D σ H) := by
  constructor
  intro pins s σ H D I h
  have ok := I.ok
  have fr : X.A.frames = some (X.env :: X.outer) := ok.frames.trans (congrArg some hs)
  refine wpAny_Try_except ?_
  refine wpAny_mono ((hb (wEach X.K W0 D l) (X.pn ++ pins)
    (fun e s1 => wpAny (model X.prog X.w) X.A (noteFrame e X.env) (fun _ s2 => wpAny (model X.prog X.w) X.A (setFlight e none) (fun _ s3 =>
      wpAny (model X.prog X.w) X.A (handleBy e X.env (h0 :: hds)) (SP X pins D) X.xe s3) X.xe s2) X.xe s1) ?_ PassesOwn.looking).run [] s σ H D (I.toTry _) h) ?_ (fun _ _ z => z)
  · rintro u s1 ⟨a, B, sI, pins1, σ1, H1, cls, d, rfl, J, nb, up, sky, na, os, ag, w⟩
    show wpAny (model X.prog X.w) X.A (noteFrame (.ref a) X.env) _ _ _
    have sky1 : Sky B (X.env :: X.outer) a (Zc cls d) X.env.locals s1.heap := by
      rw [← hs]
      exact sky
    refine Sky.land Zc.steady fr hf sky1 fun g fg ug => ?_
    have L : Landed X a B sI { s1 with heap := g } pins σ1 H1 cls d := ⟨J.ofTry ok, nb, up.trans ug, os, ag, na, fg⟩
    exact L.asked hs hf hN tk cl w
  · intro f s1 post
    match f, post with
    | .next, ⟨_, _, I6, w6⟩ => exact wpAny_execs_nil ⟨_, _, I6.ofTry ok, w6⟩
    | .brk, ⟨_, _, I6, w6⟩ => exact ⟨_, _, I6.ofTry ok, w6⟩
    | .cont, ⟨_, _, I6, w6⟩ => exact ⟨_, _, I6.ofTry ok, w6⟩
    | .ret u, ⟨_, _, _, I6, r6, w6⟩ => exact ⟨_, _, _, I6.ofTry ok, r6, w6⟩
end My

namespace My
open PySem PySem.Spec PyProof.Rows L2
/-! ### a set of texts, made of a list -/
def addU (us : List Str) (x : Str) : List Str := if us.any (· == x) then us else us ++ [x]
/-- each text once, in the order of the first ones -/
def uniq (xs : List Str) : List Str := xs.foldl addU []
theorem uniq_take {xs : List Str} {i : Nat} (h : i < xs.length) : uniq (xs.take (i + 1)) = addU (uniq (xs.take i)) (xs.getD i Str.empty) := by
  unfold uniq
  rw [List.take_succ, List.getElem?_eq_getElem h, Option.toList_some, List.foldl_append, List.getD_eq_getElem?_getD, List.getElem?_eq_getElem h]
  rfl
theorem addU_any (us : List Str) (x y : Str) : (addU us x).any (· == y) = (us.any (· == y) || decide (y = x)) := by
  unfold addU
  split
  · rename_i h
    by_cases e : y = x
    · rw [e, h]
      rfl
    · rw [decide_eq_false e, Bool.or_false]
  · rw [List.any_append]
    congr 1
    by_cases e : y = x
    · subst e
      simp
    · have n : (x == y) = false := beq_eq_false_iff_ne.mpr fun z => e z.symm
      simp [n, e]
theorem addU_len (us : List Str) (x : Str) : (addU us x).length = if us.any (· == x) then us.length else us.length + 1 := by
  unfold addU
  split
  · rfl
  · rw [List.length_append]
    rfl
theorem addU_le (us : List Str) (x : Str) : (addU us x).length ≤ us.length + 1 := by
  rw [addU_len]
  split <;> omega
theorem uniq_le (xs : List Str) : ∀ i, i ≤ xs.length → (uniq (xs.take i)).length ≤ i := by
  intro i
  induction i with
  | zero =>
    intro _
    rw [List.take_zero]
    exact Nat.le_refl 0
  | succ i ih =>
    intro h
    rw [uniq_take h]
    have z := ih (by omega)
    have y := addU_le (uniq (xs.take i)) (xs.getD i Str.empty)
    omega
theorem fold_len : ∀ (xs us : List Str), us.Nodup → (xs.foldl addU us).length ≤ us.length + xs.length ∧ ((xs.foldl addU us).length = us.length + xs.length ↔ (us ++ xs).Nodup)
  | [], us, hn => by simp [hn]
  | x :: r, us, hn => by
    by_cases h : us.any (· == x) = true
    · have e : addU us x = us := if_pos h
      obtain ⟨a, b⟩ := fold_len r us hn
      rw [List.foldl_cons, e, List.length_cons]
      refine ⟨by omega, ⟨fun z => by omega, fun z => ?_⟩⟩
      obtain ⟨y, hy, ey⟩ := List.any_eq_true.mp h
      have ey : y = x := beq_iff_eq.mp ey
      subst ey
      exact absurd rfl ((List.nodup_append.mp z).2.2 y hy y List.mem_cons_self)
    · have e : addU us x = us ++ [x] := if_neg h
      have nx : x ∉ us := fun z => h (List.any_eq_true.mpr ⟨x, z, beq_self_eq_true x⟩)
      have hn2 : (us ++ [x]).Nodup := by
        refine List.nodup_append.mpr ⟨hn, List.nodup_cons.mpr ⟨(fun z => nomatch z), List.nodup_nil⟩, fun a ha b hb => ?_⟩
        rw [List.mem_singleton.mp hb]
        exact fun z => nx (z ▸ ha)
      obtain ⟨a, b⟩ := fold_len r (us ++ [x]) hn2
      rw [List.foldl_cons, e, List.length_cons]
      rw [List.length_append, List.length_cons, List.length_nil] at a b
      refine ⟨by omega, ?_⟩
      rw [show us.length + (r.length + 1) = us.length + (0 + 1) + r.length by omega, b, List.append_assoc]
      rfl
theorem uniq_len (xs : List Str) : (uniq xs).length ≤ xs.length ∧ ((uniq xs).length = xs.length ↔ xs.Nodup) := by
  obtain ⟨a, b⟩ := fold_len xs [] List.nodup_nil
  rw [List.length_nil, Nat.zero_add, List.nil_append] at *
  exact ⟨a, b⟩
section
variable {P : Program} {w : World} {A : Around} {R : Result → Shared → Prop} {it : Addr} {fp wr : List Addr} {G : Array GenState → Array GenState → Prop} {n : Nat} {V1 : Nat → Value → Prop} {St1 : Nat → Shared → Prop}
theorem setOf_moved {a : Addr} {us : List Str} {st st' : Shared} {wr : List Addr} {G : Array GenState → Array GenState → Prop} (h : st.heap.SetOf (PySem.strKind P w) a (fun y => us.any (· == y)) us.length) (m : Moved wr G st st') (ha : a ∉ wr) : st'.heap.SetOf (PySem.strKind P w) a (fun y => us.any (· == y)) us.length := by
  obtain ⟨ob, e1, e2, e3, hob, more⟩ := h
  exact ⟨ob, e1, e2, e3, m.heap a _ ha hob, more⟩
theorem loop_texts (W : WalksS P w A.in1 it fp wr G n V1 St1) (a : Addr) (ha : a ∉ fp) {xs : List Str} (hn : n = xs.length) (hval : ∀ i v, V1 i v → ∃ t, v = .str (xs.getD i Str.empty) t) (hb : n + 1 < scanBound) :
    ∀ (m i : Nat) (st : Shared), i + m = n → St1 i st → st.heap.SetOf (PySem.strKind P w) a (fun y => (uniq (xs.take i)).any (· == y)) (uniq (xs.take i)).length →
      (∀ st', Moved (a :: wr) G st st' → st'.heap.SetOf (PySem.strKind P w) a (fun y => (uniq (xs.take n)).any (· == y)) (uniq (xs.take n)).length → R (.ok (.ret .none)) st') →
      codeAny (model P w) A (.builtin "set.update.loop" ⟨[.ref a, .ref it], []⟩) R st := by
  have ha2 : a ∉ wr := fun z => ha (W.sub _ z)
  intro m
  induction m with
  | zero =>
    intro i st him hst hS hR
    obtain rfl : i = n := him
    refine codeAny_builtin PyProof.Rows.F.entry_set_update_loop ?_
    rw [Around.under_plainId PyProof.Rows.F.plain_set_update_loop _]
    show wpAny _ A.in1 (pyNext (.ref it) >>= _) _ _ st
    refine wpAny_bind (W.done st _ _ hst fun st' mv => ?_)
    show wpAny _ A.in1 (ret Value.none) _ _ st'
    exact wpAny_pure (hR st' (mv.mono fun b hb => List.mem_cons_of_mem _ hb) (setOf_moved hS mv ha2))
  | succ m ih =>
    intro i st him hst hS hR
    have hi : i < n := by omega
    refine codeAny_builtin PyProof.Rows.F.entry_set_update_loop ?_
    rw [Around.under_plainId PyProof.Rows.F.plain_set_update_loop _]
    show wpAny _ A.in1 (pyNext (.ref it) >>= _) _ _ st
    refine wpAny_bind (W.item i st _ _ hi hst fun v st1 hv hst1 mv => ?_)
    obtain ⟨tk, rfl⟩ := hval i v hv
    have hS1 := setOf_moved hS mv ha2
    show wpAny _ A.in1 (holding [Value.str (xs.getD i Str.empty) tk] (setAdd a (.str (xs.getD i Str.empty) tk)) >>= _) _ _ st1
    refine wpAny_bind (wpAny_holding ?_)
    unfold setAdd
    refine wpAny_holding (wpAny_bind ((PySem.strKind P w).pyHash (k := xs.getD i Str.empty) (strKind_is _ _ _ _) ?_))
    have few := uniq_le xs i (by omega)
    refine wpAny_setAddHashed_of (knd := PySem.strKind P w) (s := { st1 with toks := st1.toks + 1 }) (strKind_is _ _ _ _) rfl hS1 (by omega) fun h2 only hS2 => ?_
    have hS3 : h2.SetOf (PySem.strKind P w) a (fun y => (uniq (xs.take (i + 1))).any (· == y)) (uniq (xs.take (i + 1))).length := by
      refine SetOf_congr hS2 (fun y => ?_) ?_
      · rw [uniq_take (by omega), addU_any]
      · rw [uniq_take (by omega), addU_len]
    refine wpAny_pure ⟨plainId_quiet PyProof.Rows.F.plain_set_update_loop _, ih (i + 1) _ (by omega) (W.frame _ st1 _ _ hst1 (Nat.le_succ _) fun b hb o e => ?_) hS3 fun st2 mv2 hS4 => hR st2 (Moved.trans W.gtrans ((mv.mono fun b hb => List.mem_cons_of_mem _ hb).then_heap (Nat.le_succ _) fun b o hb e => ?_) mv2) hS4⟩
    · rw [only.2 b fun z => ha (z ▸ hb)]
      exact e
    · rw [only.2 b fun z => hb (z ▸ List.mem_cons_self)]
      exact e
end
/-- what a new set looks like ahead of its first item -/
abbrev bareSet (led : Bool) : Obj := { cls := .type "set", dict := none, data := .set #[] 0 (.fresh 0 0 led) }
section
variable {P : Program} {w : World} {A : Around} {E : Value → Shared → Prop} {st : Shared}
/-- .. the heap behind the call: old things stay, the texts stand in the set at a, once each -/
def Made (P : Program) (w : World) (h0 : Heap) (a : Addr) (xs : List Str) (h1 : Heap) : Prop := h1.SetOf (PySem.strKind P w) a (fun y => (uniq xs).any (· == y)) (uniq xs).length ∧ ∀ b ob, b < h0.objs.size → h0.get? b = some ob → h1.get? b = some ob
theorem set_texts {l : Addr} {its : Array Value} {xs : List Str} {Q : Value → Shared → Prop} (hh : A.handled = none) (hl : st.heap.IsList l its) (hx : PyProof.Rows.StrsAre its.toList xs) (few : xs.length + 1 < scanBound)
    (done : ∀ h1 tk, Made P w st.heap st.heap.objs.size xs h1 → Q (.ref st.heap.objs.size) { st with heap := h1, toks := tk }) : wpAny (model P w) A (call (.type "set") [.ref l]) Q E st := by
  obtain ⟨c1, c2, order⟩ := PySem.F.called_set.mro
  have f1 := PySem.F.called_set.made
  have f2 := PySem.F.called_set.sub
  refine wpAny_call (codeAny_of_tree ?_)
  show wpAny _ _ (callAny (.type "set") _) _ _ _
  refine wpAny_pure ⟨Code.quiet_builtin _ (by decide +kernel), codeAny_builtin PySem.F.entry_type_call ?_⟩
  rw [Around.under_plain (weight_type_call_type "set" [.ref l] []) rfl]
  have f3 := PySem.F.called_set.notType
  have f4 := PySem.F.called_set.canCreate
  have f5 := PySem.F.typeCall_set_1 (.ref l)
  repeat (any_goals (first | assumption | wp_step))
  refine codeAny_mono (code_set_new_1 (.ref l) (E := E) (Q₁ := fun v s1 => ∃ led : Bool, v = .ref st.heap.objs.size ∧ s1 = { st with heap := st.heap.push (bareSet led) }) fun led => ⟨led, rfl, rfl⟩) fun r s1 hr => ?_
  cases r with
  | error e => exact hr
  | ok fl =>
    cases fl with
    | ret obj =>
      obtain ⟨led, rfl, rfl⟩ := hr
      have here : (st.heap.push (bareSet led)).get? st.heap.objs.size = some (bareSet led) := Heap.get?_push_size _ rfl
      have isSet : Shared.TypeIs { st with heap := st.heap.push (bareSet led) } (.ref st.heap.objs.size) "set" := ⟨_, here, rfl⟩
      have f6 := PySem.F.called_set.init.lookup
      have f7 := PySem.F.called_set.init.bind (.ref st.heap.objs.size)
      repeat (any_goals (first | assumption | wp_step))
      refine codeAny_mono (codeAny_call_builtin (R := wants (fun v s2 => v = .none ∧ ∃ h1 tk, s2 = { st with heap := h1, toks := tk } ∧ Made P w st.heap st.heap.objs.size xs h1) E) PySem.F.called_set.init.plain PySem.F.entry_set_init (check_set_init_1 isSet ?_)) fun r2 s2 hr2 => ?_
      · obtain ⟨⟨k1, k2, k3, k4⟩, lat, lc, nl, ld⟩ := hl
        dsimp only at lc ld
        subst lc ld
        have lat1 : (st.heap.push (bareSet led)).get? l = some { cls := .type "list", dict := k2, data := .seq its nl, slots := k4 } := Heap.get?_push_of_some _ lat
        have g1 := PySem.F.sub_list_set
        have g2 := PySem.F.sub_list_frozenset
        have g3 : (Value.type "list" == Value.type "dict") = false := by decide
        have isL : (st.heap.push (bareSet led)).IsList l its := ⟨_, lat1, rfl, nl, rfl⟩
        have low : l < st.heap.objs.size := Heap.lt_size lat
        unfold Builtin.«set.__init__» noKeywords Builtin.Frozenset.updateFrom
        generalize again : pyIter = PI
        wp_walk
        subst again
        refine wpAny_pyIter_list isL (wpAny_bind (wpAny_runValue ?_))
        have top : (st.heap.push (bareSet led)).objs.size = st.heap.objs.size + 1 := Heap.size_push ..
        have size : its.size = xs.length := by rw [← Array.length_toList, ← StrsAre.len_eq hx]
        refine loop_texts ((Walks.list (by simp [hh]) _ l (by rw [top]; exact Nat.ne_of_lt (Nat.lt_succ_of_lt low)) its).toS) st.heap.objs.size ?_ size (fun i v hv => SS.strs_at hx i v (by rw [Array.getElem?_toList]; exact hv)) (by rw [size]; exact few) its.size 0 _ (Nat.zero_add _) ⟨⟨_, Heap.get?_push_size _ rfl, rfl, rfl⟩, isL.push _⟩ ?_ ?_
        · rw [top]
          simp only [List.mem_cons, List.mem_singleton, List.not_mem_nil, or_false, not_or]
          exact ⟨Nat.ne_of_lt (Nat.lt_succ_self _), Nat.ne_of_gt low⟩
        · exact PyProof.Rows.SetOf_congr ((PyProof.Rows.setObjOf_fresh (knd := PySem.strKind P w) led).setOf (Heap.get?_push_of_some _ here) (by unfold scanBound; omega)) (fun _ => rfl) rfl
        · intro s3 mv hS
          rw [size, List.take_length] at hS
          obtain ⟨h3, g3, d3, t3, o3⟩ := s3
          obtain rfl : g3 = st.gens := mv.gens
          obtain rfl : d3 = st.drawn := mv.drawn
          obtain rfl : o3 = st.os := mv.os
          show wpAny _ _ _ _ _ _
          refine wpAny_pure ?_
          show wpAny _ _ (ret Value.none) _ _ _
          refine wpAny_pure ⟨rfl, h3, t3, rfl, hS, fun b ob hb e => mv.heap b ob ?_ (Heap.get?_push_of_some _ (Heap.get?_push_of_some _ e))⟩
          rw [top]
          simp only [List.mem_cons, List.mem_singleton, List.not_mem_nil, or_false, not_or]
          exact ⟨Nat.ne_of_lt hb, Nat.ne_of_lt (Nat.lt_succ_of_lt hb)⟩
      · cases r2 with
        | error e => exact hr2
        | ok fl2 =>
          cases fl2 with
          | ret v =>
            obtain ⟨rfl, h1, tk, rfl, made⟩ := hr2
            repeat (any_goals (first | assumption | wp_step))
            exact done _ _ made
          | _ => exact hr2.elim
    | _ => exact hr.elim
end
end My

namespace My
open PySem PySem.Spec PyProof.Rows L2
/-- len(set(xs)), xs a list of texts -/
def tLenSetT (K : PySem.W.Frag) (ta : TE) : TE := fun σ H Q => ta σ H fun x H1 => ∃ (l : Addr) (xs : List Str), x = .ref l ∧ SqL K H1 l (xs.map V.str) ∧ xs.length ≤ 30 ∧ Q (.int (uniq xs).length) H1
theorem pe_lenSetT {X : Cx} {a : Expr} {ta : TE} {p p2 q pos : Pos} (hc : X.calm = true) (hg : Gl X "len") (hm : X.mg "len" = none) (hg2 : Gl X "set") (hm2 : X.mg "set" = none) (ha : PE X a ta)
    (na : starEach [a] X.env = (false, eval a X.env) :: starEach [] X.env := by rfl) : PE X (.Call (.Name "len" p) [.Call (.Name "set" p2) [a] [] q] [] pos) (tLenSetT X.K ta) := by
  refine ⟨fun pins s σ H Q I h => ?_⟩
  refine Call_ (ld_blt I hg hm boot_len (PyProof.Rows.callWith_builtin1 (PyProof.Rows.args_cons ?_ rfl) rfl rfl))
  refine Call_ (ld_blt I hg2 hm2 boot_set (PyProof.Rows.callWith_type1 (PyProof.Rows.args_cons (thn (ha.run pins s σ H _ I h) fun v s1 hv => PyProof.Rows.args_nil ?_) na) na rfl))
  obtain ⟨x, H1, I1, r1, l, xs, rfl, hq, few, q1⟩ := hv
  cases r1
  obtain ⟨its, r, pl, hz⟩ := I1.list hq
  refine set_texts (I1.ok.hd hc) pl.isList (by simpa using strsAre_of r) (by unfold scanBound; omega) fun h1 tk made => PyProof.Rows.args_nil ?_
  obtain ⟨⟨ob, es, ep, t, ho, hex, hd, _, _, _, hf, hn⟩, old⟩ := made
  have I2 : Inv X pins σ H1 { s1 with heap := h1, toks := tk } := I1.kept fun b o e => old b o (Heap.lt_size e) e
  have z := (uniq_len xs).1
  exact call_len_set ho hex hd hf (by rw [hn]; omega) ⟨.int (uniq xs).length, H1, I2.tok _, ⟨_, by rw [hn]⟩, q1⟩
/-! ### a list != [] , whatever stands in it -/
def rNeNil : R2 := fun x y H Q => ∃ (a b : Addr) (xs : List V), x = .ref a ∧ y = .ref b ∧ H a = some (.lst xs) ∧ H b = some (.lst []) ∧ Q (.bl (!xs.isEmpty)) H
theorem op_neNil {X : Cx} (hu : X.A.units + 64 < cLine) : OpR X (compareOp .NotEq) rNeNil := by
  intro pins s σ H x y v u Q I rx ry h
  obtain ⟨a, b, xs, rfl, rfl, ha, hb, q⟩ := h
  cases rx
  cases ry
  obtain ⟨z, its, n, r, hl, e⟩ := I.lstM ha
  obtain ⟨z2, its2, n2, r2, hl2, e2⟩ := I.lstM hb
  have l1 : s.heap.IsList a its.toArray := ⟨_, e, rfl, n, rfl⟩
  have l2 : s.heap.IsList b its2.toArray := ⟨_, e2, rfl, n2, rfl⟩
  have l0 : its2 = [] := by
    cases its2 with
    | nil => rfl
    | cons => cases hl2
  subst l0
  cases xs with
  | nil =>
    have l3 : its = [] := by
      cases its with
      | nil => rfl
      | cons => cases hl
    subst l3
    exact SeqAt.RcNeAt.lists l1 l2 rfl (by omega) (e := fun _ => true) (fun j h1 h2 => absurd h1 (Nat.not_lt_zero j)) _ _ _ _ ⟨.bl false, H, I, rfl, q⟩
  | cons x0 r0 =>
    have big : its.length = r0.length + 1 := hl.symm
    exact SeqAt.RcNeAt.lists_lengths l1 l2 (by simp only [List.size_toArray, big, List.length_nil]; rfl) (by omega) _ _ _ _ ⟨.bl true, H, I, rfl, q⟩
end My

namespace My
open PySem PySem.Spec PyProof.Rows L2
/-! ### tuple(list), the new object told; dict of such a tuple of pairs -/
def rTupleF (K : PySem.W.Frag) : List V → Hp → VK → Prop := fun xs H Q => ∃ p ys, xs = [.ref p] ∧ SqL K H p ys ∧ ∀ l o, H l = none → o.dict = none → Q (.ref l) (upd H l (.frz o (.tup ys)))
theorem call_tupleF {X : Cx} : CallR X (.type "tuple") (rTupleF X.K) := by
  intro pins s σ H xs us Q I r h
  obtain ⟨p, ys, rfl, hq, q⟩ := h
  obtain ⟨u, rfl, rx⟩ := vals1 r
  cases rx
  obtain ⟨its, r', pl, hz⟩ := I.list hq
  have hlen := r'.length
  refine call_tuple_list pl.isList (fun h' kp => ?_) (by simp only [List.size_toArray] <;> omega)
  have I1 : Inv X pins σ H { s with heap := h' } := I.kept (t' := s.toks) kp
  have I2 : Inv X pins σ (upd H h'.objs.size (.frz { cls := .type "tuple", data := .seq its.toArray } (.tup ys))) { s with heap := h'.push { cls := .type "tuple", data := .seq its.toArray } } :=
    I1.laid (t' := s.toks) (fun b o e => Heap.get?_push_of_some _ e) (Nat.le_refl _) (show ObjOk X.prog X.w _ _ _ (.frz _ (.tup ys)) from ⟨Heap.get?_push_size _ rfl, hz, its, r', IsTup.new _ _⟩)
  exact ⟨.ref h'.objs.size, _, I2, rfl, q _ _ (I1.hok.fresh (Nat.le_refl _)) rfl⟩
/-- the pairs at ps as values -/
theorem pairs_at {X : Cx} {pins : List (Addr × Obj)} {σ : L2.St} {H : Hp} {s : Shared} (I : Inv X pins σ H s) : ∀ {ps : List Addr} {kvs : List (Key × V)}, Paired (fun p kv => SqT X.K H p [kV kv.1, kv.2]) ps kvs →
    ∃ (prs : List (Key × Value)) (raw : List (Value × Value)), KV kvs prs ∧ prs.length = ps.length ∧ raw.length = ps.length ∧ ∀ (j : Nat) (k v : Value), raw[j]? = some (k, v) → ∃ (b : Addr) (x : Key), ps[j]? = some b ∧ PySem.PairAt s.heap b k v ∧ prs[j]? = some (x, v) ∧ keyIs x k = true
  | _, _, .nil => ⟨[], [], .nil, rfl, rfl, fun j k v e => by simp at e⟩
  | _, _, .cons (a := p) (b := kv) h t => by
    obtain ⟨prs, raw, r, l1, l2, hp⟩ := pairs_at I t
    obtain ⟨its, rv, ht, _⟩ := I.tuple h
    obtain ⟨u, y, rfl, ru, ry⟩ := vals2 rv
    refine ⟨(kv.1, y) :: prs, (u, y) :: raw, .cons ⟨rfl, ry⟩ r, by rw [List.length_cons, List.length_cons, l1], by rw [List.length_cons, List.length_cons, l2], fun j k v e => ?_⟩
    cases j with
    | zero =>
      cases e
      exact ⟨p, kv.1, rfl, .inl ht, rfl, kV_is (P := X.prog) (w := X.w) ru⟩
    | succ j => exact hp j k v e
def rDictT (K : PySem.W.Frag) : List V → Hp → VK → Prop := fun xs H Q => ∃ (a : Addr) (ps : List Addr) (kvs : List (Key × V)) (o : Obj), xs = [.ref a] ∧ H a = some (.frz o (.tup (ps.map V.ref))) ∧ o.dict = none ∧ Paired (fun p kv => SqT K H p [kV kv.1, kv.2]) ps kvs ∧ ∀ q, H q = none → Q (.ref q) (upd H q (.dK (mergeK [] kvs)))
theorem call_dictT {X : Cx} (calm : X.calm = true) : CallR X (.type "dict") (rDictT X.K) := by
  intro pins s σ H xs us Q I r h
  obtain ⟨a, ps, kvs, o, rfl, ha, hd, hp, q⟩ := h
  obtain ⟨u, rfl, rx⟩ := vals1 r
  cases rx
  obtain ⟨ho, hz, its, rv, o2, ho2, hc, n, hdat⟩ := I.hok a _ ha
  cases ho.symm.trans ho2
  have ei := refs_at rv
  subst ei
  obtain ⟨prs, raw, rel, l1, l2, hpr⟩ := pairs_at I hp
  rw [List.length_map] at hz
  refine PySem.call_dict_pairs (knd := mixKind X.prog X.w) (kvs := prs) (PySem.PairArg.tuple a (ps.map Value.ref).toArray (fun j => ps.getD j 0) raw) (I.ok.hd calm) ⟨⟨o, n, ho, hc, hd, hdat⟩, ?_, fun j k v e => ?_⟩ ⟨by rw [l1, l2], fun j k v e => ?_⟩ (by rw [l2]; exact hz) fun h' tk hd' keep => ?_
  · rw [List.size_toArray, List.length_map, l2]
  · obtain ⟨b, x, e1, e2, e3, e4⟩ := hpr j k v e
    have eb : ps.getD j 0 = b := by rw [List.getD_eq_getElem?_getD, e1]; rfl
    show (ps.map Value.ref).toArray[j]? = some (.ref (ps.getD j 0)) ∧ PySem.PairAt s.heap (ps.getD j 0) k v
    rw [eb]
    exact ⟨by simp [e1], e2⟩
  · obtain ⟨b, x, e1, e2, e3, e4⟩ := hpr j k v e
    exact ⟨x, e3, e4⟩
  · have hm : (s.heap.objs.size == sysModules) = false := beq_eq_false_iff_ne.mpr (Nat.ne_of_gt I.big)
    have hlen : (mergeK [] kvs).length ≤ sizeLine := by
      have z := length_mergeK kvs []
      rw [List.length_nil, Nat.zero_add, rel.length, l1] at z
      omega
    have k : ∀ b u, s.heap.get? b = some u → h'.get? b = some u := fun b u e => keep b u (fun z => nomatch z) e
    exact ⟨.ref s.heap.objs.size, upd H s.heap.objs.size (.dK (mergeK [] kvs)), I.laid (t' := tk) k (Nat.le_refl _) (show ObjOk X.prog X.w _ _ _ (.dK (mergeK [] kvs)) from ⟨hlen, hm, merged [] prs, KV.merge rel .nil, hd'⟩), rfl, q _ (I.hok.fresh (Nat.le_refl _))⟩
end My

namespace My
open PySem PySem.Spec PyProof.Rows L2
/-! ### weaker words for + and slices of tuples: some tuple with these items, all else the same -/
def rCatX : R2 := fun x y H Q => ∃ a b xs ys, x = .ref a ∧ y = .ref b ∧ Rd H a (.tup xs) ∧ Rd H b (.tup ys) ∧ xs.length + ys.length ≤ sizeLine ∧ ∀ r H', Same H H' → Rd H' r (.tup (xs ++ ys)) → Q (.ref r) H'
theorem op_catX {X : Cx} : OpR X (binaryOp .Add) rCatX := by
  intro pins s σ H x y v u Q I rx ry h
  obtain ⟨a, b, xs, ys, rfl, rfl, ha, hb, hz, q⟩ := h
  refine op_catA pins s σ H _ _ v u Q I rx ry ⟨a, b, xs, ys, rfl, rfl, .inl ha, .inl hb, hz, fun e => ?_, fun _ e => ?_, fun _ _ p hp => ?_⟩
  · subst e
    exact q b H (L2.Same.refl H) hb
  · subst e
    exact q a H (L2.Same.refl H) (by rw [List.append_nil]; exact ha)
  · refine q p _ (fun c o e => ?_) (.inl upd_same)
    rw [upd_ne (ne_of_none e hp)]
    exact e
def rSlX : V → Option Int → Option Int → Hp → VK → Prop := fun x lo hi H Q => ∃ a xs, x = .ref a ∧ Rd H a (.tup xs) ∧ ∀ r H', Same H H' → Rd H' r (.tup (cutV xs lo hi)) → Q (.ref r) H'
theorem sl_X {X : Cx} : SlR X rSlX := by
  intro pins s σ H x v vl vu lo hi sl Q I rx hs pl pu h
  obtain ⟨a, xs, rfl, hx, q⟩ := h
  refine sl_tupA pins s σ H _ v vl vu lo hi sl Q I rx hs pl pu ⟨a, xs, rfl, .inl hx, fun w => ?_, fun _ p hp => ?_⟩
  · refine q a H (L2.Same.refl H) ?_
    unfold cutV
    rw [w.1, w.2, List.drop_zero, Nat.sub_zero, List.take_length]
    exact hx
  · refine q p _ (fun c o e => ?_) (.inl upd_same)
    rw [upd_ne (ne_of_none e hp)]
    exact e
/-! ### t[::-1] of a tuple -/
section
open MeetsSeq MeetsSeq2 MeetsSeq3 SeqRoads2
variable {P : Program} {w : World} {A : Around} {E : Value → Shared → Prop} {st : Shared}
theorem applied_back {sl : Addr} {v1 v2 v3 : Value} {n : Nat} {Q : Int × Int × Nat → Shared → Prop} (hs : st.heap.IsSliceOf sl v1 v2 v3) (p1 : IsPart v1 none) (p2 : IsPart v2 none) (p3 : IsPart v3 (some (-1)))
    (h : Q ((n : Int) - 1, -1, n) st) : wpAny (model P w) A (Builtin.Slice.sliceApplied (.ref sl) (pure (n : Int))) Q E st := by
  obtain ⟨ob, at1, cl1, da1⟩ := id hs
  unfold Builtin.Slice.sliceApplied Builtin.Slice.sliceFields
  refine wpAny_bind (wpAny_bind (wpAny_field at1 da1 (x := v1) rfl (wpAny_bind (wpAny_field at1 da1 (x := v2) rfl (wpAny_bind (wpAny_field at1 da1 (x := v3) rfl (wpAny_pure ?_)))))))
  refine wpAny_bind (HT.slicePart_ p3 ?_)
  show wpAny _ _ (if ((-1 : Int) == 0) = true then _ else _) _ _ st
  rw [if_neg (by decide)]
  refine wpAny_bind (HT.slicePart_ p1 (wpAny_bind (HT.slicePart_ p2 (wpAny_bind (wpAny_pure ?_)))))
  have adj : Builtin.Slice.sliceAdjust none none (-1) (n : Int) = ((n : Int) - 1, -1) := rfl
  have pla : Builtin.Slice.slicePlaces ((n : Int) - 1) (-1) (-1) = n := by
    unfold Builtin.Slice.slicePlaces
    rw [if_neg (by decide)]
    by_cases z : (n : Int) - 1 > -1
    · rw [if_pos z, show (- -1 : Int) = 1 by decide, Int.ediv_one]
      omega
    · rw [if_neg z]
      omega
  show wpAny _ _ (match Builtin.Slice.sliceAdjust none none (-1) (n : Int) with | (lo, hi) => pure (lo, (-1 : Int), Builtin.Slice.slicePlaces lo hi (-1))) _ _ st
  rw [adj]
  show wpAny _ _ (pure ((n : Int) - 1, (-1 : Int), Builtin.Slice.slicePlaces ((n : Int) - 1) (-1) (-1))) _ _ st
  rw [pla]
  exact wpAny_pure h
theorem fm_congr {α β : Type} {f g : α → Option β} : ∀ {l : List α}, (∀ a ∈ l, f a = g a) → l.filterMap f = l.filterMap g
  | [], _ => rfl
  | a :: r, h => by
    rw [List.filterMap_cons, List.filterMap_cons, h a List.mem_cons_self, fm_congr fun b hb => h b (List.mem_cons_of_mem _ hb)]
theorem pick_back (its : Array Value) : ((List.range its.size).filterMap fun (m : Nat) => its[(((its.size : Int) - 1) + (m : Int) * (-1)).toNat]?).toArray = its.toList.reverse.toArray := by
  have e : (List.range its.size).filterMap (fun (m : Nat) => its[(((its.size : Int) - 1) + (m : Int) * (-1)).toNat]?) = ((List.range its.size).map fun k => its.size - 1 - k).filterMap (its[·]?) := by
    rw [List.filterMap_map]
    refine fm_congr fun m hm => ?_
    have z := List.mem_range.mp hm
    have y : (((its.size : Int) - 1) + (m : Int) * (-1)).toNat = its.size - 1 - m := by omega
    show its[(((its.size : Int) - 1) + (m : Int) * (-1)).toNat]? = its[its.size - 1 - m]?
    rw [y]
  rw [e, PySem.W.krv_range, List.filterMap_reverse, PySem.W.krv_all]
theorem tuple_back {a sl : Addr} {its : Array Value} {v1 v2 v3 : Value} {Q : Value → Shared → Prop} (ht : IsTup st.heap a its) (hs : st.heap.IsSliceOf sl v1 v2 v3) (p1 : IsPart v1 none) (p2 : IsPart v2 none) (p3 : IsPart v3 (some (-1)))
    (h : Q (.ref st.heap.objs.size) { st with heap := st.heap.push { cls := .type "tuple", data := .seq its.toList.reverse.toArray } }) (few : its.size ≤ sizeLine) : wpAny (model P w) A (getItem (.ref a) (.ref sl)) Q E st := by
  have ok : sizeOk (.seq its.toList.reverse.toArray) := by
    show its.toList.reverse.toArray.size ≤ sizeLine
    rw [List.size_toArray, List.length_reverse, Array.length_toList]
    exact few
  obtain ⟨ob, at1, cl1, da1⟩ := id hs
  have isS : st.TypeIs (.ref sl) "slice" := ⟨ob, at1, cl1⟩
  unfold getItem
  try with_reducible refine wpAny_holding ?_
  first | refine wpAny_bind (wpAny_pure ?_) | skip
  refine wpAny_bind (wpAny_sequenceKey ht.typeIs (by decide) ?_)
  refine wpAny_bind (wpAny_callSpecial?_slot (name := Str.ofString "__getitem__") ht.typeIs PyProof.Rows.slot_tuple_getitem
    (wpAny_call_entry PyProof.Rows.slot_tuple_getitem ht.typeIs PyProof.Rows.entry_tuple_getitem ?_ (PyProof.Rows.args_tuple_getitem _ _)))
  show wpAny _ _ (Builtin.Tuple.tupleItemsOf (.ref a) >>= _) _ _ st
  refine wpAny_bind (PyProof.Rows.tupleItemsOf_ ht (wpAny_bind (wpAny_typeOf isS ?_)))
  rw [if_pos (by decide)]
  refine wpAny_bind (applied_back hs p1 p2 p3 ?_)
  have no : ¬ (((((its.size : Nat) : Int) - 1) == 0 && (-1 : Int) == 1 && its.size == its.size) = true) := by
    rw [show ((-1 : Int) == 1) = false by decide, Bool.and_false, Bool.false_and]
    decide
  show wpAny _ _ (if ((((its.size : Nat) : Int) - 1) == 0 && (-1 : Int) == 1 && its.size == its.size) = true then _ else _) _ _ st
  rw [if_neg no, pick_back]
  first
    | exact wpAny_bind (m := Builtin.Tuple.tupleExact _) (wpAny_newObj_type (wpAny_pure ⟨_, rfl, wpAny_pure h⟩) ok)
    | exact wpAny_bind (m := Builtin.Tuple.tupleExact _) (wpAny_newObj_type (wpAny_bind (wpAny_pure (wpAny_pure ⟨_, rfl, wpAny_pure h⟩))) ok)
    | exact wpAny_bind (wpAny_bind (m := Builtin.Tuple.tupleExact _) (wpAny_newObj_type (wpAny_pure (wpAny_pure ⟨_, rfl, wpAny_pure h⟩)) ok))
    | exact wpAny_bind (wpAny_bind (m := Builtin.Tuple.tupleExact _) (wpAny_newObj_type (wpAny_pure ⟨_, rfl, wpAny_pure h⟩) ok))
end
/-- t[::-1] -/
def tRevT (K : PySem.W.Frag) (te : TE) : TE := fun σ H Q => te σ H fun x H1 => ∃ a xs, x = .ref a ∧ SqT K H1 a xs ∧ ∀ p, H1 p = none → Q (.ref p) (upd H1 p (.tup xs.reverse))
theorem pe_revT {X : Cx} {e : Expr} {te : TE} {k : Nat} {p1 p2 p3 pos : Pos} (he : PE X e te) : PE X (.Subscript e (.Slice none none (some (.UnaryOp .USub (.Constant (.int 1) k p1) p2)) p3) pos) (tRevT X.K te) := by
  refine ⟨fun pins s σ H Q I h => Subscript_ (thn (he.run pins s σ H _ I h) fun v s1 hv => ?_)⟩
  obtain ⟨x, H1, I1, r1, a, xs, rfl, hx, q⟩ := hv
  cases r1
  have part : PO X (some (.UnaryOp .USub (.Constant (.int 1) k p1) p2)) (tPart (tUn (rU fun i => .int (-i)) (tC (.int 1)))) := po_some (pe_un un_neg pe_int)
  refine wpAny_Slice (thn (po_none.run pins s1 σ H1 (fun o H2 => o = none ∧ H2 = H1) I1 ⟨rfl, rfl⟩) fun vl s2 h2 => ?_)
  obtain ⟨_, H2, I2, pl, rfl, rfl⟩ := h2
  refine thn (po_none.run pins s2 σ H2 (fun o H3 => o = none ∧ H3 = H2) I2 ⟨rfl, rfl⟩) fun vu s3 h3 => ?_
  obtain ⟨_, H3, I3, pu, rfl, rfl⟩ := h3
  refine thn (part.run pins s3 σ H3 (fun o H4 => o = some (-1) ∧ H4 = H3) I3 ⟨1, rfl, -1, rfl, rfl, rfl⟩) fun vs s4 h4 => ?_
  obtain ⟨_, H4, I4, ps, rfl, rfl⟩ := h4
  have I5 : Inv X pins σ H4 { s4 with heap := s4.heap.push { cls := .type "slice", data := .fields #[vl, vu, vs] } } := I4.kept (t' := s4.toks) fun b ob q => Heap.get?_push_of_some _ q
  obtain ⟨its, r, ht, hz⟩ := I5.tuple hx
  have hlen := r.length
  show wpAny (model X.prog X.w) X.A (subscriptTail e (.Slice none none (some (.UnaryOp .USub (.Constant (.int 1) k p1) p2)) p3) (.ref a) (.ref s4.heap.objs.size)) (EP X pins σ Q) X.xe { s4 with heap := s4.heap.push { cls := .type "slice", data := .fields #[vl, vu, vs] } }
  refine tail_any (ops := [.ref a, .ref s4.heap.objs.size]) ht.typeIs (PyProof.Rows.slot_tuple_getitem.lookup) ?_ (by with_unfolding_all rfl)
  refine tuple_back ht (Heap.IsSliceOf.new _ vl vu vs) pl pu ps ?_ (by rw [List.size_toArray]; omega)
  exact ⟨.ref _, _, I5.laid (t' := s4.toks) (o := .tup xs.reverse) (fun b ob q => Heap.get?_push_of_some _ q) (Nat.le_refl _) ⟨by rw [List.length_reverse]; exact hz, _, r.reverse, IsTup.new _ _⟩, rfl, q _ (I5.hok.fresh (Nat.le_refl _))⟩
end My

namespace My
open PySem PySem.Spec PyProof.Rows L2
/-! ### xs.extend(t) -/
theorem ext_tup (l : Addr) (items : Array Value) (n : Nat) (b : Addr) (dd : Option Addr) (sl : Array (Option Value)) (items2 : Array Value) (n2 : Nat) (hs0 : ¬(!items.isEmpty && Builtin.List.listTooLong (items.size + items2.size)) = true) (hs1 : items.size ≤ sizeLine) (hs2 : items.size + items2.size ≤ sizeLine + 1) :
    Meets (Builtin.«list.extend» ⟨[.ref l, .ref b], []⟩) (fun _ R s => s.heap.get? l = some { cls := .type "list", dict := none, data := .seq items n, slots := #[] } ∧ s.heap.get? b = some { cls := .type "tuple", dict := dd, data := .seq items2 n2, slots := sl } ∧ R (.ok (.ret Value.none)) { s with heap := s.heap.update l (Obj.mapSeq fun x => x ++ items2), toks := s.toks }) :=
  .of_wp fun prog w A R s h => by
    obtain ⟨hp, g, d, tk, os⟩ := s
    obtain ⟨hl, hb, h⟩ := h
    have f1 := AutoSeq1.idx_int
    have f2 := AutoSeq1.sub_tuple_tuple
    have f3 := AutoSeq1.sub_list_list
    have f4 := AutoSeq1.sub_tuple_list
    have f5 := AutoSeq1.sub_list_tuple
    have hz' : (items ++ items2).size ≤ sizeLine + 1 := by rw [Array.size_append]; exact hs2
    wp_walk using (wpAny_updateSeq hl rfl (hz := hs1) (_hz' := hz')), AutoSeq1.wpAny_loadPart' hl, AutoSeq1.wpAny_loadPart' hb
    exact ⟨_, rfl, h⟩
def rExtendT (K : PySem.W.Frag) : V → List V → Hp → VK → Prop := fun x vs H Q => ∃ l b xs zs, x = .ref l ∧ vs = [.ref b] ∧ H l = some (.lst xs) ∧ SqT K H b zs ∧ xs.length + zs.length ≤ sizeLine ∧ Q .non (upd H l (.lst (xs ++ zs)))
theorem mt_extendT {X : Cx} : MtR X "list.extend" (rExtendT X.K) := by
  intro pins s σ H x vs v us Q I rx rv h
  obtain ⟨l, b, xs, zs, rfl, rfl, hH, hB, hz, q⟩ := h
  cases rx
  obtain ⟨u, rfl, ru⟩ := rv.one
  cases ru
  obtain ⟨z, its, n, r, hl, e⟩ := I.lstM hH
  obtain ⟨its2, r2, ⟨⟨cls, dd, data, sl⟩, ho, hc, n2, hd⟩, hz2⟩ := I.tuple hB
  simp only at hc hd
  subst hc hd
  have hl2 := r2.length
  have hsz : its.toArray.size + its2.toArray.size ≤ sizeLine := by rw [List.size_toArray, List.size_toArray]; omega
  have hlong : ¬ (!its.toArray.isEmpty && Builtin.List.listTooLong (its.toArray.size + its2.toArray.size)) = true := by
    rw [notLongL hsz, Bool.and_false]
    exact Bool.false_ne_true
  refine call_meets F.slot_list_extend ⟨_, e, rfl⟩ F.entry_list_extend (F.args_list_extend_2 _ _)
    (ext_tup l its.toArray n b dd sl its2.toArray n2 hlong (by rw [List.size_toArray]; omega) (by omega)) ⟨e, ho, ?_⟩
  refine ⟨.non, _, I.lset (its' := its ++ its2) hH e (by simp) (r.append r2) ?_, rfl, q⟩
  rw [List.length_append]
  omega
/-! ### t * n, some tuple with these items -/
theorem tuple_mulSame (l : Addr) (items : Array Value) (n : Nat) (dd : Option Addr) (sl : Array (Option Value)) (u : Tok) :
    Meets (Builtin.«tuple.__mul__» ⟨[.ref l, .int 1 u], []⟩) (fun _ R s => s.heap.get? l = some { cls := .type "tuple", dict := dd, data := .seq items n, slots := sl } ∧ R (.ok (.ret (Value.ref l))) s) :=
  .of_wp fun prog w A R s h => by
    obtain ⟨hp, g, d, tk, os⟩ := s
    obtain ⟨hl, h⟩ := h
    have f1 := AutoSeq1.idx_int
    have c1 : (items.isEmpty || (1 : Int) == 1) = true := by rw [show ((1 : Int) == 1) = true by decide, Bool.or_true]
    wp_walk using AutoSeq1.wpAny_loadPart' hl
    repeat (first
      | (refine wpAny_ite_true c1 ?_; wp_walk using AutoSeq1.wpAny_loadPart' hl)
      | (refine wpAny_ite_false (by decide) ?_; wp_walk using AutoSeq1.wpAny_loadPart' hl))
    exact ⟨_, rfl, h⟩
theorem tuple_mulZero (l : Addr) (items : Array Value) (n : Nat) (dd : Option Addr) (sl : Array (Option Value)) (u : Tok) (he : items.isEmpty = false) :
    Meets (Builtin.«tuple.__mul__» ⟨[.ref l, .int 0 u], []⟩) (fun _ R s => s.heap.get? l = some { cls := .type "tuple", dict := dd, data := .seq items n, slots := sl } ∧ R (.ok (.ret (Value.ref s.heap.objs.size))) { s with heap := s.heap.push { cls := Value.type "tuple", data := Data.seq #[] }, toks := s.toks }) :=
  .of_wp fun prog w A R s h => by
    obtain ⟨hp, g, d, tk, os⟩ := s
    obtain ⟨hl, h⟩ := h
    have f1 := AutoSeq1.idx_int
    have c1 : (items.isEmpty || (0 : Int) == 1) = false := by rw [he]; decide
    have c2 : (decide ((0 : Int) ≤ 0) || items.isEmpty) = true := by rw [he]; decide
    wp_walk using AutoSeq1.wpAny_loadPart' hl
    repeat (first
      | (refine wpAny_ite_false (decide_eq_false (by rw [c1]; exact Bool.false_ne_true)) ?_; wp_walk using AutoSeq1.wpAny_loadPart' hl)
      | (refine wpAny_ite_true (decide_eq_true c2) ?_; wp_walk using AutoSeq1.wpAny_loadPart' hl)
      | (refine wpAny_ite_true c2 ?_; wp_walk using AutoSeq1.wpAny_loadPart' hl)
      | (refine wpAny_ite_false (by decide) ?_; wp_walk using AutoSeq1.wpAny_loadPart' hl))
    exact ⟨_, rfl, h⟩
def rRepX : R2 := fun x y H Q => ∃ l k xs, x = .ref l ∧ y = .int k ∧ Rd H l (.tup xs) ∧ xs ≠ [] ∧ 0 ≤ k ∧ k ≤ 1000 ∧ xs.length ≤ 1000 ∧ ∀ r H', Same H H' → Rd H' r (.tup (List.replicate k.toNat xs).flatten) → Q (.ref r) H'
theorem op_repX {X : Cx} : OpR X (binaryOp .Mult) rRepX := by
  intro pins s σ H x y v u Q I rx ry h
  obtain ⟨l, k, xs, rfl, rfl, hT, hne, h1, h2, hz, q⟩ := h
  have new : ∀ (p : Addr) (zs : List V), H p = none → zs = (List.replicate k.toNat xs).flatten → Q (.ref p) (upd H p (.tup zs)) := fun p zs hp e => q p _ (fun c o z => by rw [upd_ne (ne_of_none z hp)]; exact z) (.inl (by rw [upd_same, e]))
  by_cases k2 : 2 ≤ k
  · exact op_repT pins s σ H _ _ v u Q I rx ry ⟨l, k, xs, rfl, rfl, .inl hT, hne, k2, h2, hz, fun p hp => new p _ hp rfl⟩
  · cases rx
    obtain ⟨t, rfl⟩ := ry
    obtain ⟨its, r, ⟨⟨cls, dd, data, sl⟩, ho, hc, n, hd⟩, hs⟩ := I.tuple (show SqT X.K H l xs from .inl hT)
    simp only at hc hd
    subst hc hd
    have hle : its.length = xs.length := r.length.symm
    have hi : its.toArray.isEmpty = false := by
      cases its with
      | nil => exact absurd (List.eq_nil_of_length_eq_zero hle.symm) hne
      | cons a b => rfl
    have k01 : k = 0 ∨ k = 1 := by omega
    rcases k01 with rfl | rfl
    · refine wpAny_binaryOp_repeat_ref (T := "tuple") (U := "int") (by decide) ⟨_, ho, rfl⟩ (fun s' => typeIs_int s' 0 t) noFill_tuple_mul F.fills_int_mul F.slot_int_rmul repeat_tuple F.slot_int_index.lookup
        (call_meets F.slot_int_rmul (typeIs_int s 0 t) F.entry_int_rmul (F.args_int_rmul_2 _ _) (int_rmul_tuple 0 t l its.toArray n dd sl)
          ⟨ho, rfl, ⟨_, ho, rfl⟩, call_meets F.slot_tuple_mul ⟨_, ho, rfl⟩ F.entry_tuple_mul (F.args_tuple_mul_2 _ _) (tuple_mulZero l its.toArray n dd sl t hi) ⟨ho, ?_⟩⟩)
      refine ⟨.ref s.heap.objs.size, _, I.laid (t' := s.toks) (o := .tup []) (fun b ob q => Heap.get?_push_of_some _ q) (Nat.le_refl _) ?_, rfl, new _ _ (I.hok.fresh (Nat.le_refl _)) rfl⟩
      exact ⟨Nat.zero_le _, [], .nil, IsTup.new _ _⟩
    · refine wpAny_binaryOp_repeat_ref (T := "tuple") (U := "int") (by decide) ⟨_, ho, rfl⟩ (fun s' => typeIs_int s' 1 t) noFill_tuple_mul F.fills_int_mul F.slot_int_rmul repeat_tuple F.slot_int_index.lookup
        (call_meets F.slot_int_rmul (typeIs_int s 1 t) F.entry_int_rmul (F.args_int_rmul_2 _ _) (int_rmul_tuple 1 t l its.toArray n dd sl)
          ⟨ho, rfl, ⟨_, ho, rfl⟩, call_meets F.slot_tuple_mul ⟨_, ho, rfl⟩ F.entry_tuple_mul (F.args_tuple_mul_2 _ _) (tuple_mulSame l its.toArray n dd sl t) ⟨ho, ?_⟩⟩)
      refine ⟨.ref l, H, I, rfl, q l H (L2.Same.refl H) ?_⟩
      have e : (List.replicate (1 : Int).toNat xs).flatten = xs := by simp
      rw [e]
      exact hT
end My

namespace My
open PySem PySem.Spec PyProof.Rows L2
/-! ### t[:0:-1] of a tuple -/
section
open MeetsSeq MeetsSeq2 MeetsSeq3 SeqRoads2
variable {P : Program} {w : World} {A : Around} {E : Value → Shared → Prop} {st : Shared}
theorem applied_tail {sl : Addr} {v1 v2 v3 : Value} {n : Nat} {Q : Int × Int × Nat → Shared → Prop} (hn : 0 < n) (hs : st.heap.IsSliceOf sl v1 v2 v3) (p1 : IsPart v1 none) (p2 : IsPart v2 (some 0)) (p3 : IsPart v3 (some (-1)))
    (h : Q ((n : Int) - 1, -1, n - 1) st) : wpAny (model P w) A (Builtin.Slice.sliceApplied (.ref sl) (pure (n : Int))) Q E st := by
  obtain ⟨ob, at1, cl1, da1⟩ := id hs
  unfold Builtin.Slice.sliceApplied Builtin.Slice.sliceFields
  refine wpAny_bind (wpAny_bind (wpAny_field at1 da1 (x := v1) rfl (wpAny_bind (wpAny_field at1 da1 (x := v2) rfl (wpAny_bind (wpAny_field at1 da1 (x := v3) rfl (wpAny_pure ?_)))))))
  refine wpAny_bind (HT.slicePart_ p3 ?_)
  show wpAny _ _ (if ((-1 : Int) == 0) = true then _ else _) _ _ st
  rw [if_neg (by decide)]
  refine wpAny_bind (HT.slicePart_ p1 (wpAny_bind (HT.slicePart_ p2 (wpAny_bind (wpAny_pure ?_)))))
  have adj : Builtin.Slice.sliceAdjust none (some 0) (-1) (n : Int) = ((n : Int) - 1, 0) := by
    show ((n : Int) - 1, min (0 : Int) ((n : Int) - 1)) = _
    rw [Int.min_eq_left (by omega)]
  have pla : Builtin.Slice.slicePlaces ((n : Int) - 1) 0 (-1) = n - 1 := by
    unfold Builtin.Slice.slicePlaces
    rw [if_neg (by decide)]
    by_cases z : (n : Int) - 1 > 0
    · rw [if_pos z, show (- -1 : Int) = 1 by decide, Int.ediv_one]
      omega
    · rw [if_neg z]
      omega
  show wpAny _ _ (match Builtin.Slice.sliceAdjust none (some 0) (-1) (n : Int) with | (lo, hi) => pure (lo, (-1 : Int), Builtin.Slice.slicePlaces lo hi (-1))) _ _ st
  rw [adj]
  show wpAny _ _ (pure ((n : Int) - 1, (-1 : Int), Builtin.Slice.slicePlaces ((n : Int) - 1) 0 (-1))) _ _ st
  rw [pla]
  exact wpAny_pure h
theorem pick_tailL : ∀ L : List Value, L ≠ [] → (List.range (L.length - 1)).filterMap (fun (m : Nat) => L[L.length - 1 - m]?) = (L.drop 1).reverse := by
  intro L hL
  cases L with
  | nil => exact absurd rfl hL
  | cons x r =>
    have full : (List.range (r.length + 1)).filterMap (fun (m : Nat) => (x :: r)[r.length - m]?) = (x :: r).reverse := by
      have e : (List.range (r.length + 1)).filterMap (fun (m : Nat) => (x :: r)[r.length - m]?) = ((List.range (x :: r).length).map fun k => (x :: r).length - 1 - k).filterMap ((x :: r)[·]?) := by
        rw [List.filterMap_map]
        refine fm_congr fun m hm => ?_
        have z := List.mem_range.mp hm
        show (x :: r)[r.length - m]? = (x :: r)[(x :: r).length - 1 - m]?
        rw [List.length_cons, Nat.add_sub_cancel]
      have a := PySem.W.krv_range (x :: r).length
      have b := PySem.W.krv_all (x :: r).toArray
      rw [e, a, List.filterMap_reverse]
      simpa using b
    rw [List.range_succ, List.filterMap_append, List.reverse_cons] at full
    have last : (List.filterMap (fun (m : Nat) => (x :: r)[r.length - m]?) [r.length]) = [x] := by simp
    rw [last] at full
    show (List.range ((x :: r).length - 1)).filterMap (fun (m : Nat) => (x :: r)[(x :: r).length - 1 - m]?) = r.reverse
    rw [List.length_cons, Nat.add_sub_cancel]
    exact List.append_cancel_right full
theorem pick_tail (its : Array Value) (h : 0 < its.size) : ((List.range (its.size - 1)).filterMap fun (m : Nat) => its[(((its.size : Int) - 1) + (m : Int) * (-1)).toNat]?).toArray = (its.toList.drop 1).reverse.toArray := by
  have e : (List.range (its.size - 1)).filterMap (fun (m : Nat) => its[(((its.size : Int) - 1) + (m : Int) * (-1)).toNat]?) = (List.range (its.toList.length - 1)).filterMap (fun (m : Nat) => its.toList[its.toList.length - 1 - m]?) := by
    rw [Array.length_toList]
    refine fm_congr fun m hm => ?_
    have z := List.mem_range.mp hm
    have y : (((its.size : Int) - 1) + (m : Int) * (-1)).toNat = its.size - 1 - m := by omega
    rw [y, Array.getElem?_toList]
  rw [e, pick_tailL _ (fun z => by
    have y := congrArg List.length z
    rw [Array.length_toList, List.length_nil] at y
    omega)]
theorem tuple_tail {a sl : Addr} {its : Array Value} {v1 v2 v3 : Value} {Q : Value → Shared → Prop} (hn : 0 < its.size) (ht : IsTup st.heap a its) (hs : st.heap.IsSliceOf sl v1 v2 v3) (p1 : IsPart v1 none) (p2 : IsPart v2 (some 0)) (p3 : IsPart v3 (some (-1)))
    (h : Q (.ref st.heap.objs.size) { st with heap := st.heap.push { cls := .type "tuple", data := .seq (its.toList.drop 1).reverse.toArray } }) (few : its.size ≤ sizeLine) : wpAny (model P w) A (getItem (.ref a) (.ref sl)) Q E st := by
  have ok : sizeOk (.seq (its.toList.drop 1).reverse.toArray) := by
    show (its.toList.drop 1).reverse.toArray.size ≤ sizeLine
    rw [List.size_toArray, List.length_reverse, List.length_drop, Array.length_toList]
    omega
  obtain ⟨ob, at1, cl1, da1⟩ := id hs
  have isS : st.TypeIs (.ref sl) "slice" := ⟨ob, at1, cl1⟩
  unfold getItem
  try with_reducible refine wpAny_holding ?_
  first | refine wpAny_bind (wpAny_pure ?_) | skip
  refine wpAny_bind (wpAny_sequenceKey ht.typeIs (by decide) ?_)
  refine wpAny_bind (wpAny_callSpecial?_slot (name := Str.ofString "__getitem__") ht.typeIs PyProof.Rows.slot_tuple_getitem
    (wpAny_call_entry PyProof.Rows.slot_tuple_getitem ht.typeIs PyProof.Rows.entry_tuple_getitem ?_ (PyProof.Rows.args_tuple_getitem _ _)))
  show wpAny _ _ (Builtin.Tuple.tupleItemsOf (.ref a) >>= _) _ _ st
  refine wpAny_bind (PyProof.Rows.tupleItemsOf_ ht (wpAny_bind (wpAny_typeOf isS ?_)))
  rw [if_pos (by decide)]
  refine wpAny_bind (applied_tail hn hs p1 p2 p3 ?_)
  have no : ¬ (((((its.size : Nat) : Int) - 1) == 0 && (-1 : Int) == 1 && its.size - 1 == its.size) = true) := by
    rw [show ((-1 : Int) == 1) = false by decide, Bool.and_false, Bool.false_and]
    decide
  show wpAny _ _ (if ((((its.size : Nat) : Int) - 1) == 0 && (-1 : Int) == 1 && its.size - 1 == its.size) = true then _ else _) _ _ st
  rw [if_neg no, pick_tail its hn]
  first
    | exact wpAny_bind (m := Builtin.Tuple.tupleExact _) (wpAny_newObj_type (wpAny_pure ⟨_, rfl, wpAny_pure h⟩) ok)
    | exact wpAny_bind (m := Builtin.Tuple.tupleExact _) (wpAny_newObj_type (wpAny_bind (wpAny_pure (wpAny_pure ⟨_, rfl, wpAny_pure h⟩))) ok)
    | exact wpAny_bind (wpAny_bind (m := Builtin.Tuple.tupleExact _) (wpAny_newObj_type (wpAny_pure (wpAny_pure ⟨_, rfl, wpAny_pure h⟩)) ok))
    | exact wpAny_bind (wpAny_bind (m := Builtin.Tuple.tupleExact _) (wpAny_newObj_type (wpAny_pure ⟨_, rfl, wpAny_pure h⟩) ok))
end
/-- t[:0:-1] -/
def tTailT (K : PySem.W.Frag) (te : TE) : TE := fun σ H Q => te σ H fun x H1 => ∃ a xs, x = .ref a ∧ SqT K H1 a xs ∧ 0 < xs.length ∧ ∀ p, H1 p = none → Q (.ref p) (upd H1 p (.tup (xs.drop 1).reverse))
theorem vals_drop {xs : List V} {its : List Value} (r : Vals xs its) : Vals (xs.drop 1) (its.drop 1) := by
  cases r with
  | nil => exact .nil
  | cons _ t => exact t
theorem pe_tailT {X : Cx} {e : Expr} {te : TE} {k k0 : Nat} {p0 p1 p2 p3 pos : Pos} (he : PE X e te) : PE X (.Subscript e (.Slice none (some (.Constant (.int 0) k0 p0)) (some (.UnaryOp .USub (.Constant (.int 1) k p1) p2)) p3) pos) (tTailT X.K te) := by
  refine ⟨fun pins s σ H Q I h => Subscript_ (thn (he.run pins s σ H _ I h) fun v s1 hv => ?_)⟩
  obtain ⟨x, H1, I1, r1, a, xs, rfl, hx, hn, q⟩ := hv
  cases r1
  have part : PO X (some (.UnaryOp .USub (.Constant (.int 1) k p1) p2)) (tPart (tUn (rU fun i => .int (-i)) (tC (.int 1)))) := po_some (pe_un un_neg pe_int)
  have part0 : PO X (some (.Constant (.int 0) k0 p0)) (tPart (tC (.int 0))) := po_some pe_int
  refine wpAny_Slice (thn (po_none.run pins s1 σ H1 (fun o H2 => o = none ∧ H2 = H1) I1 ⟨rfl, rfl⟩) fun vl s2 h2 => ?_)
  obtain ⟨_, H2, I2, pl, rfl, rfl⟩ := h2
  refine thn (part0.run pins s2 σ H2 (fun o H3 => o = some 0 ∧ H3 = H2) I2 ⟨0, rfl, rfl, rfl⟩) fun vu s3 h3 => ?_
  obtain ⟨_, H3, I3, pu, rfl, rfl⟩ := h3
  refine thn (part.run pins s3 σ H3 (fun o H4 => o = some (-1) ∧ H4 = H3) I3 ⟨1, rfl, -1, rfl, rfl, rfl⟩) fun vs s4 h4 => ?_
  obtain ⟨_, H4, I4, ps, rfl, rfl⟩ := h4
  have I5 : Inv X pins σ H4 { s4 with heap := s4.heap.push { cls := .type "slice", data := .fields #[vl, vu, vs] } } := I4.kept (t' := s4.toks) fun b ob q => Heap.get?_push_of_some _ q
  obtain ⟨its, r, ht, hz⟩ := I5.tuple hx
  have hlen := r.length
  show wpAny (model X.prog X.w) X.A (subscriptTail e (.Slice none (some (.Constant (.int 0) k0 p0)) (some (.UnaryOp .USub (.Constant (.int 1) k p1) p2)) p3) (.ref a) (.ref s4.heap.objs.size)) (EP X pins σ Q) X.xe { s4 with heap := s4.heap.push { cls := .type "slice", data := .fields #[vl, vu, vs] } }
  refine tail_any (ops := [.ref a, .ref s4.heap.objs.size]) ht.typeIs (PyProof.Rows.slot_tuple_getitem.lookup) ?_ (by with_unfolding_all rfl)
  refine tuple_tail (by rw [List.size_toArray]; omega) ht (Heap.IsSliceOf.new _ vl vu vs) pl pu ps ?_ (by rw [List.size_toArray]; omega)
  exact ⟨.ref _, _, I5.laid (t' := s4.toks) (o := .tup (xs.drop 1).reverse) (fun b ob q => Heap.get?_push_of_some _ q) (Nat.le_refl _) ⟨by rw [List.length_reverse, List.length_drop]; omega, _, (vals_drop r).reverse, IsTup.new _ _⟩, rfl, q _ (I5.hok.fresh (Nat.le_refl _))⟩
end My

namespace My
open PySem PySem.Spec PyProof.Rows L2
/-! ### things as data, whole: none, bools, ints, texts, lists, tuples, the empty dict -/
mutual
inductive Da (H : Hp) : V → PyData → Prop
  | non : Da H .non .none
  | bl (b : Bool) : Da H (.bl b) (.bool b)
  | int (i : Int) : Da H (.int i) (.int i)
  | str (z : Str) : Da H (.str z) (.str z)
  | lst {a : Addr} {xs : List V} {ds : List PyData} (e : H a = some (.lst xs)) (h : DaAll H xs ds) : Da H (.ref a) (.list ds)
  | tup {a : Addr} {xs : List V} {ds : List PyData} (e : Rd H a (.tup xs)) (h : DaAll H xs ds) : Da H (.ref a) (.tuple ds)
  | dct {a : Addr} (e : H a = some (.dK [])) : Da H (.ref a) (.dict [])
inductive DaAll (H : Hp) : List V → List PyData → Prop
  | nil : DaAll H [] []
  | cons {v : V} {vs : List V} {d : PyData} {ds : List PyData} (h : Da H v d) (t : DaAll H vs ds) : DaAll H (v :: vs) (d :: ds)
end
theorem rd_same {H H' : Hp} {a : Addr} {u : HO} (h : Rd H a u) (s : Same H H') : Rd H' a u := h.elim (fun e => .inl (s _ _ e)) fun ⟨o, e⟩ => .inr ⟨o, s _ _ e⟩
mutual
theorem Da.same {H H' : Hp} (s : Same H H') : ∀ {d : PyData} {v : V}, Da H v d → Da H' v d
  | _, _, .non => .non
  | _, _, .bl b => .bl b
  | _, _, .int i => .int i
  | _, _, .str z => .str z
  | _, _, .lst e h => .lst (s _ _ e) (DaAll.same s h)
  | _, _, .tup e h => .tup (rd_same e s) (DaAll.same s h)
  | _, _, .dct e => .dct (s _ _ e)
theorem DaAll.same {H H' : Hp} (s : Same H H') : ∀ {ds : List PyData} {vs : List V}, DaAll H vs ds → DaAll H' vs ds
  | _, _, .nil => .nil
  | _, _, .cons h t => .cons (Da.same s h) (DaAll.same s t)
end
theorem DaAll.length {H : Hp} : ∀ {ds : List PyData} {vs : List V}, DaAll H vs ds → vs.length = ds.length
  | _, _, .nil => rfl
  | _, _, .cons _ t => by rw [List.length_cons, List.length_cons, t.length]
theorem DaAll.get {H : Hp} : ∀ {ds : List PyData} {vs : List V} {i : Nat} {v : V}, DaAll H vs ds → vs[i]? = some v → ∃ d, ds[i]? = some d ∧ Da H v d
  | _, _, i, _, .nil, e => by cases i <;> cases e
  | _, _, 0, _, .cons h _, e => by
    cases e
    exact ⟨_, rfl, h⟩
  | _, _, i + 1, _, .cons _ t, e => t.get (i := i) e
theorem DaAll.at {H : Hp} : ∀ {ds : List PyData} {vs : List V} {i : Nat} {d : PyData}, DaAll H vs ds → ds[i]? = some d → ∃ v, vs[i]? = some v ∧ Da H v d
  | _, _, i, _, .nil, e => by cases i <;> cases e
  | _, _, 0, _, .cons h _, e => by
    cases e
    exact ⟨_, rfl, h⟩
  | _, _, i + 1, _, .cons _ t, e => t.at (i := i) e
theorem DaAll.app {H : Hp} : ∀ {ds es : List PyData} {vs ws : List V}, DaAll H vs ds → DaAll H ws es → DaAll H (vs ++ ws) (ds ++ es)
  | _, _, _, _, .nil, g => g
  | _, _, _, _, .cons h t, g => .cons h (t.app g)
theorem DaAll.drop {H : Hp} : ∀ {ds : List PyData} {vs : List V} (n : Nat), DaAll H vs ds → DaAll H (vs.drop n) (ds.drop n)
  | _, _, 0, h => by simpa using h
  | _, _, n + 1, .nil => by simpa using DaAll.nil
  | _, _, n + 1, .cons _ t => by simpa using t.drop n
theorem DaAll.take {H : Hp} : ∀ {ds : List PyData} {vs : List V} (n : Nat), DaAll H vs ds → DaAll H (vs.take n) (ds.take n)
  | _, _, 0, _ => by simpa using DaAll.nil
  | _, _, n + 1, .nil => by simpa using DaAll.nil
  | _, _, n + 1, .cons h t => by simpa using DaAll.cons h (t.take n)
theorem DaAll.rev {H : Hp} : ∀ {ds : List PyData} {vs : List V}, DaAll H vs ds → DaAll H vs.reverse ds.reverse
  | _, _, .nil => .nil
  | _, _, .cons h t => by
    rw [List.reverse_cons, List.reverse_cons]
    exact t.rev.app (.cons h .nil)
/-- the built-in type of a thing -/
def tyDa : PyData → String
  | .none => "NoneType"
  | .bool _ => "bool"
  | .int _ => "int"
  | .str _ => "str"
  | .list _ => "list"
  | .tuple _ => "tuple"
  | .dict _ => "dict"
theorem Da.ty {K : PySem.W.Frag} {H : Hp} {d : PyData} {v : V} (h : Da H v d) : TyX K H v (.type (tyDa d)) := by
  cases h with
  | non => exact .base .non
  | bl b => exact .base (.bl b)
  | int i => exact .base (.int i)
  | str z => exact .base (.str z)
  | lst e h => exact .base (.lst e)
  | dct e => exact .base (.dK e)
  | tup e h =>
    rcases e with e | ⟨o, e⟩
    · exact .base (.tup e)
    · exact .fTuple e
def dT : PyData → Bool | .tuple _ => true | _ => false
def dL : PyData → Bool | .list _ => true | _ => false
def dS : PyData → Bool | .str _ => true | _ => false
def dI : PyData → Bool | .int _ => true | .bool _ => true | _ => false
def dB : PyData → Bool | .bool _ => true | _ => false
theorem kit_tup (d : PyData) : kitB (tyDa d) "tuple" = some (dT d) := by cases d <;> (simp only [tyDa, dT]; decide +kernel)
theorem kit_lst (d : PyData) : kitB (tyDa d) "list" = some (dL d) := by cases d <;> (simp only [tyDa, dL]; decide +kernel)
theorem kit_str (d : PyData) : kitB (tyDa d) "str" = some (dS d) := by cases d <;> (simp only [tyDa, dS]; decide +kernel)
theorem kit_int (d : PyData) : kitB (tyDa d) "int" = some (dI d) := by cases d <;> (simp only [tyDa, dI]; decide +kernel)
theorem kit_bool (d : PyData) : kitB (tyDa d) "bool" = some (dB d) := by cases d <;> (simp only [tyDa, dB]; decide +kernel)
/-! ### what is read of it -/
mutual
def noL : PyData → Bool
  | .list _ => false
  | .tuple ds => noLs ds
  | .none | .bool _ | .int _ | .str _ | .dict _ => true
def noLs : List PyData → Bool
  | [] => true
  | d :: r => noL d && noLs r
end
section
variable {X : Cx} {pins : List (Addr × Obj)} {σ : L2.St} {H : Hp} {s : Shared}
mutual
theorem Da.reads (I : Inv X pins σ H s) : ∀ (d : PyData) (v : V) (u : Value), Da H v d → RelV v u → ∃ as, Reads s.heap u d as ∧ (noL d = true → sysModules ∉ as)
  | .none, _, _, h, r => by
    cases h
    cases r
    exact ⟨_, .none, fun _ z => nomatch z⟩
  | .bool b, _, _, h, r => by
    cases h
    cases r
    exact ⟨_, .bool b, fun _ z => nomatch z⟩
  | .int i, _, _, h, r => by
    cases h
    obtain ⟨t, rfl⟩ := r
    exact ⟨_, .int i t, fun _ z => nomatch z⟩
  | .str x, _, _, h, r => by
    cases h
    obtain ⟨t, rfl⟩ := r
    exact ⟨_, .str x t, fun _ z => nomatch z⟩
  | .list ds, _, _, h, r => by
    cases h with
    | lst e ha =>
      cases r
      obtain ⟨z, its, n, rv, ho⟩ := I.hok _ _ e
      obtain ⟨as, ra, _⟩ := Da.readsAll I ds _ its ha rv
      exact ⟨_, .list ho rfl rfl (by simpa using ra), fun z => by simp [noL] at z⟩
  | .tuple ds, _, _, h, r => by
    cases h with
    | tup e ha =>
      cases r
      obtain ⟨its, rv, ⟨o, ho, hc, n, hd⟩, hz⟩ := I.tuple (show SqT X.K H _ _ from .inl e)
      obtain ⟨as, ra, na⟩ := Da.readsAll I ds _ its ha rv
      exact ⟨_, .tuple ho hc hd (by simpa using ra), fun z => na (by simpa only [noL] using z)⟩
  | .dict kvs, _, _, h, r => by
    cases h with
    | dct e =>
      cases r
      obtain ⟨_, hne, vs, kv, o, es, ep, ho, hx, hdat, _, hp, _⟩ := I.hok _ _ e
      cases kv with
      | nil =>
        have he : es.toList = [] := by
          revert hp
          generalize es.toList = l
          intro hp
          cases hp
          rfl
        refine ⟨_, .dict ho hx.1 hdat (by rw [he]; exact .nil) (by rw [he]; exact .nil), fun _ z => ?_⟩
        simp only [List.append_nil, List.mem_singleton] at z
        rw [← z] at hne
        exact absurd hne (by decide)
theorem Da.readsAll (I : Inv X pins σ H s) : ∀ (ds : List PyData) (vs : List V) (us : List Value), DaAll H vs ds → Vals vs us → ∃ as, ReadsAll s.heap us ds as ∧ (noLs ds = true → sysModules ∉ as)
  | [], _, _, h, r => by
    cases h
    cases r
    exact ⟨_, .nil, fun _ z => nomatch z⟩
  | d :: ds, _, _, h, r => by
    cases h with
    | cons h t =>
      cases r with
      | cons r rt =>
        obtain ⟨as, ra, na⟩ := Da.reads I d _ _ h r
        obtain ⟨bs, rb, nb⟩ := Da.readsAll I ds _ _ t rt
        refine ⟨_, .cons ra rb, fun z => ?_⟩
        simp only [noLs, Bool.and_eq_true] at z
        intro m
        rcases List.mem_append.mp m with m | m
        · exact na z.1 m
        · exact nb z.2 m
end
end
/-! ### repr of it -/
structure rReprD (xs : List V) (H : Hp) (Q : VK) : Prop where
  ex : ∃ x d, xs = [x] ∧ Da H x d ∧ d.showable = true ∧ (d.hasDict = true → noL d = true) ∧ d.depth ≤ 60 ∧ d.shown.length ≤ sizeLine ∧ Q (.str d.shown) H
theorem call_reprD {X : Cx} (quiet : X.A.guards = some []) (hu : X.A.units + 64 < cLine) : CallR X (.builtin "repr") rReprD := by
  intro pins s σ H xs us Q I r h
  obtain ⟨x, d, rfl, hd, h1, h2, h3, h4, q⟩ := h
  obtain ⟨u, rfl, ru⟩ := vals1 r
  obtain ⟨as, rd, hs⟩ := Da.reads I d x u hd ru
  cases hd with
  | non =>
    cases (show u = Value.none from ru)
    exact PySem.P.repr_of_none ⟨.str "None", H, I.tok _, ⟨_, rfl⟩, by simpa only [PyData.shown] using q⟩
  | bl b =>
    cases (show u = Value.bool b from ru)
    exact PySem.P.repr_of_bool ⟨.str (if b then "True" else "False"), H, I.tok _, ⟨_, rfl⟩, by simpa only [PyData.shown] using q⟩
  | int i =>
    obtain ⟨tk, rfl⟩ := (show ∃ t, u = Value.int i t from ru)
    exact PySem.P.repr_of_int (by simpa only [PyData.showable, decide_eq_true_eq] using h1) ⟨V.str (Str.ofString (toString i)), H, I.tok _, ⟨_, rfl⟩, by simpa only [PyData.shown] using q⟩
  | str z =>
    obtain ⟨tk, rfl⟩ := (show ∃ t, u = Value.str z t from ru)
    exact PySem.P.repr_of_str ⟨.str (reprText z), H, I.tok _, ⟨_, rfl⟩, by simpa only [PyData.shown] using q⟩ (by simpa only [PyData.shown] using h4)
  | @lst a ys ds e ha =>
    cases (show u = Value.ref a from ru)
    exact PySem.repr_of_reads' rd h1 (fun z => hs (h2 z)) quiet (by omega) (fun _ _ z => z) (fun h' v tk k => ⟨.str (PyData.list ds).shown, H, I.kept k, ⟨_, rfl⟩, q⟩) h4
  | @tup a ys ds e ha =>
    cases (show u = Value.ref a from ru)
    exact PySem.repr_of_reads' rd h1 (fun z => hs (h2 z)) quiet (by omega) (fun _ _ z => z) (fun h' v tk k => ⟨.str (PyData.tuple ds).shown, H, I.kept k, ⟨_, rfl⟩, q⟩) h4
  | @dct a e =>
    cases (show u = Value.ref a from ru)
    exact PySem.repr_of_reads' rd h1 (fun z => hs (h2 z)) quiet (by omega) (fun _ _ z => z) (fun h' v tk k => ⟨.str (PyData.dict []).shown, H, I.kept k, ⟨_, rfl⟩, q⟩) h4
/-! ### x in t, x and the items of t data -/
def rInTup (K : PySem.W.Frag) : R2 := fun x y H Q => ∃ d ds, Dp K H x d ∧ Dp K H y (.tuple ds) ∧ SeqAt.shaped d = true ∧ SeqAt.shaped (.tuple ds) = true ∧ Q (.bl (ds.any fun z => PyData.eqv z d)) H
theorem op_inTup {X : Cx} (hu : X.A.units + 65 < cLine) : OpR X (compareOp .In) (rInTup X.K) := by
  intro pins s σ H x y v u Q I rx ry h
  obtain ⟨d, ds, hd, he, sd, se, q⟩ := h
  obtain ⟨as, r1⟩ := Dp.reads I d x v hd rx
  obtain ⟨bs, r2⟩ := Dp.reads I (.tuple ds) y u he ry
  have c2 : PyData.canLayAll0 ds = true := by
    have z := SeqAt.canLay_of_shaped se
    simpa only [PyData.canLay0] using z
  exact SeqAt.in_tuple_reads r2 r1 c2 (SeqAt.canLay_of_shaped sd) (room_in_shaped sd hu) ⟨.bl _, H, I, rfl, q⟩
end My

namespace My
open PySem PySem.Spec PyProof.Rows L2
/-! ### a list == [], whatever stands in it -/
def rEqNil : R2 := fun x y H Q => ∃ (a b : Addr) (xs : List V), x = .ref a ∧ y = .ref b ∧ H a = some (.lst xs) ∧ H b = some (.lst []) ∧ Q (.bl xs.isEmpty) H
theorem op_eqNil {X : Cx} (hu : X.A.units + 64 < cLine) : OpR X (compareOp .Eq) rEqNil := by
  intro pins s σ H x y v u Q I rx ry h
  obtain ⟨a, b, xs, rfl, rfl, ha, hb, q⟩ := h
  cases rx
  cases ry
  obtain ⟨z, its, n, r, hl, e⟩ := I.lstM ha
  obtain ⟨z2, its2, n2, r2, hl2, e2⟩ := I.lstM hb
  have l1 : s.heap.IsList a its.toArray := ⟨_, e, rfl, n, rfl⟩
  have l2 : s.heap.IsList b its2.toArray := ⟨_, e2, rfl, n2, rfl⟩
  have l0 : its2 = [] := by
    cases its2 with
    | nil => rfl
    | cons => cases hl2
  subst l0
  cases xs with
  | nil =>
    have l3 : its = [] := by
      cases its with
      | nil => rfl
      | cons => cases hl
    subst l3
    exact SeqAt.RcAt.lists l1 l2 rfl (by omega) (e := fun _ => true) (fun j h1 h2 => absurd h1 (Nat.not_lt_zero j)) _ _ _ _ ⟨.bl true, H, I, rfl, q⟩
  | cons x0 r0 =>
    have big : its.length = r0.length + 1 := hl.symm
    exact SeqAt.RcAt.lists_lengths l1 l2 (by simp only [List.size_toArray, big, List.length_nil]; rfl) (by omega) _ _ _ _ ⟨.bl false, H, I, rfl, q⟩
theorem call_len_seqK {X : Cx} {K : PySem.W.Frag} (hK : X.K = K) : CallR X (.builtin "len") (fun xs H Q => ∃ p ys, xs = [V.ref p] ∧ (SqL K H p ys ∨ SqT K H p ys) ∧ Q (.int ys.length) H) := by
  subst hK
  exact call_len_seq
theorem pi_listK {X : Cx} {K : PySem.W.Frag} (hK : X.K = K) {tg e : Expr} {te : TE} (h : PE X e te) : PI X tg e (iList K te) := by
  subst hK
  exact pi_list h
theorem op_eqDK {X : Cx} {K : PySem.W.Frag} (hK : X.K = K) (hu : X.A.units + 64 < cLine) : OpR X (compareOp .Eq) (rEqD K) := by
  subst hK
  exact op_eqD hu
theorem u65 {k : Nat} {A : Around} (r : Room k A) : A.units + 65 < cLine := by have := r.un; omega
theorem op_in_tup {X : Cx} (hu : X.A.units + 65 < cLine) : OpR X (compareOp .In) (rInTup X.K) := op_inTup hu
/-! ### pairs as data -/
theorem eqv_pair (a b : Str) (i j : Int) : PyData.eqv (.tuple [.str a, .int i]) (.tuple [.str b, .int j]) = decide ((a, i) = (b, j)) := by
  have e : PyData.eqv (.tuple [.str a, .int i]) (.tuple [.str b, .int j]) = ((a == b) && ((i == j) && true)) := by simp only [PyData.eqv, PyData.eqvAll]
  rw [e, Bool.and_true]
  by_cases h1 : a = b
  · by_cases h2 : i = j
    · subst h1 h2
      simp
    · rw [beq_eq_false_iff_ne.mpr h2, Bool.and_false]
      exact (decide_eq_false fun z => h2 (Prod.mk.inj z).2).symm
  · rw [beq_eq_false_iff_ne.mpr h1, Bool.false_and]
    exact (decide_eq_false fun z => h1 (Prod.mk.inj z).1).symm
theorem sh_pair {a : Str} (h : ∀ c ∈ a.cps.toList, c < 1114112) (i : Int) : SeqAt.shaped (.tuple [.str a, .int i]) = true := by
  show ((PyData.tuple [.str a, .int i]).canLay0 && decide ((PyData.tuple [.str a, .int i]).depth ≤ 64)) = true
  have h1 : (PyData.tuple [.str a, .int i]).canLay0 = true := by
    simp only [PyData.canLay0, PyData.canLayAll0, Bool.and_true, PyData.strOk, Array.all_eq_true, decide_eq_true_eq]
    intro j hj
    exact h _ (by simp)
  rw [h1]
  simp [PyData.depth, PyData.depthAll]
end My

namespace My
open PySem PySem.Spec PyProof.Rows L2
/-! ### what is a list or a tuple -/
def iEither (K : PySem.W.Frag) (tl : TE) : TI := fun σ H R => tl σ H fun x H1 => ∃ a, x = .ref a ∧ (((∃ xs, SqL K H1 a xs) ∧ R (Itl K a) H1) ∨ ((∃ xs, SqT K H1 a xs) ∧ R (Itt K a) H1))
theorem pi_either {X : Cx} {K : PySem.W.Frag} (hK : X.K = K) {tg e : Expr} {te : TE} (he : PE X e te) : PI X tg e (iEither K te) := by
  subst hK
  constructor
  intro pins s σ H R I w
  have ev := he.run pins s σ H _ I w
  refine thn ev ?_
  rintro v s1 ⟨x, G, J, rel, a, rfl, alt⟩
  cases rel
  have one : ∀ b, b ∈ [s1.heap.objs.size] → b = s1.heap.objs.size := fun b hb => List.mem_singleton.mp hb
  rcases alt with ⟨⟨xs, seq⟩, q⟩ | ⟨⟨xs, seq⟩, q⟩
  · obtain ⟨its, _, isl, _⟩ := J.list seq
    refine wpAny_pyIter_list isl.isList ?_
    refine ⟨s1.heap.objs.size, [s1.heap.objs.size], _, _, G, rfl, ?_, turn_list a _, ?_, ?_, q⟩
    · exact J.kept (t' := s1.toks) fun b o z => Heap.get?_push_of_some _ z
    · exact ⟨_, Heap.get?_push_size _ rfl, rfl, rfl⟩
    · intro b hb
      cases one b hb
      exact J.fpOk (Nat.le_refl _) (J.hok.fresh (Nat.le_refl _))
  · obtain ⟨its, _, ist, _⟩ := J.tuple seq
    have ist' : s1.heap.IsTuple a its.toArray := ist
    refine wpAny_pyIter_tuple ist' ?_
    refine ⟨s1.heap.objs.size, [s1.heap.objs.size], _, _, G, rfl, ?_, turn_tuple a _, ?_, ?_, q⟩
    · exact J.kept (t' := s1.toks) fun b o z => Heap.get?_push_of_some _ z
    · exact ⟨_, Heap.get?_push_size _ rfl, rfl, rfl⟩
    · intro b hb
      cases one b hb
      exact J.fpOk (Nat.le_refl _) (J.hok.fresh (Nat.le_refl _))
def rSlE (K : PySem.W.Frag) : V → Option Int → Option Int → Hp → VK → Prop := fun x lo hi H Q => rSlL K x lo hi H Q ∨ rSlX x lo hi H Q
theorem sl_either {X : Cx} : SlR X (rSlE X.K) := by
  intro pins s σ H v vv vl vu lo hi sl Q I rx hs pl pu h
  exact h.elim (sl_list pins s σ H v vv vl vu lo hi sl Q I rx hs pl pu) (sl_X pins s σ H v vv vl vu lo hi sl Q I rx hs pl pu)
/-! ### C(e, ..), the class's __init__ may raise; what is wished of the error may speak of the slots -/
def tMakeS (C : Addr) (sp : Sp) (E : L2.St → XK) (t : TA) : TE := fun σ H Q => t σ H fun vs H1 => ∀ x dx, H1 x = none → H1 dx = none → dx ≠ x → sp (.ref x :: vs) (upd (upd H1 dx (.own x)) x (.ins C dx [])) (fun v H2 => v = .non ∧ Q (.ref x) H2) (E σ)
theorem pe_makeS {X : Cx} {CX : CXT} {k : Nat} {f C : Addr} {fd : FuncData} {ps : List Str} {sp : Sp} {E : L2.St → XK} {x : Str} {p pos : Pos} {e : Expr} {es : List Expr} {t : TA} (M : Mk X.K C f) (F : FnOk X.prog X.w X.K X.mg X.base CX k f fd ps sp) (hr : Room (k + 1) X.A)
    (hg : Gl X x) (hm : X.mg x = some (.ref C)) (hb : Binds X.K fd ps []) (hx : ∀ σ, PassesAt CX X σ (E σ)) (ha : PA X (e :: es) t) (nd : (x == ("__debug__" : Str)) = false := by decide)
    (he : starEach (e :: es) X.env = (false, eval e X.env) :: starEach es X.env := by rfl) (hpl : (backTo pos (starEach es X.env)).any (·.1) = false := by rfl) : PE X (.Call (.Name x p) (e :: es) [] pos) (tMakeS C sp E t) := by
  constructor
  intro pins s σ H Q I w
  refine wpAny_Call_Name_kw (ld_glob I hg hm ?_ nd)
  have args := ha.run pos pins s σ H _ I w
  refine PySem.W.callWith_K (h₀ := X.base) I.ok.mod.kin M.kp (thn args ?_) he hpl
  rintro us t1 ⟨vs, G, J, rel, want⟩
  refine ⟨J.kIn, ?_⟩
  have fresh1 := J.hok.fresh (Nat.le_succ t1.heap.objs.size)
  have fresh0 := J.hok.fresh (Nat.le_refl t1.heap.objs.size)
  have promise := want _ _ fresh1 fresh0 (Nat.ne_of_lt (Nat.lt_succ_self _))
  have J2 := Inv.made (C := C) J
  have rel2 : Vals (V.ref (t1.heap.objs.size + 1) :: vs) (Value.ref (t1.heap.objs.size + 1) :: us) := .cons rfl rel
  have many : (Value.ref (t1.heap.objs.size + 1) :: us).length = ps.length := by
    rw [← rel2.length]
    exact F.len _ _ _ _ promise
  have bound := hb _ (Value.ref (t1.heap.objs.size + 1) :: us) J2.kIn (by rw [List.append_nil]; exact many)
  rw [List.append_nil] at bound
  have ran := F.run _ X.stack _ _ ⟨Value.ref (t1.heap.objs.size + 1) :: us, []⟩ _ _ _ (E σ) (hr.make C us []) (J2.env0.make C us []) bound rel2 promise
  refine wpAny_call (make_map (f := f) J.kIn M.makes M.init (beq_iff_eq.mp M.fn) (codeAny_mono ran ?_))
  rintro (z | fl) t2 post
  · exact hx σ pins _ _ z t2 J2 post
  · match fl, post with
    | .ret u, post =>
      obtain ⟨v, G2, J3, rv, ev, q3⟩ := J2.after post
      subst ev
      exact ⟨rv, V.ref (t1.heap.objs.size + 1), G2, J3, rfl, q3⟩
    | .next, post => exact False.elim post
    | .brk, post => exact False.elim post
    | .cont, post => exact False.elim post
end My

namespace My
open PySem PySem.Spec PyProof.Rows L2
abbrev s_is_integer : Stmt := topS 7
theorem sc_is_integer : FnScope ["thing"] ["thing"] (defScope s_is_integer) := ⟨rfl, rfl, rfl, by decide +kernel, rfl, by decide +kernel, by decide +kernel⟩
abbrev s_trimmed : Stmt := topS 12
theorem sc_trimmed : FnScope ["factors", "many"] ["factors"] (defScope s_trimmed) := ⟨rfl, rfl, rfl, by decide +kernel, rfl, by decide +kernel, by decide +kernel⟩
abbrev s_are_factors : Stmt := topS 21
theorem sc_are_factors : FnScope ["thing", "factor"] ["thing"] (defScope s_are_factors) := ⟨rfl, rfl, rfl, by decide +kernel, rfl, by decide +kernel, by decide +kernel⟩
/-! ### factors -/
structure TxtF (mg : Str → Option Value) : Prop where
  n_isinstance : mg "isinstance" = none
  n_int : mg "int" = none
  n_bool : mg "bool" = none
  n_len : mg "len" = none
  n_list : mg "list" = none
  n_tuple : mg "tuple" = none
  n_all : mg "all" = none
/-- an integer from 0 on -/
def facD : PyData → Bool
  | .int i => decide (0 ≤ i)
  | _ => false
def itemsD : PyData → List PyData
  | .list ds => ds
  | .tuple ds => ds
  | _ => []
def okF (d : PyData) : Bool := (dL d || dT d) && (itemsD d).all facD
/-- how many of the first m are left without the zeros at the end -/
def lastN (ns : List Int) : Nat → Nat
  | 0 => 0
  | m + 1 => if ns[m]? = some 0 then lastN ns m else m + 1
def trimN (ns : List Int) : List Int := ns.take (lastN ns ns.length)
theorem lastN_le (ns : List Int) : ∀ m, lastN ns m ≤ m
  | 0 => Nat.le_refl _
  | m + 1 => by
    unfold lastN
    split
    · exact Nat.le_succ_of_le (lastN_le ns m)
    · exact Nat.le_refl _
theorem trimN_len (ns : List Int) : (trimN ns).length ≤ ns.length := by
  unfold trimN
  rw [List.length_take]
  omega
theorem last_stay {ns : List Int} {i : Nat} (h : ns[i]? ≠ some 0) : lastN ns (i + 1) = i + 1 := by
  rw [lastN, if_neg h]
theorem last_go {ns : List Int} {i : Nat} (h : ns[i]? = some 0) : lastN ns (i + 1) = lastN ns i := by
  rw [lastN, if_pos h]
theorem cut_take (ns : List Int) (m : Nat) : cutV (ns.map V.int) none (some (m : Int)) = (ns.take m).map V.int := by
  rw [cut_map, HT.sIx_none, show HT.sIx ns.length ns.length (some (m : Int)) = min m ns.length from HT.sIx_nat ns.length ns.length m, List.drop_zero, Nat.sub_zero]
  congr 1
  by_cases h : m ≤ ns.length
  · rw [Nat.min_eq_left h]
  · rw [Nat.min_eq_right (by omega), List.take_of_length_le (Nat.le_refl _), List.take_of_length_le (by omega)]
theorem eqI (a b : Int) : V.bl (decide (V.int a = V.int b)) = V.bl (decide (a = b)) := by
  congr 1
  refine decide_eq_decide.mpr ⟨fun h => ?_, fun h => by rw [h]⟩
  cases h
  rfl
theorem kit_seq {K : PySem.W.Frag} (d : PyData) : PySem.W.kitAny K (.type (tyDa d)) [.type "list", .type "tuple"] = some (dL d || dT d) := by
  refine kitAny_cons (b := dL d) (kit_ty (kit_lst d)) (fun h => ?_) (fun h => by rw [h]; rfl)
  refine kitAny_cons (b := dT d) (kit_ty (kit_tup d)) (fun h2 => by rw [h, h2]; exact kitAny_nil) (fun h2 => by rw [h2, Bool.or_true])
theorem same_rfl (H : Hp) : Same H H := fun _ _ e => e
theorem same_at {H H' : Hp} {p : Addr} {o : HO} (s : Same H H') (n : H p = none) : Same H (upd H' p o) := fun b x e => by
  rw [upd_ne (ne_of_none e n)]
  exact s b x e
structure spIsInt (vs : List V) (H : Hp) (Q : VK) (E : XK) : Prop where
  ex : ∃ x d, vs = [x] ∧ Da H x d ∧ Q (.bl (dI d && !dB d)) H
structure spFactors (K : PySem.W.Frag) (vs : List V) (H : Hp) (Q : VK) (E : XK) : Prop where
  ex : ∃ x, vs = [x] ∧ ((∃ d, Da H x d ∧ (itemsD d).length ≤ 1000 ∧ ∀ H', Same H H' → Q (.bl (okF d)) H') ∨ (∃ ty, TyX K H x (.type ty) ∧ (∀ H', Same H H' → TyX K H' x (.type ty)) ∧ PySem.W.kitAny K (.type ty) [.type "list", .type "tuple"] = some false ∧ ∀ H', Same H H' → Q (.bl false) H'))
/-- a list or a tuple of ints at a -/
def IntsAt (H : Hp) (a : Addr) (ns : List Int) : Prop := H a = some (.lst (ns.map V.int)) ∨ Rd H a (.tup (ns.map V.int))
theorem IntsAt.same {H H' : Hp} {a : Addr} {ns : List Int} (h : IntsAt H a ns) (s : Same H H') : IntsAt H' a ns := h.elim (fun e => .inl (s _ _ e)) fun e => .inr (rd_same e s)
theorem IntsAt.sq {K : PySem.W.Frag} {H : Hp} {a : Addr} {ns : List Int} (h : IntsAt H a ns) : SqL K H a (ns.map V.int) ∨ SqT K H a (ns.map V.int) := by
  rcases h with e | e
  · exact .inl (.inl (.inl e))
  · exact .inr (.inl e)
structure spTrim (vs : List V) (H : Hp) (Q : VK) (E : XK) : Prop where
  ex : ∃ a ns, vs = [.ref a] ∧ IntsAt H a ns ∧ ns.length ≤ 1000 ∧ ∀ r H', Same H H' → Rd H' r (.tup ((trimN ns).map V.int)) → Q (.ref r) H'
section
variable {P : Program} {w : World} {K : PySem.W.Frag} {mg : Str → Option Value} {base : Heap}
theorem ok_is_integer {f : Addr} {fd : FuncData} {k : Nat} (F : Fun K "is_integer" "is_integer" s_is_integer f fd) (T : TxtF mg) : FnOk P w K mg base CX0 (k + 1) f fd ["thing"] spIsInt := by
  refine F.ok sc_is_integer (fun vs H Q E h => ?_) (fun cdv A outer s H vs Q E hr h => ?_)
  · obtain ⟨x, d, rfl, _⟩ := h
    rfl
  · obtain ⟨x, d, rfl, hx, q⟩ := h
    refine ⟨_, (pss_one (ps_ret (pe_and (pe_callB call_isi (by rfl) T.n_isinstance (by decide +kernel) (pa_cons (pv 0) (pa_cons (pe_bltn (v := .ty "int") (by rfl) T.n_int (by decide +kernel) rfl) pa_nil))) (pe_one (pe_not (pe_callB call_isi (by rfl) T.n_isinstance (by decide +kernel) (pa_cons (pv 0) (pa_cons (pe_bltn (v := .ty "bool") (by rfl) T.n_bool (by decide +kernel) rfl) pa_nil)))))))), ?_⟩
    refine ⟨_, rfl, _, _, _, _, dI d, rfl, .ty "int", hx.ty, kit_ty (kit_int d), _, rfl, ?_⟩
    cases e : dI d with
    | false =>
      rw [e] at q
      exact iteF q
    | true =>
      rw [e] at q
      exact iteT ⟨_, rfl, _, _, _, _, dB d, rfl, .ty "bool", hx.ty, kit_ty (kit_bool d), _, rfl, q⟩
theorem ok_trimmed {f : Addr} {fd : FuncData} {k : Nat} (F : Fun K "trimmed" "trimmed" s_trimmed f fd) (T : TxtF mg) : FnOk P w K mg base CX0 (k + 1) f fd ["factors"] spTrim := by
  refine F.ok sc_trimmed (fun vs H Q E h => ?_) (fun cdv A outer s H vs Q E hr h => ?_)
  · obtain ⟨a, ns, rfl, _⟩ := h
    rfl
  · obtain ⟨a, ns, rfl, ha, hl, q⟩ := h
    refine ⟨_, (pss_cons (ps_set (i := 1) sc_trimmed.nd rfl (.inl rfl) (pe_callB call_len_seq (by rfl) T.n_len (by decide +kernel) (pa_cons (pv 0) pa_nil)))
  (pss_cons (ps_while PassesOwn.never (PW.pt (pw_and (pt_cmpR op_gt (pv 1) pe_int (nomark _)) (pw_and1 (pt_cmpR op_eq (pe_ix ix_seq (pv 0) (pe_op op_sub (pv 1) pe_int) (fun _ _ => rfl)) pe_int (nomark _)))))
   (pss_one (ps_aug (i := 1) sc_trimmed.nd rfl (.inl rfl) pe_int ip_sub)))
  (pss_one (ps_ret (pe_callTy call_tuple_of (by rfl) T.n_tuple (by decide +kernel) (pa_cons (pe_slice sl_either (pv 0) po_none (po_some (pv 1))) pa_nil)))))), ?_⟩
    refine ⟨_, rfl, a, _, rfl, ha.sq, ?_⟩
    rw [List.length_map]
    refine ⟨fun j σ H2 => H2 = H ∧ j ≤ ns.length ∧ lastN ns j = lastN ns ns.length ∧ σ = [some (.ref a), some (.int (j : Nat))], ⟨ns.length, rfl, Nat.le_refl _, rfl, rfl⟩, ?_⟩
    rintro j σ H2 ⟨rfl, hj, hlast, rfl⟩
    have fin : lastN ns j = j → ∀ r H', Same H2 H' → Rd H' r (.tup ((ns.take j).map V.int)) → Q (.ref r) H' := fun z r H' s e => by
      refine q r H' s ?_
      unfold trimN
      rw [← hlast, z]
      exact e
    have cut := cut_take ns j
    refine ⟨_, rfl, _, _, rfl, rfl, _, rfl, ?_⟩
    cases j with
    | zero =>
      rw [show decide (((0 : Nat) : Int) > 0) = false by decide]
      refine iteF ?_
      refine iteF ?_
      refine ⟨_, rfl, _, rfl, _, rfl, ?_⟩
      rcases ha with e | e
      · refine .inl ⟨a, _, rfl, .inl (.inl e), fun p np => ?_⟩
        rw [cut]
        refine ⟨p, _, rfl, .inl ⟨.inl (.inl upd_same), fun l nl => ?_⟩⟩
        exact fin rfl l _ ((same_upd np).trans (same_upd nl)) (.inl upd_same)
      · refine .inr ⟨a, _, rfl, e, fun r H' s1 e1 => ?_⟩
        rw [cut] at e1
        exact ⟨r, _, rfl, .inr ⟨.inl e1, fin rfl r H' s1 e1⟩⟩
    | succ i =>
      rw [decide_eq_true (show ((i + 1 : Nat) : Int) > (0 : Int) by omega)]
      refine iteT ?_
      have hi : i < ns.length := hj
      have e1 : (((i + 1 : Nat)) : Int) - 1 = (i : Int) := by omega
      have gi : (ns.map V.int)[i]? = some (V.int ns[i]) := by rw [List.getElem?_map, List.getElem?_eq_getElem hi]; rfl
      have ix : ∀ {Q : VK}, Q (V.int ns[i]) H2 → rIx K (.ref a) (.int ((((i + 1 : Nat)) : Int) - 1)) H2 Q := by
        intro Q z
        rw [e1]
        exact ha.sq.elim (fun y => .inl ⟨a, _, _, _, rfl, rfl, y, atI_nat gi, z⟩) fun y => .inr (.inl ⟨a, _, _, _, rfl, rfl, y, atI_nat gi, z⟩)
      refine ⟨_, rfl, _, rfl, _, _, rfl, rfl, ix ?_⟩
      refine ⟨rfl, decide (ns[i] = 0), eqI _ 0, ?_⟩
      by_cases hz : ns[i] = 0
      · rw [decide_eq_true hz]
        refine iteT ?_
        refine ⟨fun σ' H' => H' = H2 ∧ i ≤ ns.length ∧ lastN ns i = lastN ns ns.length ∧ σ' = [some (.ref a), some (.int (i : Nat))], fun σ' H' h => ⟨i, by omega, h⟩, ?_⟩
        have gz : ns[i]? = some 0 := by rw [List.getElem?_eq_getElem hi, hz]
        refine ⟨_, rfl, _, _, rfl, rfl, rfl, Nat.le_of_lt hi, by rw [← hlast, last_go gz], ?_⟩
        show [some (V.ref a), some (V.int (((i + 1 : Nat) : Int) - 1))] = _
        rw [e1]
      · rw [decide_eq_false hz]
        refine iteF ?_
        have z0 : ns[i]? ≠ some 0 := fun z => by
          rw [List.getElem?_eq_getElem hi] at z
          exact hz (Option.some.inj z)
        refine ⟨_, rfl, _, rfl, _, rfl, ?_⟩
        rcases ha with e | e
        · refine .inl ⟨a, _, rfl, .inl (.inl e), fun p np => ?_⟩
          rw [cut]
          refine ⟨p, _, rfl, .inl ⟨.inl (.inl upd_same), fun l nl => ?_⟩⟩
          exact fin (last_stay z0) l _ ((same_upd np).trans (same_upd nl)) (.inl upd_same)
        · refine .inr ⟨a, _, rfl, e, fun r H' s1 e1 => ?_⟩
          rw [cut] at e1
          exact ⟨r, _, rfl, .inr ⟨.inl e1, fin (last_stay z0) r H' s1 e1⟩⟩
theorem fac_and (d : PyData) : facD d = ((dI d && !dB d) && match d with | .int i => decide (0 ≤ i) | _ => false) := by
  cases d <;> simp [facD, dI, dB]
theorem ok_are_factors {f f1 : Addr} {fd fd1 : FuncData} {k : Nat} (F : Fun K "are_factors" "are_factors" s_are_factors f fd) (T : TxtF mg) (F_is_integer : Fun K "is_integer" "is_integer" s_is_integer f1 fd1) (b_is_integer : Binds K fd1 ["thing"] []) (g_is_integer : mg "is_integer" = some (.ref f1)) (G_is_integer : FnOk P w K mg base CX0 1 f1 fd1 ["thing"] spIsInt) :
    FnOk P w K mg base CX0 (k + 2) f fd ["thing"] (spFactors K) := by
  refine F.ok sc_are_factors (fun vs H Q E h => ?_) (fun cdv A outer s H vs Q E hr h => ?_)
  · obtain ⟨x, rfl, _⟩ := h
    rfl
  · obtain ⟨x, rfl, h⟩ := h
    refine ⟨_, (pss_cons (ps_if (pt_not (pt_val (pe_callB call_isiT (by rfl) T.n_isinstance (by decide +kernel) (pa_cons (pv 0) (pa_cons (pe_tup (pa_cons (pe_bltn (v := .ty "list") (by rfl) T.n_list (by decide +kernel) rfl) (pa_cons (pe_bltn (v := .ty "tuple") (by rfl) T.n_tuple (by decide +kernel) rfl) pa_nil))) pa_nil)))))
   (pss_one (ps_ret pe_bl))
   pss_nil)
  (pss_one (ps_ret (pe_callB (cr_all (by rfl)) (by rfl) T.n_all (by decide +kernel) (pa_cons (pe_lc (own := [("factor", 1)]) (g := gName 1) rfl sc_are_factors.nd (pi_either (K := K) rfl (pv 0)) (blkOk_by (own := [("factor", 1)]) (N := ["thing", "factor"]) (sc := defScope s_are_factors) (by decide +kernel)) (fun _ _ _ _ _ => (pg_name (i := 1) sc_are_factors.nd rfl (.inl rfl))) (fun _ _ _ _ _ => pts_nil) (fun _ _ _ _ _ => (pe_and (pe_call G_is_integer (hr.mono (by omega)) (by rfl) g_is_integer F_is_integer.kp b_is_integer .nil pass0 (pa_cons (pv 1) pa_nil)) (pe_one (pe_cmpR op_ge (pv 1) pe_int (nomark _)))))) pa_nil))))), ?_⟩
    clear G_is_integer
    refine ⟨_, rfl, by show 2 ≤ sizeLine; decide, fun t nt => ?_⟩
    have st := same_upd (o := .tup [.ty "list", .ty "tuple"]) nt
    rcases h with ⟨d, hx, few, q⟩ | ⟨ty, hty, keep, hk, q⟩
    · refine ⟨x, t, _, _, _, dL d || dT d, rfl, upd_same, .cons (.ty "list") (.cons (.ty "tuple") .nil), (hx.same st).ty, kit_seq d, _, rfl, ?_⟩
      have hx' := hx.same st
      generalize upd H t (.tup [.ty "list", .ty "tuple"]) = H1 at st hx' ⊢
      cases e : (dL d || dT d) with
      | false =>
        refine iteT ?_
        have n : okF d = false := by unfold okF; rw [e, Bool.false_and]
        rw [n] at q
        exact q _ st
      | true =>
        refine iteF ?_
        have ok : okF d = (itemsD d).all facD := by unfold okF; rw [e, Bool.true_and]
        have step : ∀ {xs : List V} {ds : List PyData} {D : Addr}, DaAll H1 xs ds → ds.length ≤ 1000 → H1 D = none → ∀ (i : Nat) (y : V) (H5 H6 : Hp), i < xs.length → (Same H1 H5 ∧ H5 D = some (.lst ((ds.take i).map fun d => V.bl (facD d)))) → YAt xs i H5 y H6 →
            gName 1 y (wipe (L2.start ["thing", "factor"] [x]) [1]) H6 fun σ2 G2 => wipe σ2 [1] = wipe (L2.start ["thing", "factor"] [x]) [1] ∧ tYes σ2 G2 fun b G3 =>
              if b = true then (tAndV (tCall spIsInt [] E0 (tCons (tVar 1) tNil)) (tOp (rI0 fun i j => V.bl (decide (j ≤ i))) (tVar 1) (tC (V.int 0)))) σ2 G3 fun y G4 => ∃ acc, G4 D = some (.lst acc) ∧ acc.length < sizeLine ∧ (Same H1 (upd G4 D (.lst (acc ++ [y]))) ∧ (upd G4 D (.lst (acc ++ [y]))) D = some (.lst ((ds.take (i + 1)).map fun d => V.bl (facD d)))) else (Same H1 G3 ∧ G3 D = some (.lst ((ds.take (i + 1)).map fun d => V.bl (facD d)))) := by
          intro xs ds D hall hfew nD i y H5 H6 hi hP hY
          obtain ⟨rfl, ey⟩ := hY
          obtain ⟨s5, hD⟩ := hP
          obtain ⟨dy, ed, hy⟩ := hall.get ey
          refine ⟨rfl, ?_⟩
          unfold tYes
          dsimp only
          rw [if_pos rfl]
          have fin : ∀ v, v = V.bl (facD dy) → ∃ acc, H6 D = some (.lst acc) ∧ acc.length < sizeLine ∧ (Same H1 (upd H6 D (.lst (acc ++ [v]))) ∧ (upd H6 D (.lst (acc ++ [v]))) D = some (.lst ((ds.take (i + 1)).map fun d => V.bl (facD d)))) := by
            rintro v rfl
            refine ⟨_, hD, ?_, same_at s5 nD, ?_⟩
            · rw [List.length_map, List.length_take]
              exact small1000 (by omega)
            · rw [upd_same, List.take_add_one, ed, List.map_append]
              rfl
          refine ⟨_, rfl, ⟨y, dy, rfl, hy.same s5, _, rfl, ?_⟩⟩
          cases e9 : (dI dy && !dB dy) with
          | false =>
            refine iteF ?_
            exact fin _ (by rw [fac_and, e9]; rfl)
          | true =>
            refine iteT ?_
            obtain ⟨iv, rfl⟩ : ∃ iv, dy = .int iv := by cases dy <;> first | exact ⟨_, rfl⟩ | cases e9
            cases hy
            exact ⟨_, rfl, _, _, rfl, rfl, fin _ rfl⟩
        cases hx' with
        | @lst a xs ds e2 hall =>
          have lx := hall.length
          refine ⟨_, rfl, a, rfl, .inl ⟨⟨_, .inl (.inl e2)⟩, fun D nD => ?_⟩⟩
          refine lc_it (walk_list (xs := xs)) (fun i H5 => Same H1 H5 ∧ H5 D = some (.lst ((ds.take i).map fun d => V.bl (facD d)))) ⟨same_upd nD, upd_same⟩ (fun i H5 _ h => .inl (.inl (h.1 _ _ e2))) (step hall few nD) ?_
          rintro H5 ⟨s5, hD⟩
          rw [lx, List.take_length] at hD
          refine ⟨D, (ds.map facD), rfl, .inl (.inl (by rw [hD, List.map_map]; rfl)), ?_⟩
          have hn : ((ds.map facD).all id) = okF (.list ds) := by
            rw [ok, List.all_map]
            rfl
          rw [hn]
          exact q H5 (st.trans s5)
        | @tup a xs ds e2 hall =>
          have lx := hall.length
          refine ⟨_, rfl, a, rfl, .inr ⟨⟨_, .inl e2⟩, fun D nD => ?_⟩⟩
          refine lc_it (walk_tup (xs := xs)) (fun i H5 => Same H1 H5 ∧ H5 D = some (.lst ((ds.take i).map fun d => V.bl (facD d)))) ⟨same_upd nD, upd_same⟩ (fun i H5 _ h => .inl (rd_same e2 h.1)) (step hall few nD) ?_
          rintro H5 ⟨s5, hD⟩
          rw [lx, List.take_length] at hD
          refine ⟨D, (ds.map facD), rfl, .inl (.inl (by rw [hD, List.map_map]; rfl)), ?_⟩
          have hn : ((ds.map facD).all id) = okF (.tuple ds) := by
            rw [ok, List.all_map]
            rfl
          rw [hn]
          exact q H5 (st.trans s5)
        | _ => cases e
    · refine ⟨x, t, _, _, _, false, rfl, upd_same, .cons (.ty "list") (.cons (.ty "tuple") .nil), keep _ st, hk, _, rfl, ?_⟩
      refine iteT ?_
      exact q _ st
end
end My

namespace My
open PySem PySem.Spec PyProof.Rows L2
/-! ### the errors and the class -/
abbrev i_TooMany : Stmt := inClass (topS 3) 0
theorem sup_TooMany : SupScope ["self", "limit"] ["self", "limit"] (defScope i_TooMany) := ⟨rfl, rfl, rfl, by decide +kernel, rfl, by decide +kernel, by decide +kernel, by decide +kernel, by decide +kernel, by decide +kernel⟩
abbrev s_Layoutinit : Stmt := inClass (topS 25) 0
theorem sc_Layoutinit : FnScope ["self", "factors"] ["self", "factors"] (defScope s_Layoutinit) := ⟨rfl, rfl, rfl, by decide +kernel, rfl, by decide +kernel, by decide +kernel⟩
/-- C(v): one field -/
def spErr1 (C : Addr) (f : Str) (M : V → Prop) : Sp := fun vs H Q _ => ∃ a v, vs = [.ref a, v] ∧ H a = some (exo a C none) ∧ M v ∧ ∀ d, H d = none → d ≠ a → Q .non (upd (upd H d (exd d [(f, v)])) a (exo a C (some d)))
/-- an int that is shown -/
def IntV (v : V) : Prop := ∃ i : Int, v = .int i ∧ i.natAbs < 10 ^ 30
theorem IntV.log {i : Int} (h : i.natAbs < 10 ^ 30) : i.natAbs.log2 < 1920 := by
  by_cases z : i.natAbs = 0
  · rw [z]
    decide
  · exact (Nat.log2_lt z).mpr (Nat.lt_trans h (by decide))
theorem IntV.txt {i : Int} (h : i.natAbs < 10 ^ 30) : (Str.ofString (toString i)).length ≤ 1921 := by
  rw [PySem.ofString_length]
  exact int_text_length_le (by decide) (IntV.log h)
theorem app_len {a b : Str} {m n : Nat} (h1 : a.length ≤ m) (h2 : b.length ≤ n) : (a ++ b).length ≤ m + n := by
  rw [strLen_append]
  exact Nat.add_le_add h1 h2
theorem le_line {a : Str} {m : Nat} (h : a.length ≤ m) (hm : m ≤ 9000) : a.length ≤ sizeLine := by
  rw [sizeLine_eq]
  omega
structure SupD where
  C : Addr
  fI : Addr
  cc : Addr
  cda : Addr
  fd : FuncData
structure PlainCls (K : PySem.W.Frag) (mg : Str → Option Value) (x : Str) (C : Addr) : Prop where
  gC : mg x = some (.ref C)
  q : PySem.W.excIn K C [.type "ValueError", .type "Exception", .type "BaseException", .type "object"] "ValueError.__new__" = true
  kC : PySem.W.keepIn K (.ref C) = true
abbrev SupOf (P : Program) (K : PySem.W.Frag) (mg : Str → Option Value) (x qual : Str) (st : Stmt) (d : SupD) : Prop := SupCls P K mg x qual st d.C d.fI d.cc d.cda d.fd
/-- the classes that the text makes -/
structure LayD where
  too : SupD
  no : Addr
  lay : Addr
structure LayF (P : Program) (K : PySem.W.Frag) (mg : Str → Option Value) (d : LayD) : Prop where
  too : SupOf P K mg "TooMany" "TooMany.__init__" i_TooMany d.too
  noL : PySem.W.findIn K (.ref d.too.C) "limit" = some none
  no : PlainCls K mg "NoLayout" d.no
  noB : PySem.W.subIn K (.ref d.no) (.type "BaseException") = some true
  noT : PySem.W.typeIn K (.ref d.no) = some (.type "type")
  lay : Cls K d.lay
  gLay : mg "Layout" = some (.ref d.lay)
  exNN : PySem.W.exmOne K (.ref d.no) (.ref d.no) = some true
  exTN : PySem.W.exmOne K (.ref d.too.C) (.ref d.no) = some false
  exTT : PySem.W.exmOne K (.ref d.too.C) (.ref d.too.C) = some true
  xf : XfC K d.too.C
  naF : NoAttr K d.lay "factors"
  naD : NoAttr K d.lay "degree"
structure TxtY (mg : Str → Option Value) (tD : Tok) : Prop where
  n_len : mg "len" = none
  g_MOST_DEGREE : mg "MOST_DEGREE" = some (.int 40 tD)
/-- all stays but what stands at x -/
def Kp (x : Addr) (H H' : Hp) : Prop := ∀ b o, H b = some o → b ≠ x → H' b = some o
/-- the ints of a thing that is factors -/
def intsD (d : PyData) : List Int := (itemsD d).filterMap fun | .int i => some i | _ => none
theorem ints_of {H : Hp} : ∀ {ds : List PyData} {xs : List V}, DaAll H xs ds → ds.all facD = true → xs = (ds.filterMap fun | .int i => some i | _ => none).map V.int
  | _, _, .nil, _ => rfl
  | _, _, .cons (d := d) h t, e => by
    rw [List.all_cons, Bool.and_eq_true] at e
    have r := ints_of t e.2
    cases h with
    | int i =>
      rw [List.filterMap_cons]
      show _ :: _ = _ :: _
      rw [r]
    | _ => exact absurd e.1 Bool.false_ne_true
theorem Da.ints {H : Hp} {x : V} {d : PyData} (h : Da H x d) (e : okF d = true) : ∃ a, x = .ref a ∧ IntsAt H a (intsD d) := by
  unfold okF at e
  rw [Bool.and_eq_true] at e
  cases h with
  | lst e2 hall => exact ⟨_, rfl, .inl (by rw [e2, ints_of hall e.2]; rfl)⟩
  | tup e2 hall =>
    refine ⟨_, rfl, .inr ?_⟩
    have r := ints_of hall e.2
    rw [r] at e2
    exact e2
  | _ => exact absurd e.1 Bool.false_ne_true
theorem ints_len (d : PyData) : (intsD d).length ≤ (itemsD d).length := List.length_filterMap_le _ _
structure spLay (K : PySem.W.Frag) (D : LayD) (vs : List V) (H : Hp) (Q : VK) (E : XK) : Prop where
  ex : ∃ x dx y, vs = [.ref x, y] ∧ H x = some (.ins D.lay dx []) ∧
    ((∃ d, Da H y d ∧ (itemsD d).length ≤ 1000 ∧
      (okF d = false → ∀ H', Kp x H H' → E (.ref D.no) none H') ∧
      (okF d = true → 41 < (trimN (intsD d)).length → ∀ H' e, Kp x H H' → H' e = some (.xd [("limit", .int 40)]) → E (.ref D.too.C) (some e) H') ∧
      (okF d = true → (trimN (intsD d)).length ≤ 41 → ∀ H' r, Kp x H H' → H' x = some (.ins D.lay dx [("factors", .ref r), ("degree", .int ((trimN (intsD d)).length - 1 : Int))]) → Rd H' r (.tup ((trimN (intsD d)).map V.int)) → Q .non H')) ∨
     (∃ ty, TyX K H y (.type ty) ∧ (∀ H', Same H H' → TyX K H' y (.type ty)) ∧ PySem.W.kitAny K (.type ty) [.type "list", .type "tuple"] = some false ∧ ∀ H', Kp x H H' → E (.ref D.no) none H'))
theorem kp_of {H H' : Hp} {x : Addr} (s : Same H H') : Kp x H H' := fun b o e _ => s b o e
section
variable {P : Program} {w : World} {K : PySem.W.Frag} {mg : Str → Option Value} {base : Heap}
theorem bd_TooMany {C fI cc cda : Addr} {fd : FuncData} (T : SupCls P K mg "TooMany" "TooMany.__init__" i_TooMany C fI cc cda fd) : Binds K fd ["self", "limit"] [] := by
  obtain ⟨oc, od, doc, pm, an, ct, osl, rfl, lk⟩ := T.fn
  exact .all fun us hl => match us, hl with | [_, _], _ => rfl
theorem ok_TooMany {C fI cc cda : Addr} {fd : FuncData} {k : Nat} (T : SupCls P K mg "TooMany" "TooMany.__init__" i_TooMany C fI cc cda fd) (hno : PySem.W.findIn K (.ref C) "limit" = some none) : FnOk P w K mg base CX0 (k + 1) fI fd ["self", "limit"] (spErr1 C "limit" IntV) := by
  refine ok_sup T sup_TooMany rfl rfl rfl (fun _ => rfl) (fun _ => rfl) (fun vs H Q E h => ?_) (fun A outer s H vs Q E hr h => ?_)
  · obtain ⟨a, v, rfl, _⟩ := h
    rfl
  · obtain ⟨a, v, rfl, ha, ⟨i, rfl, hi⟩, q⟩ := h
    refine ⟨a, _, _, rfl, ha, pe_joined (.cons pe_str (.cons (pe_fmt (pv 1)) (.cons pe_str .nil))), pss_one (ps_ost (pv 0) (pv 1)), ?_⟩
    refine ⟨_, rfl, le_line (m := 60) (by decide) (by decide), _, rfl, .inr ⟨i, rfl, IntV.log hi, _, rfl, le_line (app_len (m := 60) (by decide) (IntV.txt hi)) (by decide), _, rfl, le_line (app_len (n := 60) (app_len (m := 60) (by decide) (IntV.txt hi)) (by decide)) (by decide), ?_⟩⟩
    exact ⟨ha, _, rfl, _, rfl, a, C, rfl, T.ox, hno, .inl ⟨ha, fun d hd ne => q d hd ne⟩⟩
theorem ok_Layoutinit {d : LayD} {tD : Tok} {f f1 f2 : Addr} {fd fd1 fd2 : FuncData} {k : Nat} (F : Fun K "__init__" "Layout.__init__" s_Layoutinit f fd) (T : TxtY mg tD) (D : LayF P K mg d)
    (F_are_factors : Fun K "are_factors" "are_factors" s_are_factors f1 fd1) (b_are_factors : Binds K fd1 ["thing"] []) (g_are_factors : mg "are_factors" = some (.ref f1)) (G_are_factors : FnOk P w K mg base CX0 2 f1 fd1 ["thing"] (spFactors K))
    (F_trimmed : Fun K "trimmed" "trimmed" s_trimmed f2 fd2) (b_trimmed : Binds K fd2 ["factors"] []) (g_trimmed : mg "trimmed" = some (.ref f2)) (G_trimmed : FnOk P w K mg base CX0 1 f2 fd2 ["factors"] spTrim) :
    FnOk P w K mg base (L2.CX P w) (k + 3) f fd ["self", "factors"] (spLay K d) := by
  refine F.okX sc_Layoutinit (fun vs H Q E h => ?_) (fun cdv A outer s H vs Q E hr h => ?_)
  · obtain ⟨x, dx, y, rfl, _⟩ := h
    rfl
  · obtain ⟨x, dx, y, rfl, hx, h⟩ := h
    refine ⟨_, (pss_cons (ps_if (pt_not (pt_val (pe_call G_are_factors (hr.mono (by omega)) (by rfl) g_are_factors F_are_factors.kp b_are_factors .nil pass0 (pa_cons (pv 1) pa_nil))))
   (pss_one (ps_raise rfl (takes_of rfl rfl rfl rfl) (pmk_own PySem.F.excBase_ValueError D.no.q D.no.gC D.no.kC (raises_own D.noB D.noT) (by exact rfl))))
   pss_nil)
  (pss_cons (ps_fld (pv 0) (pe_call G_trimmed (hr.mono (by omega)) (by rfl) g_trimmed F_trimmed.kp b_trimmed .nil pass0 (pa_cons (pv 1) pa_nil)) rfl)
  (pss_cons (ps_fld (pv 0) (pe_op op_sub (pe_callB call_len_seq (by rfl) T.n_len (by decide +kernel) (pa_cons (pe_fld (pv 0) rfl) pa_nil)) pe_int) rfl)
  (pss_one (ps_if (pt_cmpR op_gt (pe_fld (pv 0) rfl) (pe_glob (v := .int 40) (by rfl) T.g_MOST_DEGREE ⟨_, rfl⟩) (nomark _))
   (pss_one (ps_raise rfl (takes_of rfl rfl rfl rfl) (pmk_oex D.too.ox D.too.iC D.too.tI (ok_TooMany (k := 0) D.too D.noL) (hr.mono (by omega)) (bd_TooMany D.too) .nil pass0 (by rfl) D.too.gC (pa_cons (pe_glob (v := .int 40) (by rfl) T.g_MOST_DEGREE ⟨_, rfl⟩) pa_nil))))
   pss_nil))))), ?_⟩
    clear G_are_factors G_trimmed
    rcases h with ⟨t, hy, few, q1, q2, q3⟩ | ⟨ty, hty, keep, hk, q⟩
    · refine ⟨_, rfl, ⟨y, rfl, .inl ⟨t, hy, few, fun H1 s1 => ?_⟩⟩⟩
      refine ⟨_, rfl, ?_⟩
      cases e : okF t with
      | false =>
        refine iteT ?_
        exact q1 e H1 (kp_of s1)
      | true =>
        refine iteF ?_
        obtain ⟨a, rfl, ia⟩ := hy.ints e
        generalize hns : intsD t = ns at q2 q3 ia
        have lns : ns.length ≤ 1000 := by
          rw [← hns]
          exact Nat.le_trans (ints_len t) few
        refine ⟨_, rfl, ⟨a, ns, rfl, ia.same s1, lns, fun r H2 s2 er => ?_⟩⟩
        have k2 : Kp x H H2 := kp_of (s1.trans s2)
        have hx2 := s2 _ _ (s1 _ _ hx)
        refine ⟨_, rfl, x, d.lay, dx, _, rfl, hx2, D.lay, D.naF, by decide, ?_⟩
        have rx : r ≠ x := by
          rintro rfl
          rcases er with z | ⟨o, z⟩ <;> (rw [hx2] at z; cases z)
        have er3 : Rd (upd H2 x (.ins d.lay dx [("factors", .ref r)])) r (.tup ((trimN ns).map V.int)) := by
          rcases er with z | ⟨o, z⟩
          · exact .inl (by rw [upd_ne rx]; exact z)
          · exact .inr ⟨o, by rw [upd_ne rx]; exact z⟩
        have k3 : Kp x H (upd H2 x (.ins d.lay dx [("factors", .ref r)])) := fun b o eb nb => by
          rw [upd_ne nb]
          exact k2 b o eb nb
        have hx3 : (upd H2 x (.ins d.lay dx [("factors", .ref r)])) x = some (.ins d.lay dx [("factors", .ref r)]) := upd_same
        have e3 : upd H2 x (.ins d.lay dx (putF "factors" (.ref r) [])) = upd H2 x (.ins d.lay dx [("factors", .ref r)]) := rfl
        rw [e3]
        generalize upd H2 x (.ins d.lay dx [("factors", .ref r)]) = H3 at hx3 er3 k3 ⊢
        refine ⟨_, rfl, x, d.lay, dx, _, .ref r, rfl, hx3, D.lay, D.naF, rfl, r, _, rfl, .inr (.inl er3), ?_⟩
        refine ⟨_, _, rfl, rfl, _, rfl, x, d.lay, dx, _, rfl, hx3, D.lay, D.naD, by show 1 < 1000; decide, ?_⟩
        rw [List.length_map]
        have e4 : ∀ v, upd H3 x (.ins d.lay dx (putF "degree" v [("factors", .ref r)])) = upd H3 x (.ins d.lay dx [("factors", .ref r), ("degree", v)]) := fun v => rfl
        rw [e4]
        have hx4 : ∀ v, (upd H3 x (.ins d.lay dx [("factors", .ref r), ("degree", v)])) x = some (.ins d.lay dx [("factors", .ref r), ("degree", v)]) := fun v => upd_same
        have k4 : ∀ v, Kp x H (upd H3 x (.ins d.lay dx [("factors", .ref r), ("degree", v)])) := fun v b o eb nb => by
          rw [upd_ne nb]
          exact k3 b o eb nb
        have er4 : ∀ v, Rd (upd H3 x (.ins d.lay dx [("factors", .ref r), ("degree", v)])) r (.tup ((trimN ns).map V.int)) := fun v => by
          rcases er3 with z | ⟨o, z⟩
          · exact .inl (by rw [upd_ne rx]; exact z)
          · exact .inr ⟨o, by rw [upd_ne rx]; exact z⟩
        generalize trimN ns = ts at q2 q3 er4 ⊢
        specialize hx4 (.int ((ts.length : Nat) - 1))
        specialize k4 (.int ((ts.length : Nat) - 1))
        specialize er4 (.int ((ts.length : Nat) - 1))
        generalize upd H3 x (.ins d.lay dx [("factors", .ref r), ("degree", .int ((ts.length : Nat) - 1))]) = H4 at hx4 k4 er4 ⊢
        refine ⟨_, rfl, x, d.lay, dx, _, .int ((ts.length : Nat) - 1), rfl, hx4, D.lay, D.naD, rfl, _, _, rfl, rfl, _, rfl, ?_⟩
        by_cases big : 41 < ts.length
        · rw [decide_eq_true (show (40 : Int) < (ts.length : Nat) - 1 by omega)]
          refine iteT ?_
          refine ⟨by show 1 ≤ 1000; decide, fun a0 na => ?_⟩
          refine ⟨a0, .int 40, rfl, upd_same, ⟨40, rfl, by decide⟩, fun e0 ne0 nea => ?_⟩
          have n4 : H4 e0 = none := by
            rw [upd_ne nea] at ne0
            exact ne0
          refine ⟨rfl, e0, [("limit", .int 40)], upd_same, ?_, n4, ?_⟩
          · rw [upd_ne nea, upd_same]
          · refine q2 e big _ e0 (fun b o eb nb => ?_) upd_same
            have z := k4 b o eb nb
            have z1 := ne_of_none z n4
            have z2 := ne_of_none z na
            rw [upd_ne z1, del_ne z2, upd_ne z2, upd_ne z1, upd_ne z2]
            exact z
        · rw [decide_eq_false (show ¬ (40 : Int) < (ts.length : Nat) - 1 by omega)]
          refine iteF ?_
          exact q3 e (by omega) H4 r k4 hx4 er4
    · refine ⟨_, rfl, ⟨y, rfl, .inr ⟨ty, hty, keep, hk, fun H1 s1 => ?_⟩⟩⟩
      refine ⟨_, rfl, ?_⟩
      refine iteT ?_
      exact q H1 (kp_of s1)
end
end My

namespace My
open PySem PySem.Spec PyProof.Rows L2
/-! ### new lists that are not the table of modules; repr of such a list with {} in it -/
def rCatN : R2 := fun x y H Q => ∃ l b xs zs, x = .ref l ∧ y = .ref b ∧ H l = some (.lst xs) ∧ H b = some (.lst zs) ∧ xs.length + zs.length ≤ sizeLine ∧ ∀ p, H p = none → p ≠ sysModules → Q (.ref p) (upd H p (.lst (xs ++ zs)))
theorem op_catN {X : Cx} : OpR X (binaryOp .Add) rCatN := by
  rintro pins s σ H x y v u Q I rx ry ⟨l, b, xs, zs, rfl, rfl, hl, hb, fits, q⟩
  cases rx
  cases ry
  obtain ⟨_, i1, _, v1, n1, g1⟩ := I.lstM hl
  obtain ⟨_, i2, _, v2, n2, g2⟩ := I.lstM hb
  refine PySem.P.add_list g1 g2 ?_ ?_
  · rw [show i1.toArray ++ i2.toArray = (i1 ++ i2).toArray by simp]
    have far : s.heap.objs.size ≠ sysModules := Nat.ne_of_gt I.big
    refine ⟨.ref _, _, I.lnew (t' := s.toks) (v1.append v2) ?_, rfl, q _ I.fresh far⟩
    rw [List.length_append]
    exact fits
  · rw [List.size_toArray, List.size_toArray]
    omega
def tRevLN (K : PySem.W.Frag) (te : TE) : TE := fun σ H Q => te σ H fun x H1 => ∃ a xs, x = .ref a ∧ SqL K H1 a xs ∧ ∀ p, H1 p = none → p ≠ sysModules → Q (.ref p) (upd H1 p (.lst xs.reverse))
theorem pe_revLN {X : Cx} {e : Expr} {te : TE} {k : Nat} {p1 p2 p3 pos : Pos} (he : PE X e te) : PE X (.Subscript e (.Slice none none (some (.UnaryOp .USub (.Constant (.int 1) k p1) p2)) p3) pos) (tRevLN X.K te) := by
  refine ⟨fun pins s σ H Q I h => Subscript_ (thn (he.run pins s σ H _ I h) fun v s1 hv => ?_)⟩
  obtain ⟨x, H1, I1, r1, a, xs, rfl, hx, q⟩ := hv
  cases r1
  have part : PO X (some (.UnaryOp .USub (.Constant (.int 1) k p1) p2)) (tPart (tUn (rU fun i => .int (-i)) (tC (.int 1)))) := po_some (pe_un un_neg pe_int)
  refine wpAny_Slice (thn (po_none.run pins s1 σ H1 (fun o H2 => o = none ∧ H2 = H1) I1 ⟨rfl, rfl⟩) fun vl s2 h2 => ?_)
  obtain ⟨_, H2, I2, pl, rfl, rfl⟩ := h2
  refine thn (po_none.run pins s2 σ H2 (fun o H3 => o = none ∧ H3 = H2) I2 ⟨rfl, rfl⟩) fun vu s3 h3 => ?_
  obtain ⟨_, H3, I3, pu, rfl, rfl⟩ := h3
  refine thn (part.run pins s3 σ H3 (fun o H4 => o = some (-1) ∧ H4 = H3) I3 ⟨1, rfl, -1, rfl, rfl, rfl⟩) fun vs s4 h4 => ?_
  obtain ⟨_, H4, I4, ps, rfl, rfl⟩ := h4
  have I5 : Inv X pins σ H4 { s4 with heap := s4.heap.push { cls := .type "slice", data := .fields #[vl, vu, vs] } } := I4.kept (t' := s4.toks) fun b ob q => Heap.get?_push_of_some _ q
  obtain ⟨its, r, ht, hz⟩ := I5.list hx
  have hlen := r.length
  show wpAny (model X.prog X.w) X.A (subscriptTail e (.Slice none none (some (.UnaryOp .USub (.Constant (.int 1) k p1) p2)) p3) (.ref a) (.ref s4.heap.objs.size)) (EP X pins σ Q) X.xe { s4 with heap := s4.heap.push { cls := .type "slice", data := .fields #[vl, vu, vs] } }
  refine tail_any (ops := [.ref a, .ref s4.heap.objs.size]) (ht.isList.typeIs) (PySem.slot_list_getitem.lookup) ?_ (by with_unfolding_all rfl)
  refine wpAny_getItem_list_slice ht.isList (Heap.IsSliceOf.new _ vl vu vs) pl pu ps (by decide) ?_ (by rw [List.size_toArray]; omega)
  rw [PySem.W.krv_pick]
  have room : xs.reverse.length ≤ sizeLine := by rw [List.length_reverse]; exact hz
  exact ⟨.ref _, _, I5.laid (t' := s4.toks) (o := .lst xs.reverse) (fun b ob q => Heap.get?_push_of_some _ q) (Nat.le_refl _) ⟨room, _, 0, r.reverse, Heap.get?_push_size _ rfl⟩, rfl, q _ (I5.hok.fresh (Nat.le_refl _)) (Nat.ne_of_gt I5.big)⟩
/-- a list at an address of its own: its items hold no other list -/
structure rReprL (xs : List V) (H : Hp) (Q : VK) : Prop where
  ex : ∃ a ys ds, xs = [.ref a] ∧ a ≠ sysModules ∧ H a = some (.lst ys) ∧ DaAll H ys ds ∧ noLs ds = true ∧ (PyData.list ds).showable = true ∧ (PyData.list ds).depth ≤ 60 ∧ (PyData.list ds).shown.length ≤ sizeLine ∧ Q (.str (PyData.list ds).shown) H
def rReprE (xs : List V) (H : Hp) (Q : VK) : Prop := rReprD xs H Q ∨ rReprL xs H Q
theorem call_reprE {X : Cx} (quiet : X.A.guards = some []) (hu : X.A.units + 64 < cLine) : CallR X (.builtin "repr") rReprE := by
  rintro pins s σ H xs us Q I r (h | ⟨a, ys, ds, rfl, far, ha, hall, no, h1, h3, h4, q⟩)
  · exact call_reprD quiet hu pins s σ H xs us Q I r h
  · obtain ⟨u, rfl, ru⟩ := vals1 r
    cases (show u = Value.ref a from ru)
    obtain ⟨_, its, n, rv, ho⟩ := I.hok _ _ ha
    obtain ⟨as, ra, nas⟩ := Da.readsAll I ds _ its hall rv
    have rd : Reads s.heap (.ref a) (.list ds) (a :: as) := .list ho rfl rfl (by simpa using ra)
    have off : (PyData.list ds).hasDict = true → sysModules ∉ a :: as := fun _ m => by
      rcases List.mem_cons.mp m with m | m
      · exact far m.symm
      · exact nas no m
    exact PySem.repr_of_reads' rd h1 off quiet (by omega) (fun _ _ z => z) (fun h' v tk k => ⟨.str (PyData.list ds).shown, H, I.kept k, ⟨_, rfl⟩, q⟩) h4
end My

namespace My
open PySem PySem.Spec PyProof.Rows L2
/-! ### small data, and how long their repr is (ints below 10 ^ 50) -/
mutual
/-- how many tuples and lists there are -/
def nodes : PyData → Nat
  | .tuple ds => 1 + nodesL ds
  | .list ds => 1 + nodesL ds
  | .none | .bool _ | .int _ | .str _ | .dict _ => 1
def nodesL : List PyData → Nat
  | [] => 0
  | d :: r => nodes d + nodesL r
end
theorem nodesL_app : ∀ a b : List PyData, nodesL (a ++ b) = nodesL a + nodesL b
  | [], b => by simp [nodesL]
  | d :: r, b => by
    rw [List.cons_append]
    simp only [nodesL]
    rw [nodesL_app r b, Nat.add_assoc]
mutual
def smB : PyData → Bool
  | .str z => decide (z.length ≤ 100) && z.cps.toList.all fun c => decide (c < 1114112)
  | .int i => decide (i.natAbs < 10 ^ 50)
  | .tuple ds => smL ds
  | .list ds => smL ds
  | .dict kvs => kvs.isEmpty
  | .none | .bool _ => true
def smL : List PyData → Bool
  | [] => true
  | d :: r => smB d && smL r
end
theorem sm_str {z : Str} (h : smB (.str z) = true) : z.length ≤ 100 ∧ ∀ c ∈ z.cps.toList, c < 1114112 := by
  simp only [smB, Bool.and_eq_true, decide_eq_true_eq, List.all_eq_true] at h
  exact h
theorem textFrom_piled : ∀ (ts : List Str) (k : Nat) (acc : Str), (textFrom k acc ts).length ≤ acc.length + piled ts
  | [], k, acc => by
    show acc.length ≤ acc.length + _
    omega
  | t :: r, k, acc => by
    have ih := textFrom_piled r (k + 1) (acc ++ (if k > 0 then ", " else "" : String) ++ t)
    have e : (acc ++ (if k > 0 then ", " else "" : String) ++ t : Str).length ≤ acc.length + 2 + t.length := by
      rw [strLen_append, strLen_append]
      have z : ((if k > 0 then ", " else "" : String) : Str).length ≤ 2 := by
        split
        · exact Nat.le_refl 2
        · exact Nat.zero_le 2
      omega
    rw [piled_cons]
    show (textFrom (k + 1) _ r).length ≤ _
    omega
theorem listText_piled (ts : List Str) : (listText ts).length ≤ 2 + piled ts := by
  have z := textFrom_piled ts 0 "["
  unfold listText
  rw [strLen_append]
  have e1 : ("[" : Str).length = 1 := rfl
  have e2 : ("]" : Str).length = 1 := rfl
  omega
theorem tupleText_piled (ts : List Str) : (tupleText ts).length ≤ 3 + piled ts := by
  unfold tupleText
  rw [strLen_append, strLen_append]
  have e1 : ("(" : Str).length = 1 := rfl
  have e2 : ((if ts.length == 1 then ",)" else ")" : String) : Str).length ≤ 2 := by
    split
    · exact Nat.le_refl 2
    · exact Nat.le_succ 1
  cases ts with
  | nil =>
    have e3 : (Str.join ", " []).length = 0 := rfl
    omega
  | cons t r =>
    have y := join_length_add (t :: r) (fun z => nomatch z)
    omega
theorem int_log {i : Int} (h : i.natAbs < 10 ^ 50) : i.natAbs.log2 < 1920 := by
  by_cases z : i.natAbs = 0
  · rw [z]
    decide
  · have y := (Nat.log2_lt z (k := 1920)).mpr (Nat.lt_trans h (by decide))
    exact y
mutual
theorem sm_show : ∀ d : PyData, smB d = true → d.showable = true ∧ d.shown.length + 5 ≤ 2010 * nodes d
  | .none, _ => by
    refine ⟨by simp only [PyData.showable], ?_⟩
    simp only [nodes]
    exact Nat.le_trans (show (PyData.none).shown.length + 5 ≤ 100 by decide +kernel) (by decide)
  | .bool b, _ => by
    refine ⟨by simp only [PyData.showable], ?_⟩
    simp only [nodes]
    cases b
    · exact Nat.le_trans (show (PyData.bool false).shown.length + 5 ≤ 100 by decide +kernel) (by decide)
    · exact Nat.le_trans (show (PyData.bool true).shown.length + 5 ≤ 100 by decide +kernel) (by decide)
  | .int i, h => by
    simp only [smB, decide_eq_true_eq] at h
    have l := int_log h
    refine ⟨by simp only [PyData.showable, decide_eq_true_eq]; exact l, ?_⟩
    simp only [nodes, PyData.shown]
    have z : (Str.ofString (toString i)).length ≤ 1921 := by
      rw [PySem.ofString_length]
      exact int_text_length_le (by decide) l
    omega
  | .str z, h => by
    obtain ⟨h1, h2⟩ := sm_str h
    refine ⟨by simp only [PyData.showable], ?_⟩
    have rt := PySem.StrLaws.reprText_len z fun c hc => Nat.lt_trans (h2 c hc) (by decide)
    simp only [nodes]
    rw [PyData.shown]
    omega
  | .list ds, h => by
    simp only [smB] at h
    obtain ⟨a, b⟩ := sm_shows ds h
    refine ⟨by simp only [PyData.showable]; exact a, ?_⟩
    rw [PyData.shown]
    have y := listText_piled (PyData.shownAll ds)
    simp only [nodes]
    omega
  | .tuple ds, h => by
    simp only [smB] at h
    obtain ⟨a, b⟩ := sm_shows ds h
    refine ⟨by simp only [PyData.showable]; exact a, ?_⟩
    rw [PyData.shown]
    have y := tupleText_piled (PyData.shownAll ds)
    simp only [nodes]
    omega
  | .dict kvs, h => by
    simp only [smB, List.isEmpty_iff] at h
    subst h
    refine ⟨by simp only [PyData.showable, PyData.showableKv], ?_⟩
    simp only [nodes]
    exact Nat.le_trans (show (PyData.dict []).shown.length + 5 ≤ 100 by decide +kernel) (by decide)
theorem sm_shows : ∀ ds : List PyData, smL ds = true → PyData.showableAll ds = true ∧ piled (PyData.shownAll ds) ≤ 2010 * nodesL ds
  | [], _ => ⟨by simp only [PyData.showableAll], by simp [PyData.shownAll, piled]⟩
  | d :: r, h => by
    simp only [smL, Bool.and_eq_true] at h
    obtain ⟨a, b⟩ := sm_show d h.1
    obtain ⟨a', b'⟩ := sm_shows r h.2
    refine ⟨by simp only [PyData.showableAll, a, a', Bool.and_self], ?_⟩
    simp only [PyData.shownAll, nodesL]
    rw [piled_cons]
    omega
end
theorem smL_app : ∀ a b : List PyData, smL (a ++ b) = (smL a && smL b)
  | [], b => by simp [smL]
  | d :: r, b => by
    rw [List.cons_append]
    simp only [smL]
    rw [smL_app r b, Bool.and_assoc]
theorem smL_all (ds : List PyData) : smL ds = ds.all smB := by
  induction ds with
  | nil => simp [smL]
  | cons d r ih => simp only [smL, List.all_cons, ih]
theorem ne_self (x : V) : V.bl (!decide (x = x)) = V.bl false := by simp
end My

namespace My
open PySem PySem.Spec PyProof.Rows L2
/-! ### an instance's own special methods: len(o), bool(o), o[i], x in o, o + y; static methods; properties -/
/-- the class (or one above it) has a plain def of this name -/
structure OwnM (K : PySem.W.Frag) (C : Addr) (m : Str) (g : Addr) : Prop where
  at_ : PySem.W.findIn K (.ref C) m = some (some (.ref g))
  fn : PySem.W.isFn K (.ref g) = true
  fi : PySem.W.fnIn K g = true
  kp : PySem.W.keepIn K (.ref g) = true
theorem OwnM.meth {K : PySem.W.Frag} {C g : Addr} {m : Str} (M : OwnM K C m g) : Meth K C m g := ⟨M.at_, M.fn, M.kp⟩
/-- what is raised is never: a def whose promise wishes nothing of what it raises -/
theorem passE {P : Program} {w : World} {X : Cx} : Passes (L2.CX P w) X E0 := fun _ _ _ _ _ _ _ h => by
  obtain ⟨_, _, _, _, _, _, _, _, _, _, _, _, he⟩ := h
  exact False.elim he
section
variable {X : Cx} {CX : CXT} {k : Nat} {C g : Addr} {sp : Sp} {E : XK}
def rLenO (C : Addr) (sp : Sp) (E : XK) : List V → Hp → VK → Prop := fun xs H Q => ∃ a dx fs, xs = [V.ref a] ∧ H a = some (.ins C dx fs) ∧ sp [.ref a] H (fun v H' => ∃ n : Int, v = .int n ∧ 0 ≤ n ∧ n < 2 ^ 63 ∧ Q (.int n) H') E
theorem call_lenO (M : OwnM X.K C "__len__" g) (F : FnR X.prog X.w X.K X.mg X.base CX k g sp) (hr : Room (k + 1) X.A) (hx : Passes CX X E) : CallR X (.builtin "len") (rLenO C sp E) := by
  intro pins s σ H xs us Q I r h
  obtain ⟨a, dx, fs, rfl, ha, q⟩ := h
  obtain ⟨u, rfl, ru⟩ := vals1 r
  cases (show u = Value.ref a from ru)
  obtain ⟨mA, O, _⟩ := ins_get I.hok ha
  obtain ⟨od, J, _⟩ := O.look
  obtain ⟨m, hF⟩ := I.fr
  refine PySem.W.len_K hF I.ok.mod.kin J M.at_ M.fn (wpAny_mono (wpAny_call (SlX.run_at (us := [.ref a]) (ws := [.ref a]) F hr.in1 I.env0.in1 hx I (.cons rfl .nil) q)) (fun v s' z => ?_) fun _ _ x => x)
  obtain ⟨z', H', I', rz, n, ez, h0, h1, qz⟩ := z
  subst ez
  obtain ⟨t, e⟩ := (show ∃ t, v = Value.int n t from rz)
  cases e
  exact ⟨⟨h0, h1⟩, .int n, H', I'.tok _, ⟨_, rfl⟩, qz⟩
/-- an instance's truth -/
def rTruO (C : Addr) (sp : Sp) (E : XK) : V → Hp → (Bool → Hp → Prop) → Prop := fun x H Q => ∃ a dx fs, x = V.ref a ∧ H a = some (.ins C dx fs) ∧ sp [.ref a] H (fun v H' => ∃ b, v = .bl b ∧ Q b H') E
theorem truO {A : Around} {pins : List (Addr × Obj)} {s : Shared} {σ : L2.St} {H : Hp} {x : V} {v : Value} {Q : Bool → Hp → Prop} (M : OwnM X.K C "__bool__" g) (F : FnR X.prog X.w X.K X.mg X.base CX k g sp) (hr : Room k A)
    (e0 : Env0 X.prog X.w X.K X.mg X.base A X.stack s H) (hx : Passes CX X E) (I : Inv X pins σ H s) (rx : RelV x v) (h : rTruO C sp E x H Q) : wpAny (model X.prog X.w) A (truthy v) (TP X pins σ Q) X.xe s := by
  obtain ⟨a, dx, fs, rfl, ha, q⟩ := h
  cases (show v = Value.ref a from rx)
  obtain ⟨mA, O, _⟩ := ins_get I.hok ha
  obtain ⟨od, J, _⟩ := O.look
  obtain ⟨m, hF⟩ := I.fr
  refine PySem.W.truthy_K hF I.ok.mod.kin J M.at_ M.fn (wpAny_mono (wpAny_call (SlX.run_at (us := [.ref a]) (ws := [.ref a]) F hr e0 hx I (.cons rfl .nil) q)) (fun v s' z => ?_) fun _ _ x => x)
  obtain ⟨z', H', I', rz, b, ez, qz⟩ := z
  subst ez
  cases (show v = Value.bool b from rz)
  exact ⟨H', I', qz⟩
/-- bool(x), by what truthy says -/
theorem bool_new {prog : Program} {w : World} {A : Around} {R : Result → Shared → Prop} {s : Shared} {x : Value} {E : Value → Shared → Prop} (h : wpAny (model prog w) A.in1 (truthy x) (fun b s' => R (.ok (.ret (.bool b))) s') (fun e s' => R (.error e) s') s) :
    wpAny (model prog w) A.in1 (Builtin.«bool.__new__» ⟨[.type "bool", x], []⟩) (fun fin s' => match fin with | .done f => R (.ok f) s' | .again c' => c'.quiet = true ∧ codeAny (model prog w) A c' R s') (fun e s' => R (.error e) s') s := by
  have f1 := PySem.F.conv_sub_bool
  repeat (any_goals (first | assumption | (refine wpAny_bind (wpAny_mono h (fun _ _ z => ?_) fun _ _ z => z)) | wp_step))
theorem call_boolV {prog : Program} {w : World} {A : Around} {s : Shared} {x : Value} {Q E : Value → Shared → Prop} (h : wpAny (model prog w) A.in1.in1 (truthy x) (fun b s' => Q (.bool b) s') E s) : wpAny (model prog w) A (call (.type "bool") [x]) Q E s := by
  refine callType_codes (T := "bool") (Bi := Builtin.«object.__init__») (Q₁ := fun obj s₁ => s₁.TypeIs obj "bool" ∧ Q obj s₁) PySem.F.called_bool (PySem.F.typeCall_bool_1 x) PySem.F.entry_object_init ?_ ?_
  · refine codeAny_of_tree ?_
    show wpAny _ A.in1.in1 (do checkBuiltinCall "bool.__new__" ⟨[.type "bool", x], []⟩; again (.builtin "bool.__new__" ⟨[.type "bool", x], []⟩)) _ _ s
    refine wpAny_bind (wpAny_of_eq (PySem.F.newCall_bool_1 x) (wpAny_pure ⟨plainId_quiet (by decide +kernel) _, codeAny_builtin PySem.F.entry_bool_new ?_⟩))
    rw [Around.under_plainId (by decide +kernel) _]
    refine bool_new (A := A.in1) (R := PySem.wants (fun obj s₁ => s₁.TypeIs obj "bool" ∧ Q obj s₁) E) (E := E) (wpAny_mono h (fun b s' q => ?_) fun _ _ z => z)
    exact ⟨rfl, q⟩
  · rintro obj s₁ ⟨ht, hq⟩
    exact ⟨ht, PySem.F.args_object_init_2 _ _, object_init_meets PySem.F.called_bool.init.lookup PySem.F.called_bool.made (by decide) prog w A.in1 _ s₁ ⟨ht, rfl, hq⟩⟩
def rBoolO (C : Addr) (sp : Sp) (E : XK) : List V → Hp → VK → Prop := fun xs H Q => ∃ x, xs = [x] ∧ rTruO C sp E x H fun b H' => Q (.bl b) H'
theorem call_boolO (M : OwnM X.K C "__bool__" g) (F : FnR X.prog X.w X.K X.mg X.base CX k g sp) (hr : Room (k + 2) X.A) (hx : Passes CX X E) : CallR X (.type "bool") (rBoolO C sp E) := by
  intro pins s σ H xs us Q I r h
  obtain ⟨x, rfl, h⟩ := h
  obtain ⟨u, rfl, ru⟩ := vals1 r
  have hr2 : Room k X.A.in1.in1 := (show Room (k + 1) X.A.in1 from Room.in1 hr).in1
  refine call_boolV (wpAny_mono (truO M F hr2 I.env0.in1.in1 hx I ru h) (fun b s' z => ?_) fun _ _ z => z)
  obtain ⟨H', I', q⟩ := z
  exact ⟨.bl b, H', I', rfl, q⟩
/-- bool(a tuple) -/
def rBoolT (K : PySem.W.Frag) : List V → Hp → VK → Prop := fun xs H Q => ∃ a ys, xs = [V.ref a] ∧ SqT K H a ys ∧ Q (.bl (!ys.isEmpty)) H
theorem call_boolT : CallR X (.type "bool") (rBoolT X.K) := by
  intro pins s σ H xs us Q I r h
  obtain ⟨a, ys, rfl, hs, q⟩ := h
  obtain ⟨u, rfl, ru⟩ := vals1 r
  cases (show u = Value.ref a from ru)
  obtain ⟨its, rv, pl, hz⟩ := I.tuple hs
  have hl := line63
  have hlen := rv.length
  refine call_boolV (truthy_tuple pl (by simp only [List.size_toArray]; omega) ?_)
  exact ⟨.bl (!ys.isEmpty), H, I.tok _, by rw [isEmpty_of rv]; rfl, q⟩
/-- sum(a tuple of ints) -/
def rSumT (K : PySem.W.Frag) : List V → Hp → VK → Prop := fun vs H Q => ∃ (a : Addr) (ns : List Int), vs = [V.ref a] ∧ SqT K H a (ns.map V.int) ∧ Q (.int ns.sum) H
theorem call_sumT (hc : X.calm = true) : CallR X (.builtin "sum") (rSumT X.K) := by
  intro pins s σ H vs us Q I r h
  obtain ⟨a, ns, rfl, hs, q⟩ := h
  obtain ⟨its, rv, pl, _⟩ := I.tuple hs
  obtain ⟨u, rfl, ru⟩ := vals1 r
  cases (show u = Value.ref a from ru)
  have hi := rv.ints
  obtain ⟨xs, hx⟩ := hi.allInts.items
  have hn : numsOf its.toArray.toList = ns := by rw [show its.toArray.toList = its from rfl, hi.numsOf]
  have pl' : s.heap.IsTuple a its.toArray := pl
  rw [hx] at pl' hn
  rw [nums_intItems] at hn
  refine PySem.W.ktm_sumG (I.ok.hd hc) pl' fun h' tk t' hk => ?_
  rw [preSum_eq, List.take_of_length_le (by simp), hn]
  exact ⟨.int _, H, I.kept hk, ⟨_, rfl⟩, q⟩
/-- o[i] of an instance -/
def rIxO (C : Addr) (sp : Sp) (E : XK) : R2 := fun x y H Q => ∃ a dx fs, x = .ref a ∧ H a = some (.ins C dx fs) ∧ sp [.ref a, y] H Q E
def OwnIx (b : Expr) : Prop := ∀ o i, subscripted b true o i = runValue (.builtin "lifetime.subscript" ⟨[o, i], []⟩)
theorem pe_ixO {a b : Expr} {ta tb : TE} {pos : Pos} (M : OwnM X.K C "__getitem__" g) (F : FnR X.prog X.w X.K X.mg X.base CX k g sp) (hr : Room (k + 1) X.A) (hx : Passes CX X E) (ha : PE X a ta) (hb : PE X b tb) (hs : OwnIx b) :
    PE X (.Subscript a b pos) (tOp (rIxO C sp E) ta tb) := by
  refine ⟨fun pins s σ H Q I h => ?_⟩
  refine Subscript_ (binT ha hb I h fun v u s2 x y H2 I2 rx ry q => ?_)
  obtain ⟨a', dx, fs, rfl, ea, q⟩ := q
  cases (show v = Value.ref a' from rx)
  obtain ⟨mA, O, _⟩ := ins_get I2.hok ea
  obtain ⟨od, J, _⟩ := O.look
  obtain ⟨m, hF⟩ := I2.fr
  exact PySem.W.sub_K hF I2.ok.mod.kin J M.at_ M.fi M.fn (wpAny_call (SlX.run_at (us := [.ref a', u]) (ws := [.ref a', y]) F hr.in1 I2.env0.in1 hx I2 (.cons rfl (.cons ry .nil)) q)) (hs _ _)
/-- x in o of an instance: its __contains__ hands back a bool -/
def rInO (C : Addr) (sp : Sp) (E : XK) (f : Bool → Bool) : R2 := fun x y H Q => ∃ a dx fs, y = .ref a ∧ H a = some (.ins C dx fs) ∧ sp [.ref a, x] H (fun v H' => ∃ b, v = .bl b ∧ Q (.bl (f b)) H') E
theorem op_inO (M : OwnM X.K C "__contains__" g) (F : FnR X.prog X.w X.K X.mg X.base CX k g sp) (hr : Room k X.A) (hx : Passes CX X E) : OpR X (compareOp .In) (rInO C sp E id) := by
  intro pins s σ H x y v u Q I rx ry h
  obtain ⟨a, dx, fs, rfl, ea, q⟩ := h
  cases (show u = Value.ref a from ry)
  obtain ⟨mA, O, _⟩ := ins_get I.hok ea
  obtain ⟨od, J, _⟩ := O.look
  obtain ⟨m, hF⟩ := I.fr
  refine PySem.W.in_K hF I.ok.mod.kin J M.at_ M.fn (wpAny_mono (wpAny_call (run_fnR (us := [.ref a, v]) (vs := [.ref a, x]) F hr hx I (.cons rfl (.cons rx .nil)) q)) (fun z s' hz => ?_) fun _ _ z => z)
  obtain ⟨z', H', I', rz, b, ez, qz⟩ := hz
  subst ez
  cases (show z = Value.bool b from rz)
  exact wpAny_truthy_bool ⟨.bl b, H', I', rfl, qz⟩
/-- x op y by x's own method, y of the same class -/
def rBinO (C : Addr) (sp : Sp) (E : XK) : R2 := fun x y H Q => ∃ a dx fs b dy gs, x = .ref a ∧ H a = some (.ins C dx fs) ∧ y = .ref b ∧ H b = some (.ins C dy gs) ∧ sp [.ref a, .ref b] H Q E
theorem op_binO {op : Operator} {m : Str} (hm : PySem.dunder op.info.2 = m) (first : PySem.W.selfFirst X.K C = true) (M : OwnM X.K C m g) (F : FnR X.prog X.w X.K X.mg X.base CX k g sp) (hr : Room k X.A) (hx : Passes CX X E) : OpR X (binaryOp op) (rBinO C sp E) := by
  intro pins s σ H x y v u Q I rx ry h
  obtain ⟨a, dx, fs, b, dy, gs, rfl, ea, rfl, eb, q⟩ := h
  cases (show v = Value.ref a from rx)
  cases (show u = Value.ref b from ry)
  obtain ⟨mA, O, _⟩ := ins_get I.hok ea
  obtain ⟨od, J, _⟩ := O.look
  obtain ⟨mB, O2, _⟩ := ins_get I.hok eb
  obtain ⟨od2, J2, _⟩ := O2.look
  obtain ⟨m', hF⟩ := I.fr
  refine PySem.W.binop_K hF I.ok.mod.kin J J2.type first (by rw [hm]; exact M.at_) M.fn (wpAny_mono (wpAny_call (run_fnR (us := [.ref a, .ref b]) (vs := [.ref a, .ref b]) F hr hx I (.cons rfl (.cons rfl .nil)) q)) (fun z s' hz => ?_) fun _ _ z => z)
  obtain ⟨z', H', I', rz, qz⟩ := hz
  exact SlX.cmpback rz ⟨z', H', I', rz, qz⟩
/-- what the model's binary operators ask of the class and of int -/
structure BinI (K : PySem.W.Frag) (C : Addr) (m rm : Str) (T : String) : Prop where
  r : ∃ rc, PySem.W.findIn K (.ref C) rm = some rc ∧ (rc = none ∨ ∃ g : Addr, rc = some (.ref g))
  t1 : ∃ fo, PySem.W.findIn K (.type T) m = some fo
  t2 : ∃ ro, PySem.W.findIn K (.type T) rm = some ro
  sub : PySem.W.subIn K (.type T) (.ref C) = some false
/-- x op i by x's own method, i an int -/
def rBinI (C : Addr) (sp : Sp) (E : XK) : R2 := fun x y H Q => ∃ a dx fs i, x = .ref a ∧ H a = some (.ins C dx fs) ∧ y = .int i ∧ sp [.ref a, .int i] H Q E
theorem op_binI {op : Operator} {m rm : Str} (hm : PySem.dunder op.info.2 = m) (hrm : PySem.dunderR op.info.2 = rm) (first : PySem.W.selfFirst X.K C = true) (B : BinI X.K C m rm "int") (M : OwnM X.K C m g) (F : FnR X.prog X.w X.K X.mg X.base CX k g sp) (hr : Room k X.A) (hx : Passes CX X E) :
    OpR X (binaryOp op) (rBinI C sp E) := by
  intro pins s σ H x y v u Q I rx ry h
  obtain ⟨a, dx, fs, i, rfl, ea, rfl, q⟩ := h
  cases (show v = Value.ref a from rx)
  obtain ⟨t, rfl⟩ := (show ∃ t, u = Value.int i t from ry)
  obtain ⟨mA, O, _⟩ := ins_get I.hok ea
  obtain ⟨od, J, _⟩ := O.look
  obtain ⟨m', hF⟩ := I.fr
  obtain ⟨rc, hrc, hp⟩ := B.r
  obtain ⟨fo, h1⟩ := B.t1
  obtain ⟨ro, h2⟩ := B.t2
  refine PySem.W.ksp_binT hF I.ok.mod.kin J (T := "int") (by rfl) first (by rw [hm]; exact M.at_) M.fn (by rw [hrm]; exact hrc) hp (by rw [hm]; exact h1) (by rw [hrm]; exact h2) B.sub (wpAny_mono (wpAny_call (run_fnR (us := [.ref a, .int i t]) (vs := [.ref a, .int i]) F hr hx I (.cons rfl (.cons ⟨t, rfl⟩ .nil)) q)) (fun z s' hz => ?_) fun _ _ z => z)
  obtain ⟨z', H', I', rz, qz⟩ := hz
  exact SlX.cmpback rz ⟨z', H', I', rz, qz⟩
/-- C.m(e, ..), m a static method -/
structure SMet (K : PySem.W.Frag) (C : Addr) (mc : Value) (m : Str) (p g : Addr) : Prop where
  at_ : PySem.W.findCls K (.ref C) mc m = some (.get (.builtin "staticmethod.__get__") (.ref p) .none (.ref C))
  rc : ∃ rest, PySem.W.recIn K p "staticmethod" = some (.ref g :: rest)
  kp : PySem.W.keepIn K (.ref g) = true
theorem getsm_ok {pins : List (Addr × Obj)} {σ : L2.St} {H : Hp} {s : Shared} {mc : Value} {m : Str} {p : Addr} {pl : Sem Bool} {Q : Value × List Value → Shared → Prop} {A : Around} {E' : Value → Shared → Prop} (I : Inv X pins σ H s) (r : ClX.CRead X.K C mc) (c : SMet X.K C mc m p g)
    (h : ∀ s', Inv X pins σ H s' → Q (.ref g, []) s') : wpAny (model X.prog X.w) A (getMethod (.ref C) m pl) Q E' s := by
  obtain ⟨rest, hp⟩ := c.rc
  refine PySem.W.method_cls I.kIn r.ga ?_
  refine PySem.W.cls_bind I.kIn r.rd c.at_ (wpAny_call (PySem.W.sm_get (s := { s with toks := s.toks + 1 }) I.kIn hp (PySem.W.handed_on rfl ?_)))
  exact h _ (I.tok _)
def tSMeth (C : Addr) (sp : Sp) (E : XK) (ta : TE) (t : TA) : TE := fun σ H Q => ta σ H fun x H1 => x = .ref C ∧ t σ H1 fun vs H2 => sp vs H2 Q E
theorem pe_smeth {mc : Value} {m : Str} {p : Addr} {o e : Expr} {es : List Expr} {pos apos : Pos} {ta : TE} {t : TA} {pl : Sem Bool} (he : PE X o ta) (r : ClX.CRead X.K C mc) (c : SMet X.K C mc m p g) (F : FnR X.prog X.w X.K X.mg X.base CX k g sp) (hr : Room k X.A) (hx : Passes CX X E) (ha : PA X (e :: es) t)
    (hst : starEach (e :: es) X.env = (false, eval e X.env) :: starEach es X.env := by rfl) (hpl : (backTo pos (starEach es X.env)).any (·.1) = false := by rfl)
    (ht : eval (.Call (.Attribute o m apos) (e :: es) [] pos) X.env = (do
      let ov ← eval o X.env
      standAt apos.atName
      let (f, first) ← holding [ov] (getMethod ov m pl)
      callWith pos f first (backTo pos (starEach (e :: es) X.env)) (backToKw pos (keywordEach [] X.env))) := by rfl) :
    PE X (.Call (.Attribute o m apos) (e :: es) [] pos) (tSMeth C sp E ta t) := by
  refine ⟨fun pins s σ H Q I h => ?_⟩
  refine PySem.W.methodCall_KW (pl := pl) (thn (he.run pins s σ H _ I h) fun u s1 ⟨x, H1, I1, rx, ex, q⟩ => ?_) ht
  subst ex
  obtain rfl : u = Value.ref C := rx
  refine getsm_ok I1 r c fun s2 I2 => ?_
  refine PySem.W.callWith_K (first := []) (h₀ := X.base) I.ok.mod.kin c.kp (thn (ha.run pos pins s2 σ H1 _ I2 q) fun us s3 ⟨vs, H2, I3, rv, q2⟩ => ⟨I3.kIn, ?_⟩) hst hpl
  exact wpAny_call (run_fnR F hr hx I3 rv q2)
theorem pe_smeth0 {mc : Value} {m : Str} {p : Addr} {o : Expr} {pos apos : Pos} {ta : TE} {pl : Sem Bool} (he : PE X o ta) (r : ClX.CRead X.K C mc) (c : SMet X.K C mc m p g) (F : FnR X.prog X.w X.K X.mg X.base CX k g sp) (hr : Room k X.A) (hx : Passes CX X E)
    (ht : eval (.Call (.Attribute o m apos) [] [] pos) X.env = (do
      let ov ← eval o X.env
      standAt apos.atName
      let (f, first) ← holding [ov] (getMethod ov m pl)
      callWith pos f first (backTo pos (starEach [] X.env)) (backToKw pos (keywordEach [] X.env))) := by rfl) :
    PE X (.Call (.Attribute o m apos) [] [] pos) (tSMeth C sp E ta tNil) := by
  refine ⟨fun pins s σ H Q I h => ?_⟩
  refine PySem.W.methodCall_KW (pl := pl) (thn (he.run pins s σ H _ I h) fun u s1 ⟨x, H1, I1, rx, ex, q⟩ => ?_) ht
  subst ex
  obtain rfl : u = Value.ref C := rx
  refine getsm_ok I1 r c fun s2 I2 => ?_
  exact PySem.W.callWith_K0 (first := []) I2.kIn c.kp (wpAny_call (run_fnR (us := []) F hr hx I2 .nil q))
end
end My

namespace My
open PySem PySem.Spec PyProof.Rows L2
/-! ### a layout -/
/-- nothing can be read there (a way that is never gone) -/
theorem pe_dead {X : Cx} {e : Expr} : PE X e (fun _ _ _ => False) := ⟨fun _ _ _ _ _ _ h => h.elim⟩
structure TxtL (mg : Str → Option Value) : Prop where
  n_len : mg "len" = none
  n_bool : mg "bool" = none
  n_sum : mg "sum" = none
  n_max : mg "max" = none
  n_range : mg "range" = none
  n_isinstance : mg "isinstance" = none
  n_list : mg "list" = none
  n_tuple : mg "tuple" = none
  n_repr : mg "repr" = none
/-- an instance of the class at C with the factors ns -/
def LayAt (C : Addr) (H : Hp) (a : Addr) (ns : List Int) : Prop := ∃ dx r, H a = some (.ins C dx [("factors", .ref r), ("degree", .int (ns.length - 1 : Int))]) ∧ Rd H r (.tup (ns.map V.int)) ∧ ns.length ≤ 41 ∧ ∀ n ∈ ns, 0 ≤ n
theorem LayAt.same {C a : Addr} {H H' : Hp} {ns : List Int} (h : LayAt C H a ns) (s : Same H H') : LayAt C H' a ns := by
  obtain ⟨dx, r, h1, h2, h3, h4⟩ := h
  exact ⟨dx, r, s _ _ h1, rd_same h2 s, h3, h4⟩
/-- what isinstance and the operators ask of the class -/
structure LayG (K : PySem.W.Frag) (C : Addr) (mc : Value) : Prop where
  isL : PySem.W.kitOne K (.ref C) (.ref C) = some true
  isI : PySem.W.kitOne K (.type "int") (.ref C) = some false
  ca : PySem.W.findIn K (.ref C) "__class__" = some (some (.builtin "object.__class__"))
  cn : PySem.W.specialIn K (.builtin "object.__class__") "__get__" = some (some (.builtin "getset_descriptor.__get__"))
  ct : PySem.W.takesIn K (.builtin "object.__class__") = some true
  cm : PySem.W.mroIn K C (.type "object") = some true
  rd : ClX.CRead K C mc
  first : PySem.W.selfFirst K C = true
  addI : BinI K C "__add__" "__radd__" "int"
theorem da_ints {H : Hp} : ∀ ns : List Int, DaAll H (ns.map V.int) (ns.map PyData.int)
  | [] => .nil
  | n :: r => .cons (.int n) (da_ints r)
theorem ints_map (ns : List Int) : ((ns.map PyData.int).filterMap fun | .int i => some i | _ => none) = ns := by
  induction ns with
  | nil => rfl
  | cons n r ih =>
    rw [List.map_cons, List.filterMap_cons]
    show n :: _ = n :: r
    rw [ih]
theorem fac_map {ns : List Int} (h : ∀ n ∈ ns, 0 ≤ n) : (ns.map PyData.int).all facD = true := by
  rw [List.all_map, List.all_eq_true]
  intro n hn
  exact decide_eq_true (h n hn)
theorem intsD_pos {d : PyData} (h : okF d = true) : ∀ n ∈ intsD d, 0 ≤ n := by
  intro n hn
  unfold intsD at hn
  obtain ⟨e, he, hf⟩ := List.mem_filterMap.mp hn
  unfold okF at h
  rw [Bool.and_eq_true] at h
  have z := List.all_eq_true.mp h.2 e he
  cases e <;> simp only [reduceCtorEq, Option.some.injEq] at hf
  subst hf
  exact of_decide_eq_true z
def spMk (C : Addr) : Sp := fun vs H Q _ => ∃ x dx y d, vs = [.ref x, y] ∧ H x = some (.ins C dx []) ∧ Da H y d ∧ (itemsD d).length ≤ 1000 ∧ okF d = true ∧ (trimN (intsD d)).length ≤ 41 ∧ ∀ H', Kp x H H' → LayAt C H' x (trimN (intsD d)) → Q .non H'
/-- C(y) -/
theorem lay_new {C : Addr} {H : Hp} {y : V} {d : PyData} {Q : VK} {E : XK} (hy : Da H y d) (few : (itemsD d).length ≤ 1000) (ok : okF d = true) (le : (trimN (intsD d)).length ≤ 41) (q : ∀ x H', Same H H' → H x = none → LayAt C H' x (trimN (intsD d)) → Q (.ref x) H') :
    ∀ x dx, H x = none → H dx = none → dx ≠ x → spMk C [.ref x, y] (upd (upd H dx (.own x)) x (.ins C dx [])) (fun v H2 => v = .non ∧ Q (.ref x) H2) E := by
  intro x dx nx ndx dxx
  have s0 : Same H (upd (upd H dx (.own x)) x (.ins C dx [])) := fun b o e => by
    rw [upd_ne (ne_of_none e nx), upd_ne (ne_of_none e ndx)]
    exact e
  exact ⟨x, dx, y, d, rfl, upd_same, hy.same s0, few, ok, le, fun H' k l => ⟨rfl, q x H' (fun b o e => k b o (s0 b o e) (ne_of_none e nx)) nx l⟩⟩
theorem lay_newI {C : Addr} {H : Hp} {a : Addr} {ns : List Int} {Q : VK} {E : XK} (ia : IntsAt H a ns) (few : ns.length ≤ 1000) (pos : ∀ n ∈ ns, 0 ≤ n) (le : (trimN ns).length ≤ 41) (q : ∀ x H', Same H H' → H x = none → LayAt C H' x (trimN ns) → Q (.ref x) H') :
    ∀ x dx, H x = none → H dx = none → dx ≠ x → spMk C [.ref x, .ref a] (upd (upd H dx (.own x)) x (.ins C dx [])) (fun v H2 => v = .non ∧ Q (.ref x) H2) E := by
  rcases ia with e | e
  · have i : intsD (.list (ns.map PyData.int)) = ns := ints_map ns
    exact lay_new (d := .list (ns.map PyData.int)) (.lst e (da_ints ns)) (by show (ns.map PyData.int).length ≤ 1000; rw [List.length_map]; exact few) (by unfold okF; rw [show itemsD (.list (ns.map PyData.int)) = ns.map PyData.int from rfl, fac_map pos]; rfl) (by rw [i]; exact le) (by rw [i]; exact q)
  · have i : intsD (.tuple (ns.map PyData.int)) = ns := ints_map ns
    exact lay_new (d := .tuple (ns.map PyData.int)) (.tup e (da_ints ns)) (by show (ns.map PyData.int).length ≤ 1000; rw [List.length_map]; exact few) (by unfold okF; rw [show itemsD (.tuple (ns.map PyData.int)) = ns.map PyData.int from rfl, fac_map pos]; rfl) (by rw [i]; exact le) (by rw [i]; exact q)
/-- C(a list or a tuple of ints) -/
def tMakeI (C : Addr) (t : TA) : TE := fun σ H Q => t σ H fun vs H1 => ∃ a ns, vs = [V.ref a] ∧ IntsAt H1 a ns ∧ ns.length ≤ 1000 ∧ (∀ n ∈ ns, 0 ≤ n) ∧ (trimN ns).length ≤ 41 ∧ ∀ x H', Same H1 H' → H1 x = none → LayAt C H' x (trimN ns) → Q (.ref x) H'
theorem pe_makeI {X : Cx} {k : Nat} {f C : Addr} {x : Str} {e : Expr} {es : List Expr} {t : TA} {p pos : Pos} (M : Mk X.K C f) (F : FnR X.prog X.w X.K X.mg X.base (L2.CX X.prog X.w) k f (spMk C)) (hr : Room (k + 1) X.A) (hg : Gl X x) (hm : X.mg x = some (.ref C)) (ha : PA X (e :: es) t) (hdb : (x == ("__debug__" : Str)) = false := by decide)
    (he : starEach (e :: es) X.env = (false, eval e X.env) :: starEach es X.env := by rfl) (hpl : (backTo pos (starEach es X.env)).any (·.1) = false := by rfl) : PE X (.Call (.Name x p) (e :: es) [] pos) (tMakeI C t) := by
  refine ⟨fun pins s σ H Q I h => ?_⟩
  refine wpAny_Call_Name_kw (ld_glob I hg hm ?_ hdb)
  refine PySem.W.callWith_K (h₀ := X.base) I.ok.mod.kin M.kp (thn (ha.run pos pins s σ H _ I h) fun us s1 ⟨vs, H1, I1, r, q⟩ => ⟨I1.kIn, ?_⟩) he hpl
  obtain ⟨a, ns, rfl, ia, few, ps, le, q⟩ := q
  exact StX.run_makeR M F hr (passE (X := X)) I1 r (lay_newI ia few ps le q)
/-- the factor of t^i -/
def getI (ns : List Int) (i : Int) : Int := if 0 ≤ i ∧ i < ns.length then ns.getD i.toNat 0 else 0
def hornI (ns : List Int) (n : Int) : Int := ns.reverse.foldl (fun v f => v * n + f) 0
theorem bl_int {a b : Int} : V.bl (!decide (V.int a = V.int b)) = V.bl (!decide (a = b)) := by
  have z := eqI a b
  cases z' : decide (V.int a = V.int b) <;> rw [z'] at z <;> cases z2 : decide (a = b) <;> rw [z2] at z <;> first | rfl | (cases z)
theorem trim_len1 (ns : List Int) {m : Nat} (h : ns.length ≤ m) : (trimN ns).length ≤ m := Nat.le_trans (trimN_len ns) h
theorem lastN_last (ns : List Int) : ∀ m, ns[lastN ns m - 1]? = some 0 → lastN ns m = 0
  | 0, _ => rfl
  | m + 1, h => by
    by_cases z : ns[m]? = some 0
    · rw [last_go z] at h ⊢
      exact lastN_last ns m h
    · rw [last_stay z] at h
      exact absurd h z
theorem trim_trim (ns : List Int) : trimN (trimN ns) = trimN ns := by
  have hl := lastN_le ns ns.length
  generalize hm : lastN ns ns.length = m at hl
  have e : trimN ns = ns.take m := by unfold trimN; rw [hm]
  rw [e]
  cases m with
  | zero => rfl
  | succ k =>
    have len : (ns.take (k + 1)).length = k + 1 := by rw [List.length_take]; omega
    have st : (ns.take (k + 1))[k]? ≠ some 0 := by
      rw [List.getElem?_take_of_lt (Nat.lt_succ_self k)]
      intro z
      have y := lastN_last ns ns.length (by rw [hm]; exact z)
      omega
    unfold trimN
    rw [len, last_stay st, List.take_take, Nat.min_self]
section
variable {P : Program} {w : World} {K : PySem.W.Frag} {mg : Str → Option Value} {base : Heap}
theorem mk_of_lay {d : LayD} {f : Addr} {fd : FuncData} (G : FnOk P w K mg base (L2.CX P w) 3 f fd ["self", "factors"] (spLay K d)) (b : Binds K fd ["self", "factors"] []) : FnR P w K mg base (L2.CX P w) 3 f (spMk d.lay) := by
  refine (G.raw b .nil).imp (fun vs H Q E h => ?_)
  obtain ⟨x, dx, y, t, rfl, hx, hy, few, ok, le, q⟩ := h
  rw [List.append_nil]
  exact ⟨⟨x, dx, y, rfl, hx, .inl ⟨t, hy, few, fun e => (by rw [ok] at e; cases e), fun _ big => absurd big (by omega), fun _ _ H' r k h1 h2 => q H' k ⟨dx, r, h1, h2, le, fun n hn => intsD_pos ok n (List.mem_of_mem_take hn)⟩⟩⟩⟩
end
end My

namespace My
open PySem PySem.Spec PyProof.Rows L2
abbrev s_factor_at : Stmt := topS 13
theorem sc_factor_at : FnScope ["factors", "k"] ["factors", "k"] (defScope s_factor_at) := ⟨rfl, rfl, rfl, by decide +kernel, rfl, by decide +kernel, by decide +kernel⟩
abbrev s_added : Stmt := topS 14
theorem sc_added : FnScope ["one", "other", "many", "k"] ["one", "other"] (defScope s_added) := ⟨rfl, rfl, rfl, by decide +kernel, rfl, by decide +kernel, by decide +kernel⟩
abbrev s_is_from_zero : Stmt := topS 22
theorem sc_is_from_zero : FnScope ["thing"] ["thing"] (defScope s_is_from_zero) := ⟨rfl, rfl, rfl, by decide +kernel, rfl, by decide +kernel, by decide +kernel⟩
abbrev s_factors_beside : Stmt := topS 23
theorem sc_factors_beside : FnScope ["thing"] ["thing"] (defScope s_factors_beside) := ⟨rfl, rfl, rfl, by decide +kernel, rfl, by decide +kernel, by decide +kernel⟩
abbrev s_Layoutadd : Stmt := inClass (topS 25) 6
theorem sc_Layoutadd : FnScope ["self", "other", "factors"] ["self", "other"] (defScope s_Layoutadd) := ⟨rfl, rfl, rfl, by decide +kernel, rfl, by decide +kernel, by decide +kernel⟩

/-! ### sums -/
def addL (as bs : List Int) : List Int := (List.range (max as.length bs.length)).map fun k => as.getD k 0 + bs.getD k 0
theorem addL_len (as bs : List Int) : (addL as bs).length = max as.length bs.length := by unfold addL; simp
theorem getD_pos {as : List Int} (h : ∀ n ∈ as, 0 ≤ n) (k : Nat) : 0 ≤ as.getD k 0 := by
  rw [List.getD_eq_getElem?_getD]
  by_cases hk : k < as.length
  · rw [List.getElem?_eq_getElem hk]
    exact h _ (List.getElem_mem hk)
  · rw [List.getElem?_eq_none (by omega)]
    exact Int.le_refl _
theorem addL_pos {as bs : List Int} (h1 : ∀ n ∈ as, 0 ≤ n) (h2 : ∀ n ∈ bs, 0 ≤ n) : ∀ n ∈ addL as bs, 0 ≤ n := by
  intro n hn
  unfold addL at hn
  obtain ⟨k, _, rfl⟩ := List.mem_map.mp hn
  exact Int.add_nonneg (getD_pos h1 k) (getD_pos h2 k)
/-- the sum of layouts, one after another -/
def joinL : List (List Int) → List Int
  | [] => trimN (addL [] [0])
  | l :: r => r.foldl (fun acc m => trimN (addL acc m)) (trimN (addL [] l))
structure spFactorAt (vs : List V) (H : Hp) (Q : VK) (E : XK) : Prop where
  ex : ∃ (a : Addr) (as : List Int) (k : Nat), vs = [.ref a, .int (k : Nat)] ∧ Rd H a (.tup (as.map V.int)) ∧ Q (.int (as.getD k 0)) H
structure spAdded (vs : List V) (H : Hp) (Q : VK) (E : XK) : Prop where
  ex : ∃ a b as bs, vs = [.ref a, .ref b] ∧ Rd H a (.tup (as.map V.int)) ∧ Rd H b (.tup (bs.map V.int)) ∧ as.length ≤ 900 ∧ bs.length ≤ 900 ∧ ∀ r H', Same H H' → Rd H' r (.tup ((trimN (addL as bs)).map V.int)) → Q (.ref r) H'
structure spFromZero (vs : List V) (H : Hp) (Q : VK) (E : XK) : Prop where
  ex : ∃ i : Int, vs = [.int i] ∧ Q (.bl (decide (0 ≤ i))) H
structure spBeside (C : Addr) (vs : List V) (H : Hp) (Q : VK) (E : XK) : Prop where
  ex : ∃ x, vs = [x] ∧ ((∃ a ns, x = .ref a ∧ LayAt C H a ns ∧ ∀ r, Rd H r (.tup (ns.map V.int)) → Q (.ref r) H) ∨ (∃ i : Int, x = .int i ∧ 0 ≤ i ∧ ∀ r H', Same H H' → Rd H' r (.tup [V.int i]) → Q (.ref r) H'))
/-- what may stand beside a layout in a sum: a layout, an int -/
def BesideAt (C : Addr) (H : Hp) (y : V) (ms : List Int) : Prop := (∃ b, y = .ref b ∧ LayAt C H b ms) ∨ (∃ i : Int, y = .int i ∧ 0 ≤ i ∧ ms = [i])
structure spAdd (C : Addr) (vs : List V) (H : Hp) (Q : VK) (E : XK) : Prop where
  ex : ∃ a ns y ms, vs = [.ref a, y] ∧ LayAt C H a ns ∧ BesideAt C H y ms ∧ ∀ x H', Same H H' → H x = none → LayAt C H' x (trimN (addL ns ms)) → Q (.ref x) H'
/-- layouts at addresses -/
def LaysAt (C : Addr) (H : Hp) (ls : List (Addr × List Int)) : Prop := ∀ l ∈ ls, LayAt C H l.1 l.2
structure spJoinB (C : Addr) (vs : List V) (H : Hp) (Q : VK) (E : XK) : Prop where
  ex : ∃ y ms p ls, vs = [y, .ref p] ∧ BesideAt C H y ms ∧ H p = some (.tup (ls.map fun l : Addr × List Int => V.ref l.1)) ∧ LaysAt C H ls ∧ ∀ x H', Same H H' → H x = none → LayAt C H' x ((ls.map (·.2)).foldl (fun acc m => trimN (addL acc m)) (trimN (addL [] ms))) → Q (.ref x) H'
structure spJoined (C : Addr) (vs : List V) (H : Hp) (Q : VK) (E : XK) : Prop where
  ex : ∃ ls : List (Addr × List Int), vs = ls.map (fun l => V.ref l.1) ∧ ls.length ≤ 100 ∧ LaysAt C H ls ∧ ∀ x H', Same H H' → H x = none → LayAt C H' x (joinL (ls.map (·.2))) → Q (.ref x) H'
theorem BesideAt.pos {C : Addr} {H : Hp} {y : V} {ms : List Int} (h : BesideAt C H y ms) : (∀ n ∈ ms, 0 ≤ n) ∧ ms.length ≤ 41 := by
  rcases h with ⟨b, _, _, _, _, _, h3, h4⟩ | ⟨i, _, h0, rfl⟩
  · exact ⟨h4, h3⟩
  · exact ⟨fun n hn => by rw [List.mem_singleton.mp hn]; exact h0, by simp⟩
theorem BesideAt.same {C : Addr} {H H' : Hp} {y : V} {ms : List Int} (h : BesideAt C H y ms) (s : Same H H') : BesideAt C H' y ms := by
  rcases h with ⟨b, e, l⟩ | h
  · exact .inl ⟨b, e, l.same s⟩
  · exact .inr h
theorem LaysAt.same {C : Addr} {H H' : Hp} {ls : List (Addr × List Int)} (h : LaysAt C H ls) (s : Same H H') : LaysAt C H' ls := fun l m => (h l m).same s
section
variable {P : Program} {w : World} {K : PySem.W.Frag} {mg : Str → Option Value} {base : Heap}
theorem ok_factor_at {f : Addr} {fd : FuncData} {k : Nat} (F : Fun K "factor_at" "factor_at" s_factor_at f fd) (T : TxtL mg) : FnOk P w K mg base CX0 (k + 1) f fd ["factors", "k"] spFactorAt := by
  refine F.ok sc_factor_at (fun vs H Q E h => ?_) (fun cdv A outer s H vs Q E hr h => ?_)
  · obtain ⟨a, as, i, rfl, _⟩ := h
    rfl
  · obtain ⟨a, as, i, rfl, ha, q⟩ := h
    refine ⟨_, (pss_one (ps_ret (pe_ifExp (pt_cmpR op_lt (pv 1) (pe_callB call_len_seq (by rfl) T.n_len (by decide +kernel) (pa_cons (pv 0) pa_nil)) (nomark _)) (pe_ix ix_tup (pv 0) (pv 1) (fun _ _ => rfl)) pe_int))), ?_⟩
    refine ⟨_, rfl, _, rfl, a, _, rfl, .inr (.inl ha), _, _, rfl, rfl, _, rfl, ?_⟩
    rw [List.length_map]
    by_cases z : i < as.length
    · rw [decide_eq_true (show ((i : Nat) : Int) < (as.length : Int) by omega)]
      refine iteT ?_
      refine ⟨_, rfl, _, rfl, a, _, _, V.int as[i], rfl, rfl, .inl ha, atI_nat (by rw [List.getElem?_map, List.getElem?_eq_getElem z]; rfl), ?_⟩
      rw [List.getD_eq_getElem?_getD, List.getElem?_eq_getElem z] at q
      exact q
    · rw [decide_eq_false (show ¬ ((i : Nat) : Int) < (as.length : Int) by omega)]
      refine iteF ?_
      rw [List.getD_eq_getElem?_getD, List.getElem?_eq_none (by omega)] at q
      exact q
theorem ok_added {f f1 f2 : Addr} {fd fd1 fd2 : FuncData} {k : Nat} (F : Fun K "added" "added" s_added f fd) (T : TxtL mg) (F_trimmed : Fun K "trimmed" "trimmed" s_trimmed f1 fd1) (b_trimmed : Binds K fd1 ["factors"] []) (g_trimmed : mg "trimmed" = some (.ref f1)) (G_trimmed : FnOk P w K mg base CX0 1 f1 fd1 ["factors"] spTrim)
    (F_factor_at : Fun K "factor_at" "factor_at" s_factor_at f2 fd2) (b_factor_at : Binds K fd2 ["factors", "k"] []) (g_factor_at : mg "factor_at" = some (.ref f2)) (G_factor_at : FnOk P w K mg base CX0 1 f2 fd2 ["factors", "k"] spFactorAt) : FnOk P w K mg base CX0 (k + 2) f fd ["one", "other"] spAdded := by
  refine F.ok sc_added (fun vs H Q E h => ?_) (fun cdv A outer s H vs Q E hr h => ?_)
  · obtain ⟨a, b, as, bs, rfl, _⟩ := h
    rfl
  · obtain ⟨a, b, as, bs, rfl, ha, hb, la, lb, q⟩ := h
    refine ⟨_, (pss_cons (ps_set (i := 2) sc_added.nd rfl (.inl rfl) (pe_callB (call_max2 (by rfl)) (by rfl) T.n_max (by decide +kernel) (pa_cons (pe_callB call_len_seq (by rfl) T.n_len (by decide +kernel) (pa_cons (pv 0) pa_nil)) (pa_cons (pe_callB call_len_seq (by rfl) T.n_len (by decide +kernel) (pa_cons (pv 1) pa_nil)) pa_nil))))
  (pss_one (ps_ret (pe_call G_trimmed (hr.mono (by omega)) (by rfl) g_trimmed F_trimmed.kp b_trimmed .nil pass0 (pa_cons (pe_lc (own := [("k", 3)]) (g := gName 3) rfl sc_added.nd (pi_range1 (by rfl) T.n_range (pa_cons (pv 2) pa_nil)) (blkOk_by (own := [("k", 3)]) (N := ["one", "other", "many", "k"]) (sc := defScope s_added) (by decide +kernel)) (fun _ _ _ _ _ => (pg_name (i := 3) sc_added.nd rfl (.inl rfl))) (fun _ _ _ _ _ => pts_nil) (fun _ _ _ _ _ => (pe_op op_add (pe_call G_factor_at (hr.mono (by omega)) (by rfl) g_factor_at F_factor_at.kp b_factor_at .nil pass0 (pa_cons (pv 0) (pa_cons (pv 3) pa_nil))) (pe_call G_factor_at (hr.mono (by omega)) (by rfl) g_factor_at F_factor_at.kp b_factor_at .nil pass0 (pa_cons (pv 1) (pa_cons (pv 3) pa_nil)))))) pa_nil))))), ?_⟩
    clear G_trimmed G_factor_at
    refine ⟨_, rfl, a, _, rfl, .inr (.inl ha), _, rfl, b, _, rfl, .inr (.inl hb), _, _, rfl, ?_⟩
    rw [List.length_map, List.length_map]
    have em : (if (bs.length : Int) > (as.length : Int) then (bs.length : Int) else (as.length : Int)) = ((max as.length bs.length : Nat) : Int) := by
      split <;> omega
    rw [em]
    generalize hm : max as.length bs.length = m
    have lm : m ≤ 900 := by omega
    refine ⟨_, rfl, _, rfl, by omega, by omega, fun L nL => ?_⟩
    refine lc_it (walk_range (n := m)) (fun i H5 => Same H H5 ∧ H5 L = some (.lst (((List.range i).map fun k => as.getD k 0 + bs.getD k 0).map V.int))) ⟨same_upd nL, upd_same⟩ (fun _ _ _ _ => True.intro) ?_ ?_
    · rintro i z H5 H6 hi ⟨s5, hL⟩ ⟨rfl, ez⟩
      have hi' : i < m := by omega
      have ez' : z = V.int (0 + (i : Nat)) := ez
      subst ez'
      rw [Int.zero_add]
      refine ⟨rfl, ?_⟩
      unfold tYes
      dsimp only
      rw [if_pos rfl]
      refine ⟨_, rfl, _, rfl, ⟨a, as, i, rfl, rd_same ha s5, ?_⟩⟩
      refine ⟨_, rfl, _, rfl, ⟨b, bs, i, rfl, rd_same hb s5, ?_⟩⟩
      refine ⟨_, _, rfl, rfl, _, hL, ?_, same_at s5 nL, ?_⟩
      · rw [List.length_map, List.length_map, List.length_range]
        exact small1000 (by omega)
      · rw [upd_same, List.range_succ, List.map_append, List.map_append]
        rfl
    · rintro H5 ⟨s5, hL⟩
      have hz : (((m : Nat) : Int) - 0).toNat = m ∨ True := .inr True.intro
      refine ⟨L, addL as bs, rfl, .inl (by unfold addL; rw [hm]; exact hL), by rw [addL_len]; omega, fun r H' s6 er => q r H' (s5.trans s6) er⟩
theorem ok_is_from_zero {f f1 : Addr} {fd fd1 : FuncData} {k : Nat} (F : Fun K "is_from_zero" "is_from_zero" s_is_from_zero f fd) (F_is_integer : Fun K "is_integer" "is_integer" s_is_integer f1 fd1) (b_is_integer : Binds K fd1 ["thing"] []) (g_is_integer : mg "is_integer" = some (.ref f1)) (G_is_integer : FnOk P w K mg base CX0 1 f1 fd1 ["thing"] spIsInt) :
    FnOk P w K mg base CX0 (k + 2) f fd ["thing"] spFromZero := by
  refine F.ok sc_is_from_zero (fun vs H Q E h => ?_) (fun cdv A outer s H vs Q E hr h => ?_)
  · obtain ⟨i, rfl, _⟩ := h
    rfl
  · obtain ⟨i, rfl, q⟩ := h
    refine ⟨_, (pss_one (ps_ret (pe_and (pe_call G_is_integer (hr.mono (by omega)) (by rfl) g_is_integer F_is_integer.kp b_is_integer .nil pass0 (pa_cons (pv 0) pa_nil)) (pe_one (pe_cmpR op_ge (pv 0) pe_int (nomark _)))))), ?_⟩
    clear G_is_integer
    refine ⟨_, rfl, ⟨_, .int i, rfl, .int i, true, rfl, ?_⟩⟩
    refine iteT ?_
    exact ⟨_, rfl, _, _, rfl, rfl, q⟩
theorem ok_factors_beside {d : LayD} {mc : Value} {f f1 : Addr} {fd fd1 : FuncData} {k : Nat} (F : Fun K "factors_beside" "factors_beside" s_factors_beside f fd) (T : TxtL mg) (D : LayF P K mg d) (LG : LayG K d.lay mc) (F_is_from_zero : Fun K "is_from_zero" "is_from_zero" s_is_from_zero f1 fd1) (b_is_from_zero : Binds K fd1 ["thing"] []) (g_is_from_zero : mg "is_from_zero" = some (.ref f1))
    (G_is_from_zero : FnOk P w K mg base CX0 2 f1 fd1 ["thing"] spFromZero) : FnOk P w K mg base CX0 (k + 3) f fd ["thing"] (spBeside d.lay) := by
  refine F.ok sc_factors_beside (fun vs H Q E h => ?_) (fun cdv A outer s H vs Q E hr h => ?_)
  · obtain ⟨x, rfl, _⟩ := h
    rfl
  · obtain ⟨x, rfl, h⟩ := h
    refine ⟨_, (pss_cons (ps_if (pt_val (pe_callB call_isi (by rfl) T.n_isinstance (by decide +kernel) (pa_cons (pv 0) (pa_cons (pe_glob (v := .ref d.lay) (by rfl) D.gLay rfl) pa_nil))))
   (pss_one (ps_ret (pe_fld (pv 0) rfl)))
   pss_nil)
  (pss_one (ps_ret (pe_ifExp (pt_val (pe_call G_is_from_zero (hr.mono (by omega)) (by rfl) g_is_from_zero F_is_from_zero.kp b_is_from_zero .nil pass0 (pa_cons (pv 0) pa_nil))) (pe_tup (pa_cons (pv 0) pa_nil)) pe_non)))), ?_⟩
    clear G_is_from_zero
    rcases h with ⟨a, ns, rfl, ⟨dx, r, ha, hr', h3, h4⟩, q⟩ | ⟨i, rfl, h0, q⟩
    · refine ⟨_, rfl, _, _, _, _, true, rfl, .own _, .base (.ins ha D.lay LG.ca LG.cn LG.ct LG.cm), LG.isL, _, rfl, ?_⟩
      refine iteT ?_
      exact ⟨_, rfl, a, d.lay, dx, _, .ref r, rfl, ha, D.lay, D.naF, rfl, q r hr'⟩
    · refine ⟨_, rfl, _, _, _, _, false, rfl, .own _, .base (.int i), LG.isI, _, rfl, ?_⟩
      refine iteF ?_
      refine ⟨_, rfl, ⟨i, rfl, _, rfl, ?_⟩⟩
      rw [decide_eq_true h0]
      refine iteT ?_
      exact ⟨_, rfl, by show 1 ≤ sizeLine; decide, fun p np => q p _ (same_upd np) (.inl upd_same)⟩
theorem ok_add {d : LayD} {f f1 f2 f3 : Addr} {fd fd1 fd2 : FuncData} {k : Nat} (F : Fun K "__add__" "Layout.__add__" s_Layoutadd f fd) (D : LayF P K mg d) (M_Layout : Mk K d.lay f3) (R_Layout : FnR P w K mg base (L2.CX P w) 3 f3 (spMk d.lay))
    (F_factors_beside : Fun K "factors_beside" "factors_beside" s_factors_beside f1 fd1) (b_factors_beside : Binds K fd1 ["thing"] []) (g_factors_beside : mg "factors_beside" = some (.ref f1)) (G_factors_beside : FnOk P w K mg base CX0 3 f1 fd1 ["thing"] (spBeside d.lay))
    (F_added : Fun K "added" "added" s_added f2 fd2) (b_added : Binds K fd2 ["one", "other"] []) (g_added : mg "added" = some (.ref f2)) (G_added : FnOk P w K mg base CX0 2 f2 fd2 ["one", "other"] spAdded) : FnOk P w K mg base CX0 (k + 5) f fd ["self", "other"] (spAdd d.lay) := by
  refine F.ok sc_Layoutadd (fun vs H Q E h => ?_) (fun cdv A outer s H vs Q E hr h => ?_)
  · obtain ⟨a, ns, y, ms, rfl, _⟩ := h
    rfl
  · obtain ⟨a, ns, y, ms, rfl, hl, hy, q⟩ := h
    refine ⟨_, (pss_cons (ps_set (i := 2) sc_Layoutadd.nd rfl (.inl rfl) (pe_call G_factors_beside (hr.mono (by omega)) (by rfl) g_factors_beside F_factors_beside.kp b_factors_beside .nil pass0 (pa_cons (pv 1) pa_nil)))
  (pss_cons (ps_if (pt_cmpR op_isN (pv 2) pe_non (nomark _))
   (pss_one (ps_ret pe_dead))
   pss_nil)
  (pss_one (ps_ret (pe_makeI M_Layout R_Layout (hr.mono (by omega)) (by rfl) D.gLay (pa_cons (pe_call G_added (hr.mono (by omega)) (by rfl) g_added F_added.kp b_added .nil pass0 (pa_cons (pe_fld (pv 0) rfl) (pa_cons (pv 2) pa_nil))) pa_nil)))))), ?_⟩
    clear R_Layout G_factors_beside G_added
    obtain ⟨m1, m2⟩ := hy.pos
    obtain ⟨dx, r, ha, hr', h3, h4⟩ := id hl
    have rest : ∀ b H1, Same H H1 → Rd H1 b (.tup (ms.map V.int)) → spAdded [.ref r, .ref b] H1 (fun v H2 => ∃ a ns, [v] = [V.ref a] ∧ IntsAt H2 a ns ∧ ns.length ≤ 1000 ∧ (∀ n ∈ ns, 0 ≤ n) ∧ (trimN ns).length ≤ 41 ∧ ∀ x H', Same H2 H' → H2 x = none → LayAt d.lay H' x (trimN ns) → Q (.ref x) H') E0 := by
      intro b H1 s1 eb
      refine ⟨r, b, ns, ms, rfl, rd_same hr' s1, eb, by omega, by omega, fun r2 H2 s2 er => ?_⟩
      refine ⟨r2, trimN (addL ns ms), rfl, .inr er, Nat.le_trans (trimN_len _) (by rw [addL_len]; omega), fun n hn => addL_pos h4 m1 n (List.mem_of_mem_take hn), Nat.le_trans (trimN_len _) (Nat.le_trans (trimN_len _) (by rw [addL_len]; omega)), fun x H' s3 nx l => ?_⟩
      rw [trim_trim] at l
      exact q x H' ((s1.trans s2).trans s3) ((s1.trans s2).free nx) l
    rcases hy with ⟨b, rfl, lb⟩ | ⟨i, rfl, h0, rfl⟩
    · refine ⟨_, rfl, ⟨_, rfl, .inl ⟨b, ms, rfl, lb, fun rb hrb => ?_⟩⟩⟩
      refine ⟨_, rfl, rfl, _, rfl, iteF ?_⟩
      exact ⟨_, rfl, a, d.lay, dx, _, .ref r, rfl, ha, D.lay, D.naF, rfl, _, rfl, rest rb H (same_rfl _) hrb⟩
    · refine ⟨_, rfl, ⟨_, rfl, .inr ⟨i, rfl, h0, fun rb H1 s1 hrb => ?_⟩⟩⟩
      refine ⟨_, rfl, rfl, _, rfl, iteF ?_⟩
      exact ⟨_, rfl, a, d.lay, dx, _, .ref r, rfl, s1 _ _ ha, D.lay, D.naF, rfl, _, rfl, rest rb H1 s1 hrb⟩
end
end My

namespace My
open PySem PySem.Spec PyProof.Rows L2

theorem at_last (l : List V) (x : V) : atI (l ++ [x]) (-1) = some x := by
  unfold atI ixN
  rw [List.length_append, List.length_cons, List.length_nil, if_neg (by decide), if_pos (by omega), Option.bind_some]
  rw [show (-1 + ((l.length + (0 + 1) : Nat) : Int)).toNat = l.length by omega]
  simp
theorem last_get (l : List V) (x : V) : (l ++ [x])[(l ++ [x]).length - 1]? = some x := by simp
section
variable {P : Program} {w : World} {K : PySem.W.Frag} {mg : Str → Option Value} {base : Heap}
end
end My

namespace My
open PySem PySem.Spec PyProof.Rows L2
/-! ### products of polynomials, as the loops make them -/
def mulRow (j : Nat) (x : Int) : Nat → List Int → List Int → List Int
  | _, [], L => L
  | k, y :: r, L => mulRow j x (k + 1) r (L.set (j + k) (L.getD (j + k) 0 + x * y))
def mulAll (bs : List Int) : Nat → List Int → List Int → List Int
  | _, [], L => L
  | j, x :: r, L => mulAll bs (j + 1) r (mulRow j x 0 bs L)
def mulL (as bs : List Int) : List Int := mulAll bs 0 as (List.replicate (as.length + bs.length) 0)
theorem row_len (j : Nat) (x : Int) : ∀ (bs : List Int) (k : Nat) (L : List Int), (mulRow j x k bs L).length = L.length
  | [], _, _ => rfl
  | y :: r, k, L => by
    show (mulRow j x (k + 1) r (L.set (j + k) _)).length = _
    rw [row_len j x r, List.length_set]
theorem all_len (bs : List Int) : ∀ (as : List Int) (j : Nat) (L : List Int), (mulAll bs j as L).length = L.length
  | [], _, _ => rfl
  | x :: r, j, L => by
    show (mulAll bs (j + 1) r _).length = _
    rw [all_len bs r, row_len]
theorem mul_len (as bs : List Int) : (mulL as bs).length = as.length + bs.length := by
  unfold mulL
  rw [all_len, List.length_replicate]
theorem getD_set (L : List Int) (i j : Nat) (v : Int) : (L.set i v).getD j 0 = if i = j ∧ i < L.length then v else L.getD j 0 := by
  rw [List.getD_eq_getElem?_getD, List.getD_eq_getElem?_getD, List.getElem?_set]
  by_cases e : i = j
  · subst e
    by_cases h : i < L.length
    · rw [if_pos rfl, if_pos h, if_pos ⟨rfl, h⟩]
      rfl
    · rw [if_pos rfl, if_neg h, if_neg (fun z => h z.2), List.getElem?_eq_none (by omega)]
  · rw [if_neg e, if_neg (fun z => e z.1)]
theorem row_hi (j : Nat) (x : Int) : ∀ (bs : List Int) (k : Nat) (L : List Int) (m : Nat), j + k + bs.length ≤ m → (mulRow j x k bs L).getD m 0 = L.getD m 0
  | [], _, _, _, _ => rfl
  | y :: r, k, L, m, h => by
    rw [List.length_cons] at h
    show (mulRow j x (k + 1) r (L.set (j + k) _)).getD m 0 = _
    rw [row_hi j x r (k + 1) _ m (by omega), getD_set, if_neg (by omega)]
theorem row_top (j : Nat) (x : Int) : ∀ (bs : List Int) (y : Int) (k : Nat) (L : List Int), j + k + bs.length < L.length → (mulRow j x k (bs ++ [y]) L).getD (j + k + bs.length) 0 = L.getD (j + k + bs.length) 0 + x * y
  | [], y, k, L, h => by
    show (L.set (j + k) (L.getD (j + k) 0 + x * y)).getD (j + k) 0 = _
    rw [getD_set, if_pos ⟨rfl, h⟩]
    rfl
  | z :: r, y, k, L, h => by
    rw [List.length_cons] at h ⊢
    show (mulRow j x (k + 1) (r ++ [y]) (L.set (j + k) _)).getD (j + k + (r.length + 1)) 0 = _
    have e : j + k + (r.length + 1) = j + (k + 1) + r.length := by omega
    rw [e, row_top j x r y (k + 1) _ (by rw [List.length_set]; omega), getD_set, if_neg (by omega)]
theorem all_hi (bs : List Int) : ∀ (as : List Int) (j : Nat) (L : List Int) (m : Nat), j + as.length + bs.length ≤ m + 1 → (mulAll bs j as L).getD m 0 = L.getD m 0
  | [], _, _, _, _ => rfl
  | x :: r, j, L, m, h => by
    rw [List.length_cons] at h
    show (mulAll bs (j + 1) r _).getD m 0 = _
    rw [all_hi bs r (j + 1) _ m (by omega), row_hi j x bs 0 L m (by omega)]
theorem all_top (bs : List Int) (y : Int) : ∀ (as : List Int) (x : Int) (j : Nat) (L : List Int), j + as.length + bs.length < L.length → (mulAll (bs ++ [y]) j (as ++ [x]) L).getD (j + as.length + bs.length) 0 = L.getD (j + as.length + bs.length) 0 + x * y
  | [], x, j, L, h => by
    show (mulRow j x 0 (bs ++ [y]) L).getD (j + 0 + bs.length) 0 = _
    exact row_top j x bs y 0 L h
  | z :: r, x, j, L, h => by
    rw [List.length_cons] at h ⊢
    show (mulAll (bs ++ [y]) (j + 1) (r ++ [x]) _).getD (j + (r.length + 1) + bs.length) 0 = _
    have e : j + (r.length + 1) + bs.length = j + 1 + r.length + bs.length := by omega
    rw [e, all_top bs y r x (j + 1) _ (by rw [row_len]; omega), row_hi j z (bs ++ [y]) 0 L _ (by rw [List.length_append, List.length_singleton]; omega)]
theorem getD_rep (n m : Nat) : (List.replicate n (0 : Int)).getD m 0 = 0 := by
  rw [List.getD_eq_getElem?_getD, List.getElem?_replicate]
  split <;> rfl
theorem mul_hi {as bs : List Int} {m : Nat} (h : as.length + bs.length ≤ m + 1) : (mulL as bs).getD m 0 = 0 := by
  unfold mulL
  rw [all_hi bs as 0 _ m (by omega), getD_rep]
theorem mul_top (as bs : List Int) (x y : Int) : (mulL (as ++ [x]) (bs ++ [y])).getD (as.length + bs.length) 0 = x * y := by
  unfold mulL
  have h := all_top bs y as x 0 (List.replicate ((as ++ [x]).length + (bs ++ [y]).length) 0) (by rw [List.length_replicate, List.length_append, List.length_append]; simp; omega)
  rw [Nat.zero_add] at h
  rw [h, getD_rep, Int.zero_add]
/-! ### from 0 on -/
theorem set_nn {L : List Int} (h : ∀ n ∈ L, 0 ≤ n) {i : Nat} {v : Int} (hv : 0 ≤ v) : ∀ n ∈ L.set i v, 0 ≤ n := fun n hn => by
  rcases List.mem_or_eq_of_mem_set hn with e | e
  · exact h n e
  · rw [e]
    exact hv
theorem getD_nn {L : List Int} (h : ∀ n ∈ L, 0 ≤ n) (k : Nat) : 0 ≤ L.getD k 0 := by
  rw [List.getD_eq_getElem?_getD]
  by_cases hk : k < L.length
  · rw [List.getElem?_eq_getElem hk]
    exact h _ (List.getElem_mem hk)
  · rw [List.getElem?_eq_none (by omega)]
    exact Int.le_refl _
theorem row_nn (j : Nat) {x : Int} (hx : 0 ≤ x) : ∀ (bs : List Int) (k : Nat) (L : List Int), (∀ n ∈ bs, 0 ≤ n) → (∀ n ∈ L, 0 ≤ n) → ∀ n ∈ mulRow j x k bs L, 0 ≤ n
  | [], _, _, _, h => h
  | y :: r, k, L, hb, h => row_nn j hx r (k + 1) _ (fun n hn => hb n (List.mem_cons_of_mem _ hn)) (set_nn h (Int.add_nonneg (getD_nn h _) (Int.mul_nonneg hx (hb y List.mem_cons_self))))
theorem all_nn {bs : List Int} (hb : ∀ n ∈ bs, 0 ≤ n) : ∀ (as : List Int) (j : Nat) (L : List Int), (∀ n ∈ as, 0 ≤ n) → (∀ n ∈ L, 0 ≤ n) → ∀ n ∈ mulAll bs j as L, 0 ≤ n
  | [], _, _, _, h => h
  | x :: r, j, L, ha, h => all_nn hb r (j + 1) _ (fun n hn => ha n (List.mem_cons_of_mem _ hn)) (row_nn j (ha x List.mem_cons_self) bs 0 L hb h)
theorem mul_nn {as bs : List Int} (ha : ∀ n ∈ as, 0 ≤ n) (hb : ∀ n ∈ bs, 0 ≤ n) : ∀ n ∈ mulL as bs, 0 ≤ n := all_nn hb as 0 _ ha fun n hn => by
  rw [(List.mem_replicate.mp hn).2]
  exact Int.le_refl _
/-! ### the sum of all factors -/
theorem sum_set : ∀ {L : List Int} {i : Nat} {d : Int}, i < L.length → (L.set i (L.getD i 0 + d)).sum = L.sum + d
  | [], i, d, h => by simp at h
  | n :: r, 0, d, _ => by
    show ((n + d) :: r).sum = _
    rw [List.sum_cons, List.sum_cons]
    omega
  | n :: r, i + 1, d, h => by
    have ih := sum_set (L := r) (i := i) (d := d) (by simpa using h)
    show (n :: r.set i (r.getD i 0 + d)).sum = _
    rw [List.sum_cons, List.sum_cons, ih]
    omega
theorem row_sum (j : Nat) (x : Int) : ∀ (bs : List Int) (k : Nat) (L : List Int), j + k + bs.length ≤ L.length → (mulRow j x k bs L).sum = L.sum + x * bs.sum
  | [], _, L, _ => by
    show L.sum = L.sum + x * 0
    omega
  | y :: r, k, L, h => by
    rw [List.length_cons] at h
    show (mulRow j x (k + 1) r (L.set (j + k) _)).sum = _
    rw [row_sum j x r (k + 1) _ (by rw [List.length_set]; omega), sum_set (by omega), List.sum_cons, Int.mul_add]
    omega
theorem all_sum (bs : List Int) : ∀ (as : List Int) (j : Nat) (L : List Int), j + as.length + bs.length ≤ L.length → (mulAll bs j as L).sum = L.sum + as.sum * bs.sum
  | [], _, L, _ => by
    show L.sum = L.sum + 0 * bs.sum
    omega
  | x :: r, j, L, h => by
    rw [List.length_cons] at h
    show (mulAll bs (j + 1) r _).sum = _
    rw [all_sum bs r (j + 1) _ (by rw [row_len]; omega), row_sum j x bs 0 L (by omega), List.sum_cons, Int.add_mul]
    omega
theorem rep_sum : ∀ n : Nat, (List.replicate n (0 : Int)).sum = 0
  | 0 => rfl
  | n + 1 => by
    rw [List.replicate_succ, List.sum_cons, rep_sum n]
    rfl
theorem mul_sum (as bs : List Int) : (mulL as bs).sum = as.sum * bs.sum := by
  unfold mulL
  rw [all_sum bs as 0 _ (by rw [List.length_replicate]; omega), rep_sum, Int.zero_add]
theorem le_sum : ∀ {L : List Int}, (∀ n ∈ L, 0 ≤ n) → 0 ≤ L.sum ∧ ∀ n ∈ L, n ≤ L.sum
  | [], _ => ⟨Int.le_refl _, fun _ z => nomatch z⟩
  | x :: r, h => by
    obtain ⟨a, b⟩ := le_sum (L := r) fun n hn => h n (List.mem_cons_of_mem _ hn)
    have hx := h x List.mem_cons_self
    rw [List.sum_cons]
    refine ⟨by omega, fun n hn => ?_⟩
    rcases List.mem_cons.mp hn with e | e
    · rw [e]
      omega
    · have := b n e
      omega
end My

namespace My
open PySem PySem.Spec PyProof.Rows L2
/-! ### an instance compared by its own methods; != by object.__ne__; str(o) -/
section
open PySem.W
variable {prog : Program} {w : World} {A : Around} {E : Value → Shared → Prop} {s : Shared} {K : PySem.W.Frag} {x C L f : Addr} {h₀ : Heap} {m : Str → Option Value} {ox : Obj} {od : Option Obj} {tb b : Value}
theorem ifBound_B {M : Model} {name : Str} {id : String} {args : List Value} {Q : Option Value → Shared → Prop} (X : K.In s.heap) (I : PySem.W.InstAt s.heap x ox C od) (hs : PySem.W.findIn K (.ref C) name = some (some (.builtin id))) (hb : ∀ self, bindSpecial (.builtin id) self = pure (.builtin id, [self]))
    (h : wpAny M A (call (.builtin id) (.ref x :: args)) (fun v => Q (some v)) E s) : wpAny M A (callSpecialIfBound? (.ref x) name args) Q E s := by
  simp only [callSpecialIfBound?, bindSpecialIfBound?]
  refine wpAny_holding (wpAny_bind (wpAny_bind (wpAny_bind (I.type.here ((PySem.W.looks_findIn X hs).here ?_)))))
  refine wpAny_bind (wpAny_askSetting (wpAny_ite ?_))
  have fin : wpAny M A (call (.builtin id) ([.ref x] ++ args) >>= fun v => pure (some v)) Q E s := wpAny_bind (wpAny_mono h (fun v s' h' => wpAny_pure h') fun _ _ h' => h')
  split
  · exact wpAny_bind ((PySem.W.Looks.of_pure (hb _)).here (wpAny_pure (by exact fin)))
  · exact wpAny_tryCatch (wpAny_bind ((PySem.W.Looks.of_pure (hb _)).here (wpAny_pure (by exact fin))))
theorem ne_K {Q : Value → Shared → Prop} (hu : A.units + 1 < cLine) (F : Fr h₀ L s.heap m) (X₀ : K.In h₀) (I : PySem.W.InstAt s.heap x ox C od) (hb : PySem.W.Looks (model prog w) s.heap (typeOf b) tb) (hn : PySem.W.notFirst K C tb = true)
    (hs : PySem.W.findIn K (.ref C) "__eq__" = some (some (.ref f))) (hf : PySem.W.isFn K (.ref f) = true) (hne : PySem.W.findIn K (.ref C) "__ne__" = some (some (.builtin "object.__ne__"))) (hm : PySem.W.mroIn K C (.type "object") = some true)
    (h : wpAny (model prog w) A.in1 (call (.ref f) [.ref x, b]) (fun v s' => ∃ k, v = .bool k ∧ Q (.bool (!k)) s') E s) : wpAny (model prog w) A (richCompare .NotEq (.ref x) b) Q E s := by
  have X := X₀.keeps F.keep
  have one : wpAny (model prog w) A (tryCompare (.ref x) "__ne__" b) (fun r s' => ∃ v, r = some v ∧ Q v s') E s := by
    unfold tryCompare
    refine wpAny_bind (ifBound_B X I hne PySem.F.slot_object_ne.bind ?_)
    refine wpAny_call (codeAny_call_builtin PySem.F.slot_object_ne.plain PySem.F.cmpEntry_ne (PySem.W.check_slot PySem.F.cmpKind_ne PySem.F.cmpSplit_ne (I.type.andThen (PySem.W.looks_mroIn X hm)) (PySem.F.cmpArgs_ne _ _) ?_))
    unfold Builtin.«object.__ne__»
    refine wpAny_bind (m := slotArgs "__ne__" 1 _) (wpAny_pure ?_)
    refine wpAny_bind (wpAny_cRoomFor (by show A.units + 1 < cLine; exact hu) ?_)
    refine wpAny_bind (m := callSpecialIfBound? (.ref x) (Str.ofString "__eq__") _) (PySem.W.ifBound_K X I hs hf (wpAny_mono h (fun v s' hv => ?_) fun _ _ e => e))
    obtain ⟨k, rfl, hq⟩ := hv
    refine wpAny_bind (m := truthy (.bool k)) (wpAny_truthy_bool ?_)
    exact wpAny_pure (wpAny_pure ⟨_, rfl, hq⟩)
  unfold richCompare
  simp only [oneThing_ref]
  refine wpAny_holding (wpAny_bind (wpAny_cRoomFor (Nat.lt_of_succ_lt hu) ?_))
  rw [cmpInfo_NotEq]
  dsimp only
  refine wpAny_bind (I.type.here (wpAny_bind (hb.here ?_)))
  split
  · rename_i q
    have e : PySem.W.subIn K tb (.ref C) = some false := by
      rcases Bool.or_eq_true_iff.mp hn with e | e
      · rw [beq_iff_eq.mp e] at q; simp at q
      · exact beq_iff_eq.mp e
    refine wpAny_bind ((PySem.W.looks_subIn X e).here ?_)
    simp only [Bool.false_eq_true, if_false]
    refine wpAny_bind (wpAny_mono one (fun r s' z => ?_) fun _ _ e => e)
    obtain ⟨v, rfl, hq⟩ := z
    exact wpAny_pure hq
  · refine wpAny_bind (wpAny_pure ?_)
    simp only [Bool.false_eq_true, if_false]
    refine wpAny_bind (wpAny_mono one (fun r s' z => ?_) fun _ _ e => e)
    obtain ⟨v, rfl, hq⟩ := z
    exact wpAny_pure hq
end
section
variable {X : Cx} {CX : CXT} {k : Nat} {C g : Addr} {sp : Sp} {E : XK}
/-- o op y by o's own method, y of any type that is not below o's -/
def rCmpO (K : PySem.W.Frag) (C : Addr) (sp : Sp) (E : XK) : R2 := fun x y H Q => ∃ a dx fs ty, x = .ref a ∧ H a = some (.ins C dx fs) ∧ TyX K H y ty ∧ PySem.W.notFirst K C ty = true ∧ sp [x, y] H Q E
theorem op_cmpO {op : CmpOp} (hop : ∀ a b, compareOp op a b = richCompare op a b) (M : OwnM X.K C (cmpInfo op).2.1 g) (F : FnR X.prog X.w X.K X.mg X.base CX k g sp) (hr : Room k X.A) (hx : Passes CX X E) : OpR X (compareOp op) (rCmpO X.K C sp E) := by
  intro pins s σ H x y v u Q I rx ry h
  obtain ⟨a, dx, fs, ty, rfl, ea, hty, hn, q⟩ := h
  cases (show v = Value.ref a from rx)
  obtain ⟨mA, O, _⟩ := ins_get I.hok ea
  obtain ⟨od, J, _⟩ := O.look
  obtain ⟨m', hF⟩ := I.fr
  obtain ⟨PP, Z, pp, _⟩ := kit_of I ry hty
  rw [hop]
  refine PySem.W.cmp_K (op := op) (tb := ty) hr.units0 hF I.ok.mod.kin J (Z.ty _ _ I.kIn pp) hn M.at_ M.fn (wpAny_mono (wpAny_call (run_fnR (us := [.ref a, u]) (vs := [.ref a, y]) F hr hx I (.cons rfl (.cons ry .nil)) q)) (fun z s' hz => ?_) fun _ _ z => z)
  obtain ⟨z', H', I', rz, qz⟩ := hz
  exact SlX.cmpback rz ⟨z', H', I', rz, qz⟩
/-- o != y where o has its own __eq__ alone -/
def rNeO (K : PySem.W.Frag) (C : Addr) (sp : Sp) (E : XK) : R2 := fun x y H Q => ∃ a dx fs ty, x = .ref a ∧ H a = some (.ins C dx fs) ∧ TyX K H y ty ∧ PySem.W.notFirst K C ty = true ∧ sp [x, y] H (fun v H' => ∃ b, v = .bl b ∧ Q (.bl (!b)) H') E
theorem op_neO (M : OwnM X.K C "__eq__" g) (hne : PySem.W.findIn X.K (.ref C) "__ne__" = some (some (.builtin "object.__ne__"))) (hm : PySem.W.mroIn X.K C (.type "object") = some true) (F : FnR X.prog X.w X.K X.mg X.base CX k g sp) (hr : Room (k + 1) X.A) (hx : Passes CX X E) : OpR X (compareOp .NotEq) (rNeO X.K C sp E) := by
  intro pins s σ H x y v u Q I rx ry h
  obtain ⟨a, dx, fs, ty, rfl, ea, hty, hn, q⟩ := h
  cases (show v = Value.ref a from rx)
  obtain ⟨mA, O, _⟩ := ins_get I.hok ea
  obtain ⟨od, J, _⟩ := O.look
  obtain ⟨m', hF⟩ := I.fr
  obtain ⟨PP, Z, pp, _⟩ := kit_of I ry hty
  have hu : X.A.units + 1 < cLine := by have := hr.units; omega
  refine ne_K (tb := ty) hu hF I.ok.mod.kin J (Z.ty _ _ I.kIn pp) hn M.at_ M.fn hne hm (wpAny_mono (wpAny_call (SlX.run_at (us := [.ref a, u]) (ws := [.ref a, y]) F hr.in1 I.env0.in1 hx I (.cons rfl (.cons ry .nil)) q)) (fun z s' hz => ?_) fun _ _ z => z)
  obtain ⟨z', H', I', rz, b, ez, qz⟩ := hz
  subst ez
  cases (show z = Value.bool b from rz)
  exact ⟨b, rfl, .bl (!b), H', I', rfl, qz⟩
/-- str(o) by its own __str__ -/
def rStrO (C : Addr) (sp : Sp) (E : XK) : List V → Hp → VK → Prop := fun xs H Q => ∃ a dx fs, xs = [V.ref a] ∧ H a = some (.ins C dx fs) ∧ sp [.ref a] H (fun v H' => ∃ z, v = .str z ∧ Q (.str z) H') E
theorem call_strO (M : OwnM X.K C "__str__" g) (F : FnR X.prog X.w X.K X.mg X.base CX k g sp) (hr : Room (k + 2) X.A) (hx : Passes CX X E) : CallR X (.type "str") (rStrO C sp E) := by
  intro pins s σ H xs us Q I r h
  obtain ⟨a, dx, fs, rfl, ha, q⟩ := h
  obtain ⟨u, rfl, ru⟩ := vals1 r
  cases (show u = Value.ref a from ru)
  obtain ⟨mA, O, _⟩ := ins_get I.hok ha
  obtain ⟨od, J, _⟩ := O.look
  have hr2 : Room k X.A.in1.in1 := (show Room (k + 1) X.A.in1 from Room.in1 hr).in1
  refine PySem.W.kso_call hr2.units0 I.kIn J M.at_ M.fn (wpAny_mono (wpAny_call (SlX.run_at (us := [.ref a]) (ws := [.ref a]) F hr2 I.env0.in1.in1 hx I (.cons rfl .nil) q)) (fun v s' z => ?_) fun _ _ x => x)
  obtain ⟨z', H', I', rz, y, ez, qz⟩ := z
  subst ez
  obtain ⟨t, e⟩ := (show ∃ t, v = Value.str y t from rz)
  cases e
  exact ⟨.str y, H', I', ⟨_, rfl⟩, qz⟩
/-! ### the order of data -/
def rLtDa (K : PySem.W.Frag) (f : PyData → PyData → Bool) : R2 := fun x y H Q => ∃ d e, Dp K H x d ∧ Dp K H y e ∧ PySem.W.alike d e = true ∧ d ≠ .none ∧ d.depth ≤ 60 ∧ Q (.bl (f d e)) H
theorem min_fit {a b : Nat} {A : Around} (hu : A.units + 64 < cLine) (h : a ≤ 60) : A.units + min a b < cLine := by omega
theorem op_ltDa (hu : X.A.units + 64 < cLine) : OpR X (compareOp .Lt) (rLtDa X.K PySem.W.dataLt) := by
  intro pins s σ H x y v u Q I rx ry ⟨d, e, hd, he, al, hn, dep, q⟩
  obtain ⟨as, r1⟩ := Dp.reads I d x v hd rx
  obtain ⟨bs, r2⟩ := Dp.reads I e y u he ry
  exact PySem.W.lt_data r1 r2 al hn (min_fit hu dep) ⟨.bl _, H, I, rfl, q⟩
theorem op_gtDa (hu : X.A.units + 64 < cLine) : OpR X (compareOp .Gt) (rLtDa X.K fun d e => PySem.W.dataLt e d) := by
  intro pins s σ H x y v u Q I rx ry ⟨d, e, hd, he, al, hn, dep, q⟩
  obtain ⟨as, r1⟩ := Dp.reads I d x v hd rx
  obtain ⟨bs, r2⟩ := Dp.reads I e y u he ry
  exact PySem.W.gt_data r1 r2 al hn (min_fit hu dep) ⟨.bl _, H, I, rfl, q⟩
theorem op_leDa (hu : X.A.units + 64 < cLine) : OpR X (compareOp .LtE) (rLtDa X.K fun d e => !PySem.W.dataLt e d) := by
  intro pins s σ H x y v u Q I rx ry ⟨d, e, hd, he, al, hn, dep, q⟩
  obtain ⟨as, r1⟩ := Dp.reads I d x v hd rx
  obtain ⟨bs, r2⟩ := Dp.reads I e y u he ry
  exact PySem.W.le_data r1 r2 al hn (min_fit hu dep) ⟨.bl _, H, I, rfl, q⟩
theorem op_geDa (hu : X.A.units + 64 < cLine) : OpR X (compareOp .GtE) (rLtDa X.K fun d e => !PySem.W.dataLt d e) := by
  intro pins s σ H x y v u Q I rx ry ⟨d, e, hd, he, al, hn, dep, q⟩
  obtain ⟨as, r1⟩ := Dp.reads I d x v hd rx
  obtain ⟨bs, r2⟩ := Dp.reads I e y u he ry
  exact PySem.W.ge_data r1 r2 al hn (min_fit hu dep) ⟨.bl _, H, I, rfl, q⟩
end
end My

/-! ### enumerate(a tuple) -/
namespace My
open PySem PySem.Spec PyProof.Rows L2
theorem meets_enumerate_newT (l : Addr) (items : Array Value) (n : Nat) (dct : Option Addr) (sl : Array (Option Value)) :
    Meets (Builtin.«enumerate.__new__» ⟨[.type "enumerate", .ref l], []⟩) (fun _ R s => s.heap.get? l = some { cls := .type "tuple", dict := dct, data := .seq items n, slots := sl } ∧
      R (.ok (.ret (.ref (s.heap.push { cls := .type "tuple_iterator", data := .fields #[.ref l, .int 0 0] }).objs.size)))
        { s with heap := (s.heap.push { cls := .type "tuple_iterator", data := .fields #[.ref l, .int 0 0] }).push { cls := .type "enumerate", data := .fields #[.none, .bool false, .ref s.heap.objs.size, rawInt 0, .none, .none] } }) :=
  .of_wp fun prog w A R s h => by
    obtain ⟨hp, g, d, tk, os⟩ := s
    obtain ⟨hl, h⟩ := h
    have hL : hp.IsTuple l items := ⟨_, hl, rfl, n, rfl⟩
    have hsub := sub_enumerate
    wp_walk
    refine wpAny_stack_any fun st => wpAny_pure ?_
    split
    · rename_i c _ _ _ _ _
      cases (c == Value.type "enumerate")
      · wp_walk using wpAny_loadPart' hl, wpAny_pyIter_tuple hL
        exact ⟨_, rfl, h⟩
      · wp_walk using wpAny_loadPart' hl, wpAny_pyIter_tuple hL
        exact ⟨_, rfl, h⟩
    · wp_walk using wpAny_loadPart' hl, wpAny_pyIter_tuple hL
      exact ⟨_, rfl, h⟩
section
variable {prog : Program} {w : World} {A : Around} {E : Value → Shared → Prop} {s : Shared}
theorem call_enumerate_tuple {l : Addr} {items : Array Value} {Q : Value → Shared → Prop} (hL : s.heap.IsTuple l items)
    (h : ∀ h', IsEnum h' (s.heap.objs.size + 1) s.heap.objs.size 0 .none → h'.IsTupleIter s.heap.objs.size l 0 → h'.objs.size = s.heap.objs.size + 2 →
      (∀ b o, s.heap.get? b = some o → h'.get? b = some o) → Q (.ref (s.heap.objs.size + 1)) { s with heap := h' }) :
    wpAny (model prog w) A (call (.type "enumerate") [.ref l]) Q E s := by
  obtain ⟨⟨c, dct, dt, sl⟩, hl, hc, n, hd⟩ := hL
  replace hc : c = .type "tuple" := hc
  replace hd : dt = .seq items n := hd
  subst hc hd
  refine callType_new F.called_enumerate (by decide) (F.typeCall_enumerate_1 _) (F.newCall_enumerate_1 _) (fun obj => F.args_object_init_2 obj _) F.entry_enumerate_new
    (meets_enumerate_newT l items n dct sl) ⟨hl, ?_⟩
  have hz : (s.heap.push { cls := .type "tuple_iterator", data := .fields #[.ref l, .int 0 0] }).objs.size = s.heap.objs.size + 1 := Heap.size_push ..
  show _ ∧ _
  rw [hz]
  have he : IsEnum ((s.heap.push { cls := .type "tuple_iterator", data := .fields #[.ref l, .int 0 0] }).push
      { cls := .type "enumerate", data := .fields #[.none, .bool false, .ref s.heap.objs.size, rawInt 0, .none, .none] }) (s.heap.objs.size + 1) s.heap.objs.size 0 .none := by
    have := Heap.get?_push_size (s.heap.push { cls := .type "tuple_iterator", data := .fields #[.ref l, .int 0 0] })
      (o := { cls := .type "enumerate", data := .fields #[.none, .bool false, .ref s.heap.objs.size, rawInt 0, .none, .none] }) rfl
    rw [hz] at this; exact this
  refine ⟨⟨_, he, rfl⟩, h _ he ⟨_, Heap.get?_push_of_some _ (Heap.get?_push_size _ rfl), rfl, rfl⟩ (by rw [Heap.size_push, hz]) fun b o x => Heap.get?_push_of_some _ (Heap.get?_push_of_some _ x)⟩
theorem enum_endT {e it l : Addr} {i : Nat} {items : Array Value} {old : Value} {Q : Option Value → Shared → Prop} (hh : A.in1.handled = none)
    (he : IsEnum s.heap e it i old) (hit : s.heap.IsTupleIter it l i) (hl : s.heap.IsTuple l items) (hx : items[i]? = none)
    (hQ : ∀ h', Heap.ExtBut it s.heap h' → Q none { s with heap := h' }) : wpAny (model prog w) A (pyNext (.ref e)) Q E s := by
  have hT : s.TypeIs (.ref e) "enumerate" := ⟨_, he, rfl⟩
  unfold pyNext
  refine wpAny_bind (wpAny_attempt (wpAny_callSpecial?_slot (name := Str.ofString "__next__") hT F.slot_enumerate_next
    (wpAny_call_entry F.slot_enumerate_next hT F.entry_enumerate_next ?_ (F.args_enumerate_next_1 _))))
  show wpAny _ _ (field (.ref e) 2 >>= _) _ _ _
  refine wpAny_bind (wpAny_field he rfl (x := .ref it) rfl ?_)
  refine wpAny_bind (wpAny_nextOf_tuple_end hh hit hl hx fun h' x he' hx' => ?_)
  obtain ⟨o, ho, hc⟩ := hx'
  refine wpAny_bind (wpAny_isInstance (T := "StopIteration") (b := true) ⟨o, ho, hc⟩ isSubtype_stop ?_)
  exact wpAny_pure (hQ _ he')
end
/-- the tuple at a, each item in a new pair -/
def IteT (K : PySem.W.Frag) (a : Addr) : It :=
  ⟨fun i H => ∃ (xs : List V) (x : V), SqT K H a xs ∧ xs[i]? = some x, fun i H v H' => ∃ T x, v = .ref T ∧ H T = none ∧ H' = upd H T (.tup [.int (i : Nat), x]) ∧ ∀ xs, SqT K H a xs → xs[i]? = some x, fun i H => ∃ xs : List V, SqT K H a xs ∧ xs.length ≤ i⟩
theorem turn_enumT {P : Program} {w : World} {K : PySem.W.Frag} {elts : List Expr} {kk : Nat} {tpos : Pos} (a e it : Addr) (ea : e ≠ a) (ia : a ≠ it) :
    Turn P w K (.Tuple elts kk tpos) (IteT K a) [e, it] e (fun i h => (∃ old, IsEnum h e it ((i : Nat) : Int) old) ∧ h.IsTupleIter it a i ∧ e ≠ it) where
  mem := by simp
  obj := fun i h st b hb => by
    obtain ⟨⟨old, he⟩, ⟨o, ho, hc, hd⟩, _⟩ := st
    have e' : b = e ∨ b = it := by simpa using hb
    rcases e' with z | z
    · rw [z]; exact ⟨_, he, fun v q => nomatch q⟩
    · rw [z]; exact ⟨o, ho, fun v q => by rw [hd] at q; cases q⟩
  keep := fun i h h' st k => let ⟨⟨old, he⟩, hi, hne⟩ := st; ⟨⟨old, k e (by simp) _ he⟩, hi.at fun o q => k it (by simp) o q, hne⟩
  item := by
    intro X hP hw hK hc i pins s σ H E I hf st hg
    subst hP hw hK
    obtain ⟨⟨old, he⟩, hit, hne⟩ := st
    obtain ⟨xs, x, hq, hx⟩ := hg
    obtain ⟨its, rv, p, hz⟩ := I.tuple hq
    obtain ⟨u, hu, ru⟩ := rv.get hx
    have hel : e < s.heap.objs.size := Heap.lt_size he
    have hil : it < s.heap.objs.size := by obtain ⟨_, q, _⟩ := hit; exact Heap.lt_size q
    have hlt : i < its.toArray.size := by
      rw [List.size_toArray]
      exact (List.getElem?_eq_some_iff.mp hu).1
    refine wpAny_pyNext_enum_itemD (Draws.tuple (A := X.A.in1) (show X.A.in1.handled = none from I.ok.hd hc) it a ia its.toArray) he ⟨hit, p⟩ hlt hne (by simp [hne, ea]) fun x' h' tk hx' ho hst hT hsz hk => ?_
    obtain rfl : u = x' := by
      have z : its[i]? = some x' := by simpa using hx'
      rw [hu] at z
      exact Option.some.inj z
    obtain ⟨hit', _⟩ := hst
    refine ⟨_, rfl, wpAny_letOwnedTupleGo_enum (s := { s with heap := h', toks := tk + 1 }) ho fun h'' he' sb => ?_⟩
    have hT2 : h''.get? s.heap.objs.size = some { cls := .type "tuple", data := .seq #[.int i tk, u] } := (sb.2 _ (Nat.ne_of_gt hel)).trans hT
    have new : ObjOk X.prog X.w (upd H s.heap.objs.size (.tup [.int (i : Nat), x])) h'' s.heap.objs.size (.tup [.int (i : Nat), x]) :=
      ⟨by show 2 ≤ sizeLine; decide, [.int i tk, u], .cons ⟨_, rfl⟩ (.cons ru .nil), ⟨_, hT2, rfl, _, rfl⟩⟩
    have I1 : Inv X pins σ (upd H s.heap.objs.size (.tup [.int (i : Nat), x])) { s with heap := h'', toks := tk + 1 } :=
      I.turnedNew (ch := [e, it]) (fun b ob hb q => (sb.2 b (fun z => hb (by simp [z]))).trans (hk b ob (fun z => hb (by simp [z])) (fun z => hb (by simp [z])) q)) hf (Nat.le_refl _) new
    refine ⟨.ref s.heap.objs.size, _, I1, rfl, ⟨_, x, rfl, I.hok.fresh (Nat.le_refl _), rfl, fun ys hy => by rw [I.tuple_inj hy hq]; exact hx⟩, ⟨⟨u, ?_⟩, hit'.at fun o q => (sb.2 it (Ne.symm hne)).trans q, hne⟩, fun b hb => ?_⟩
    · have e1 : ((i + 1 : Nat) : Int) = (i : Int) + 1 := by omega
      rw [e1]; exact he'
    · have hb' : b < s.heap.objs.size := by
        have e' : b = e ∨ b = it := by simpa using hb
        rcases e' with z | z
        · rw [z]; exact hel
        · rw [z]; exact hil
      rw [upd_ne (Nat.ne_of_lt hb')]
      exact (hf b hb).1
  done := by
    intro X hP hw hK hc i pins s σ H E I hf st hg
    subst hP hw hK
    obtain ⟨⟨old, he⟩, hit, hne⟩ := st
    obtain ⟨xs, hq, hx⟩ := hg
    obtain ⟨its, rv, p, hz⟩ := I.tuple hq
    obtain ⟨f0, f1, f2, f3, f4, f5⟩ := hf it (by simp)
    have hl := rv.length
    exact enum_endT (show X.A.in1.handled = none from I.ok.hd hc) he hit p (by simp; omega) fun h' eb => ⟨rfl, I.turned (t' := s.toks) (fun b o hb q => eb b o hb q) f0 f1 f3 f4 f5⟩
  self := fun A i s Q E st h => let ⟨⟨_, he⟩, _⟩ := st; wpAny_pyIter_enum he h
def iEnumT (K : PySem.W.Frag) (ta : TA) : TI := fun σ H R => ta σ H fun vs H1 => ∃ a xs, vs = [.ref a] ∧ SqT K H1 a xs ∧ R (IteT K a) H1
theorem pi_enumT {X : Cx} {e : Expr} {ta : TA} {p pos tpos : Pos} {elts : List Expr} {kk : Nat} (hg : Gl X "enumerate") (hm : X.mg "enumerate" = none) (ha : PA X [e] ta) (hs : starEach [e] X.env = [(false, eval e X.env)] := by rfl) :
    PI X (.Tuple elts kk tpos) (.Call (.Name "enumerate" p) [e] [] pos) (iEnumT X.K ta) := by
  refine ⟨fun pins s σ H R I h => ?_⟩
  refine Call_ (ld_blt I hg hm boot_enumerate (PyProof.Rows.callWith_type1 (thn (ha.run pos pins s σ H _ I h) fun us s1 ⟨vs, H1, I1, r1, q1⟩ => ?_) hs rfl))
  obtain ⟨a, xs, ex, hq, q⟩ := q1
  subst ex
  cases r1 with
  | cons r rr =>
    cases rr
    cases r
    obtain ⟨its, rv, p', hz⟩ := I1.tuple hq
    have al : a < s1.heap.objs.size := by
      obtain ⟨o, ho, _⟩ := p'
      exact Heap.lt_size ho
    refine call_enumerate_tuple p' fun h' he hit hsz hk => wpAny_pyIter_enum he ?_
    have I2 : Inv X pins σ H1 { s1 with heap := h' } := I1.kept (t' := s1.toks) hk
    refine ⟨s1.heap.objs.size + 1, [s1.heap.objs.size + 1, s1.heap.objs.size], _, _, H1, rfl, I2, turn_enumT a (s1.heap.objs.size + 1) s1.heap.objs.size (Nat.ne_of_gt (Nat.lt_succ_of_lt al)) (Nat.ne_of_lt al), ⟨⟨.none, he⟩, hit, Nat.succ_ne_self _⟩, fun b hb => ?_, q⟩
    have e' : b = s1.heap.objs.size + 1 ∨ b = s1.heap.objs.size := by simpa using hb
    have hle : s1.heap.objs.size ≤ b := by
      rcases e' with z | z
      · rw [z]; exact Nat.le_add_right _ _
      · rw [z]; exact Nat.le_refl _
    exact I1.fpOk hle (I1.hok.fresh hle)
theorem walk_enumT {K : PySem.W.Frag} {a : Addr} {xs : List V} : Walk (IteT K a) xs.length (fun H => SqT K H a xs) (YPair (fun i => some (.int (i : Nat))) (fun i => xs[i]?)) := by
  refine ⟨fun i _ hi q => ⟨xs, xs[i], q, by simp [hi]⟩, fun _ q => ⟨xs, q, Nat.le_refl _⟩, fun i H v H' _ q y => ?_⟩
  obtain ⟨T, x, h1, h2, h3, h4⟩ := y
  exact ⟨T, .int (i : Nat), x, h1, h2, h3, rfl, h4 xs q⟩
end My

namespace My
open PySem PySem.Spec PyProof.Rows L2
abbrev s_multiplied : Stmt := topS 15
theorem sc_multiplied : FnScope ["one", "other", "factors", "j", "first", "k", "second", "_"] ["one", "other"] (defScope s_multiplied) := ⟨rfl, rfl, rfl, by decide +kernel, rfl, by decide +kernel, by decide +kernel⟩

structure TxtQ (mg : Str → Option Value) : Prop where
  n_len : mg "len" = none
  n_range : mg "range" = none
  n_enumerate : mg "enumerate" = none
  n_max : mg "max" = none
/-- factors that may be multiplied -/
def Big (ns : List Int) : Prop := ns.length ≤ 300 ∧ ∀ n ∈ ns, 0 ≤ n ∧ n.natAbs < 2 ^ 1000
theorem Big.mul {as bs : List Int} (ha : Big as) (hb : Big bs) {i j : Nat} (hi : i < as.length) (hj : j < bs.length) : CMulW as[i] bs[j] := wide_mul (a := 1000) (b := 1000) (ha.2 _ (List.getElem_mem hi)).2 (hb.2 _ (List.getElem_mem hj)).2 (by decide) (by decide) (by decide)
structure spMulT (vs : List V) (H : Hp) (Q : VK) (E : XK) : Prop where
  ex : ∃ a b as bs, vs = [.ref a, .ref b] ∧ Rd H a (.tup (as.map V.int)) ∧ Rd H b (.tup (bs.map V.int)) ∧ Big as ∧ Big bs ∧ ∀ r H', Same H H' → Rd H' r (.tup ((trimN (mulL as bs)).map V.int)) → Q (.ref r) H'
theorem ix_nat {n i : Nat} (h : i < n) : ixN n (i : Int) = some i := by
  unfold ixN
  rw [if_pos (by omega), if_pos (by omega), Int.toNat_natCast]
theorem get_nat {L : List Int} {i : Nat} (h : i < L.length) : atI (L.map V.int) (i : Int) = some (V.int (L.getD i 0)) := atI_nat (by rw [List.getElem?_map, List.getD_eq_getElem?_getD, List.getElem?_eq_getElem h]; rfl)
section
variable {P : Program} {w : World} {K : PySem.W.Frag} {mg : Str → Option Value} {base : Heap}
theorem ok_multiplied {f f1 : Addr} {fd fd1 : FuncData} {k : Nat} (F : Fun K "multiplied" "multiplied" s_multiplied f fd) (T : TxtQ mg) (F_trimmed : Fun K "trimmed" "trimmed" s_trimmed f1 fd1) (b_trimmed : Binds K fd1 ["factors"] []) (g_trimmed : mg "trimmed" = some (.ref f1)) (G_trimmed : FnOk P w K mg base CX0 1 f1 fd1 ["factors"] spTrim) : FnOk P w K mg base CX0 (k + 2) f fd ["one", "other"] spMulT := by
  refine F.ok sc_multiplied (fun vs H Q E h => ?_) (fun cdv A outer s H vs Q E hr h => ?_)
  · obtain ⟨a, b, as, bs, rfl, _⟩ := h
    rfl
  · obtain ⟨a, b, as, bs, rfl, ha, hb, ba, bb, q⟩ := h
    refine ⟨_, (pss_cons (ps_setLc (i := 2) (own := [("_", 7)]) (g := gName 7) rfl sc_multiplied.nd rfl rfl (sw_true rfl rfl rfl (by decide +kernel)) (pi_range1 (by rfl) T.n_range (pa_cons (pe_op op_add (pe_callB call_len_seq (by rfl) T.n_len (by decide +kernel) (pa_cons (pv 0) pa_nil)) (pe_callB call_len_seq (by rfl) T.n_len (by decide +kernel) (pa_cons (pv 1) pa_nil))) pa_nil)) (blkOk_by (own := [("_", 7)]) (N := ["one", "other", "factors", "j", "first", "k", "second", "_"]) (sc := defScope s_multiplied) (by decide +kernel)) (fun _ _ _ _ _ => (pg_name (i := 7) sc_multiplied.nd rfl (.inl rfl))) (fun _ _ _ _ _ => pts_nil) (fun _ _ _ _ _ => pe_int))
  (pss_cons (ps_for PassesOwn.never rfl (pi_enumT (by rfl) T.n_enumerate (pa_cons (pv 0) pa_nil)) (pg_tup rfl (pgs_cons (pg_name (i := 3) sc_multiplied.nd rfl (.inl rfl)) (pgs_cons (pg_name (i := 4) sc_multiplied.nd rfl (.inl rfl)) pgs_nil)))
   (pss_one (ps_for PassesOwn.never rfl (pi_enumT (by rfl) T.n_enumerate (pa_cons (pv 1) pa_nil)) (pg_tup rfl (pgs_cons (pg_name (i := 5) sc_multiplied.nd rfl (.inl rfl)) (pgs_cons (pg_name (i := 6) sc_multiplied.nd rfl (.inl rfl)) pgs_nil)))
   (pss_one (ps_asg (pe_op op_add (pe_ix ix_list (pv 2) (pe_op op_add (pv 3) (pv 5)) (fun _ _ => rfl)) (pe_op op_mulW (pv 4) (pv 6))) (pg_sub (pv 2) (pe_op op_add (pv 3) (pv 5)) set_list))))))
  (pss_one (ps_ret (pe_call G_trimmed (hr.mono (by omega)) (by rfl) g_trimmed F_trimmed.kp b_trimmed .nil pass0 (pa_cons (pv 2) pa_nil)))))), ?_⟩
    clear G_trimmed
    have la := ba.1
    have lb := bb.1
    refine ⟨_, rfl, a, _, rfl, .inr (.inl ha), _, rfl, b, _, rfl, .inr (.inl hb), _, _, rfl, rfl, ?_⟩
    rw [List.length_map, List.length_map]
    refine ⟨((as.length + bs.length : Nat) : Int), rfl, by omega, by omega, fun L nL => ?_⟩
    have nLH : H L = none := nL
    refine lc_range (n := Int.toNat ((as.length + bs.length : Nat) : Int)) (fun j H3 => Same H H3 ∧ H3 L = some (.lst ((List.replicate j (0 : Int)).map V.int))) ⟨same_upd nL, upd_same⟩ ?_ ?_
    · rintro j H3 hj ⟨s3, e3⟩
      refine ⟨rfl, ?_⟩
      unfold tYes
      dsimp only
      rw [if_pos rfl]
      refine ⟨_, e3, ?_, same_at s3 nL, ?_⟩
      · rw [List.length_map, List.length_replicate]
        exact small1000 (by omega)
      · rw [upd_same, List.replicate_succ', List.map_append]
        rfl
    rintro H2 ⟨s2, e2⟩
    rw [Int.toNat_natCast] at e2
    refine ⟨_, rfl, a, _, rfl, .inl (rd_same ha s2), ?_⟩
    refine for_it (walk_enumT (xs := as.map V.int)) (fun i σ H5 => Same H H5 ∧ ∃ (M : List Int) (v3 v4 v5 v6 : Option V), σ = [some (.ref a), some (.ref b), some (.ref L), v3, v4, v5, v6, none] ∧ H5 L = some (.lst (M.map V.int)) ∧ M.length = as.length + bs.length ∧ mulAll bs i (as.drop i) M = mulL as bs) ⟨s2, _, none, none, none, none, rfl, e2, List.length_replicate, rfl⟩ (fun i σ H5 _ h => .inl (rd_same ha h.1)) ?_ ?_
    · rintro i x σ H5 H6 hi ⟨s5, M, v3, v4, v5, v6, rfl, eL, lM, inv⟩ ⟨T5, x5, y5, rfl, nT, rfl, ex, ey⟩
      rw [List.length_map] at hi
      have ey : (as.map V.int)[i]? = some y5 := ey
      rw [List.getElem?_map, List.getElem?_eq_getElem hi] at ey
      obtain rfl : V.int as[i] = y5 := Option.some.inj ey
      obtain rfl : V.int (i : Nat) = x5 := Option.some.inj ex
      rw [List.drop_eq_getElem_cons hi] at inv
      have s6 := s5.trans (same_upd (o := .tup [V.int (i : Nat), V.int as[i]]) nT)
      have eL6 := (same_upd (o := .tup [V.int (i : Nat), V.int as[i]]) nT) _ _ eL
      refine ⟨T5, _, rfl, .inl (.inl upd_same), rfl, _, _, rfl, _, _, rfl, rfl, ?_⟩
      generalize upd H5 T5 (.tup [V.int (i : Nat), V.int as[i]]) = H6 at s6 eL6 ⊢
      refine ⟨_, rfl, b, _, rfl, .inl (rd_same hb s6), ?_⟩
      refine for_it (walk_enumT (xs := bs.map V.int)) (fun j σ H7 => Same H H7 ∧ ∃ (N : List Int) (v5 v6 : Option V), σ = [some (.ref a), some (.ref b), some (.ref L), some (.int (i : Nat)), some (.int as[i]), v5, v6, none] ∧ H7 L = some (.lst (N.map V.int)) ∧ N.length = as.length + bs.length ∧ mulRow i as[i] j (bs.drop j) N = mulRow i as[i] 0 bs M) ⟨s6, M, _, _, rfl, eL6, lM, rfl⟩ (fun j σ H7 _ h => .inl (rd_same hb h.1)) ?_ ?_
      · rintro j x σ H7 H8 hj ⟨s7, N, v5, v6, rfl, eN, lN, inv2⟩ ⟨T8, x8, y8, rfl, nT8, rfl, ex8, ey8⟩
        rw [List.length_map] at hj
        have ey8 : (bs.map V.int)[j]? = some y8 := ey8
        rw [List.getElem?_map, List.getElem?_eq_getElem hj] at ey8
        obtain rfl : V.int bs[j] = y8 := Option.some.inj ey8
        obtain rfl : V.int (j : Nat) = x8 := Option.some.inj ex8
        rw [List.drop_eq_getElem_cons hj] at inv2
        have s8 := s7.trans (same_upd (o := .tup [V.int (j : Nat), V.int bs[j]]) nT8)
        have eN8 := (same_upd (o := .tup [V.int (j : Nat), V.int bs[j]]) nT8) _ _ eN
        refine ⟨T8, _, rfl, .inl (.inl upd_same), rfl, _, _, rfl, _, _, rfl, rfl, ?_⟩
        generalize upd H7 T8 (.tup [V.int (j : Nat), V.int bs[j]]) = H8 at s8 eN8 ⊢
        have lt : i + j < N.length := by omega
        refine ⟨_, rfl, _, rfl, _, rfl, _, _, rfl, rfl, L, _, ((i + j : Nat) : Int), _, rfl, rfl, .inl (.inl eN8), get_nat lt, _, rfl, _, rfl, _, _, rfl, rfl, ba.mul bb hi hj, _, _, rfl, rfl, _, rfl, _, rfl, _, rfl, _, _, rfl, rfl, L, _, ((i + j : Nat) : Int), i + j, rfl, rfl, eN8, ?_, ?_⟩
        · rw [List.length_map]
          exact ix_nat lt
        · rw [← List.map_set]
          exact ⟨same_at s8 nLH, _, _, _, rfl, upd_same, by rw [List.length_set]; exact lN, inv2⟩
      · rintro σ H7 ⟨s7, N, v5, v6, rfl, eN, lN, inv2⟩
        rw [List.length_map, List.drop_length] at inv2
        have e : N = mulRow i as[i] 0 bs M := inv2
        refine ⟨s7, N, _, _, _, _, rfl, eN, lN, ?_⟩
        rw [e]
        exact inv
    · rintro σ H5 ⟨s5, M, v3, v4, v5, v6, rfl, eL, lM, inv⟩
      rw [List.length_map, List.drop_length] at inv
      have e : M = mulL as bs := inv
      subst e
      refine ⟨_, rfl, ⟨L, _, rfl, .inl eL, by omega, fun r H6 s6 er => ?_⟩⟩
      exact q r H6 (s5.trans s6) er
end
end My

namespace My
open PySem PySem.Spec PyProof.Rows L2
/-! ### degrees -/
theorem getD_cut (ns : List Int) : ∀ m, (∀ k, m ≤ k → ns.getD k 0 = 0) → ∀ k, (ns.take (lastN ns m)).getD k 0 = ns.getD k 0
  | 0, h, k => by
    show ([] : List Int).getD k 0 = _
    rw [h k (Nat.zero_le k)]
    rfl
  | m + 1, h, k => by
    by_cases z : ns[m]? = some 0
    · rw [last_go z]
      refine getD_cut ns m (fun j hj => ?_) k
      rcases Nat.eq_or_lt_of_le hj with e | e
      · subst e
        rw [List.getD_eq_getElem?_getD, z]
        rfl
      · exact h j e
    · rw [last_stay z, List.getD_eq_getElem?_getD, List.getElem?_take]
      by_cases hk : k < m + 1
      · rw [if_pos hk, List.getD_eq_getElem?_getD]
      · rw [if_neg hk, h k (by omega)]
        rfl
theorem getD_trim (ns : List Int) (k : Nat) : (trimN ns).getD k 0 = ns.getD k 0 := by
  unfold trimN
  refine getD_cut ns ns.length (fun j hj => ?_) k
  rw [List.getD_eq_getElem?_getD, List.getElem?_eq_none hj]
  rfl
theorem trim_end {ns : List Int} (h : trimN ns ≠ []) : (trimN ns).getD ((trimN ns).length - 1) 0 ≠ 0 := by
  intro z
  have hl := lastN_le ns ns.length
  have len : (trimN ns).length = lastN ns ns.length := by
    unfold trimN
    rw [List.length_take]
    omega
  have pos : 0 < (trimN ns).length := List.length_pos_iff.mpr h
  rw [getD_trim, len, List.getD_eq_getElem?_getD] at z
  have lt : lastN ns ns.length - 1 < ns.length := by omega
  rw [List.getElem?_eq_getElem lt] at z
  have e := lastN_last ns ns.length (by rw [List.getElem?_eq_getElem lt]; exact congrArg some z)
  omega
theorem trim_top {ns : List Int} {n : Nat} (h : ns.getD n 0 ≠ 0) (hi : ∀ k, n < k → ns.getD k 0 = 0) : (trimN ns).length = n + 1 := by
  have a : n < (trimN ns).length := by
    rcases Nat.lt_or_ge n (trimN ns).length with g | g
    · exact g
    · rw [← getD_trim, List.getD_eq_getElem?_getD, List.getElem?_eq_none g] at h
      exact absurd rfl h
  rcases Nat.lt_or_ge (n + 1) (trimN ns).length with g | g
  · have z := trim_end (ns := ns) (fun e => by rw [e] at a; simp at a)
    rw [getD_trim, hi _ (by omega)] at z
    exact absurd rfl z
  · omega
theorem trim_zero {ns : List Int} (h : ∀ k, ns.getD k 0 = 0) : trimN ns = [] := by
  cases e : trimN ns with
  | nil => rfl
  | cons a r =>
    have z := trim_end (ns := ns) (by rw [e]; simp)
    rw [getD_trim, h] at z
    exact absurd rfl z
/-- factors without zeros at the end, from 0 on -/
def Trim (as : List Int) : Prop := (∀ n ∈ as, 0 ≤ n) ∧ (as ≠ [] → as.getD (as.length - 1) 0 ≠ 0)
theorem trim_is {ns : List Int} (h : ∀ n ∈ ns, 0 ≤ n) : Trim (trimN ns) := ⟨fun n hn => h n (List.mem_of_mem_take hn), trim_end⟩
theorem snoc_of {as : List Int} (h : Trim as) (ne : as ≠ []) : ∃ r x, as = r ++ [x] ∧ 0 < x := by
  refine ⟨as.dropLast, as.getLast ne, (List.dropLast_concat_getLast ne).symm, ?_⟩
  have a := h.1 _ (List.getLast_mem ne)
  have b := h.2 ne
  have e : as.getD (as.length - 1) 0 = as.getLast ne := by
    rw [List.getD_eq_getElem?_getD, List.getLast_eq_getElem, List.getElem?_eq_getElem (by have := List.length_pos_iff.mpr ne; omega)]
    rfl
  rw [e] at b
  omega
/-- the degrees are added -/
theorem mul_deg {as bs : List Int} (ha : Trim as) (hb : Trim bs) (na : as ≠ []) (nb : bs ≠ []) : (trimN (mulL as bs)).length = as.length + bs.length - 1 := by
  obtain ⟨r, x, rfl, hx⟩ := snoc_of ha na
  obtain ⟨t, y, rfl, hy⟩ := snoc_of hb nb
  have e := trim_top (ns := mulL (r ++ [x]) (t ++ [y])) (n := r.length + t.length) (by rw [mul_top]; exact Int.ne_of_gt (Int.mul_pos hx hy)) (fun k hk => mul_hi (by rw [List.length_append, List.length_append]; simp; omega))
  rw [e, List.length_append, List.length_append]
  simp
  omega
theorem row_zero (j : Nat) (x : Int) : ∀ (bs : List Int) (k : Nat) (L : List Int), (∀ n ∈ bs, n = 0) → ∀ m, (mulRow j x k bs L).getD m 0 = L.getD m 0
  | [], _, _, _, _ => rfl
  | y :: r, k, L, h, m => by
    show (mulRow j x (k + 1) r (L.set (j + k) _)).getD m 0 = _
    rw [row_zero j x r (k + 1) _ (fun n hn => h n (List.mem_cons_of_mem _ hn)) m, getD_set, h y List.mem_cons_self]
    split
    · rename_i e
      rw [← e.1]
      omega
    · rfl
theorem all_zero {bs : List Int} (h : ∀ n ∈ bs, n = 0) : ∀ (as : List Int) (j : Nat) (L : List Int) (m : Nat), (mulAll bs j as L).getD m 0 = L.getD m 0
  | [], _, _, _ => rfl
  | x :: r, j, L, m => by
    show (mulAll bs (j + 1) r _).getD m 0 = _
    rw [all_zero h r (j + 1) _ m, row_zero j x bs 0 L h m]
/-- nothing times anything -/
theorem mul_none {as bs : List Int} (h : ∀ n ∈ bs, n = 0) : trimN (mulL as bs) = [] := trim_zero fun k => by
  unfold mulL
  rw [all_zero h as 0 _ k, getD_rep]
theorem mul_nil (bs : List Int) : trimN (mulL [] bs) = [] := trim_zero fun k => getD_rep _ k
end My

namespace My
open PySem PySem.Spec PyProof.Rows L2
abbrev s_law_some_factors : Stmt := topS 39
theorem sc_law_some_factors : FnScope ["pot", "many", "most", "found", "turn"] ["pot", "many", "most"] (defScope s_law_some_factors) := ⟨rfl, rfl, rfl, by decide +kernel, rfl, by decide +kernel, by decide +kernel⟩
structure TxtM (mg : Str → Option Value) : Prop where
  n_range : mg "range" = none
/-- a list of drawn factors -/
structure spSome (vs : List V) (H : Hp) (Q : VK) (E : XK) : Prop where
  ex : ∃ (p c : Addr) (many : Nat) (most : Int), vs = [.ref p, .int (many : Nat), .int most] ∧ Pot H p c ∧ many ≤ 100 ∧ 2 ≤ most ∧ most ≤ 1000000000 ∧ ∀ (l : Addr) (ns : List Int) (H' : Hp), H l = none → Pot H' p c → But p H H' → H' l = some (.lst (ns.map V.int)) → ns.length ≤ many → (∀ n ∈ ns, 0 ≤ n ∧ n ≤ most) → Q (.ref l) H'
section
variable {P : Program} {w : World} {K : PySem.W.Frag} {mg : Str → Option Value} {base : Heap}
theorem ok_some_factors {f fb fp : Addr} {fd fdb fdp : FuncData} {k : Nat} (F : Fun K "_law_some_factors" "_law_some_factors" s_law_some_factors f fd) (T : TxtM mg) (F__law_below : Fun K "_law_below" "_law_below" s_law_below fb fdb) (b__law_below : Binds K fdb ["pot", "bound"] []) (g__law_below : mg "_law_below" = some (.ref fb))
    (G__law_below : FnOk P w K mg base CX0 2 fb fdb ["pot", "bound"] spBelow) (F__law_pick : Fun K "_law_pick" "_law_pick" s_law_pick fp fdp) (b__law_pick : Binds K fdp ["pot", "items"] []) (g__law_pick : mg "_law_pick" = some (.ref fp))
    (G__law_pick : FnOk P w K mg base CX0 3 fp fdp ["pot", "items"] (spPick K)) : FnOk P w K mg base CX0 (k + 4) f fd ["pot", "many", "most"] spSome := by
  refine F.ok sc_law_some_factors (fun vs H Q E h => ?_) (fun cdv A outer s H vs Q E hr h => ?_)
  · obtain ⟨p, c, many, most, rfl, _⟩ := h
    rfl
  · obtain ⟨p, c, many, most, rfl, hP, m100, mo2, mo9, q⟩ := h
    refine ⟨_, (pss_cons (ps_set (i := 3) sc_law_some_factors.nd rfl (.inl rfl) (pe_lst pa_nil))
  (pss_cons (ps_for PassesOwn.never rfl (pi_range1 (by rfl) T.n_range (pa_cons (pe_call G__law_below (hr.mono (by omega)) (by rfl) g__law_below F__law_below.kp b__law_below .nil pass0 (pa_cons (pv 0) (pa_cons (pe_op op_add (pv 1) pe_int) pa_nil))) pa_nil)) (pg_name (i := 4) sc_law_some_factors.nd rfl (.inl rfl))
   (pss_one (ps_expr (pe_bm PySem.F.plainAttrs_list PySem.F.slot_list_append PySem.F.type_list_append mt_append (pv 3) (pa_cons (pe_call G__law_pick (hr.mono (by omega)) (by rfl) g__law_pick F__law_pick.kp b__law_pick .nil pass0 (pa_cons (pv 0) (pa_cons (pe_lst (pa_cons pe_int (pa_cons pe_int (pa_cons pe_int (pa_cons pe_int (pa_cons pe_int (pa_cons (pe_call G__law_below (hr.mono (by omega)) (by rfl) g__law_below F__law_below.kp b__law_below .nil pass0 (pa_cons (pv 0) (pa_cons (pe_op op_add (pv 2) pe_int) pa_nil))) pa_nil))))))) pa_nil))) pa_nil)))))
  (pss_one (ps_ret (pv 3))))), ?_⟩
    clear G__law_below G__law_pick
    refine ⟨by show 0 ≤ sizeLine; decide, fun l nl => ?_⟩
    have s1 := same_upd (o := .lst []) nl
    have hl1 : (upd H l (.lst [])) l = some (.lst []) := upd_same
    have hP1 := hP.same s1
    obtain ⟨ns0, p0, am0, sz0, hp0, hc0, hl0⟩ := id hP
    have npl : p ≠ l := ne_of_none hp0 nl
    have ncl : c ≠ l := ne_of_none hc0 nl
    have b1 : But p H (upd H l (.lst [])) := But.of (s1 _ _ hp0) s1
    generalize upd H l (.lst []) = H1 at s1 hl1 hP1 b1 ⊢
    refine ⟨_, rfl, _, rfl, _, _, rfl, rfl, p, c, _, rfl, hP1, by omega, by omega, fun v H2 v0 v1 hP2 b2 => ?_⟩
    obtain ⟨n, rfl⟩ : ∃ n : Nat, v = (n : Int) := ⟨v.toNat, by omega⟩
    have hn : n ≤ many := by omega
    refine ⟨_, rfl, by omega, by omega, ?_⟩
    refine for_range (n := n) (fun j σ H3 => Pot H3 p c ∧ But p H H3 ∧ (∃ ns : List Int, H3 l = some (.lst (ns.map V.int)) ∧ ns.length ≤ j ∧ ∀ z ∈ ns, 0 ≤ z ∧ z ≤ most) ∧ ∃ w4, σ = [some (.ref p), some (.int (many : Nat)), some (.int most), some (.ref l), w4])
      ⟨hP2, b1.trans b2, ⟨[], b2.1 _ _ hl1 (Ne.symm npl), Nat.le_refl _, fun _ z => nomatch z⟩, none, rfl⟩ ?_ ?_
    · rintro j σ H3 hj ⟨hP3, b3, ⟨ns, hl3, ln, hns⟩, w4, rfl⟩
      refine ⟨_, rfl, .inl ⟨rfl, _, .inl (.inl hl3)⟩, _, rfl, _, rfl, _, rfl, _, _, rfl, rfl, p, c, _, rfl, hP3, by omega, by omega, fun y H4 y0 y1 hP4 b4 => ?_⟩
      have hl4 := b4.1 _ _ hl3 (Ne.symm npl)
      refine ⟨by show 6 ≤ sizeLine; decide, fun L nL => ?_⟩
      have sL := same_upd (o := .lst [.int 0, .int 0, .int 1, .int 1, .int 2, .int y]) nL
      have hL : (upd H4 L (.lst [.int 0, .int 0, .int 1, .int 1, .int 2, .int y])) L = some (.lst [.int 0, .int 0, .int 1, .int 1, .int 2, .int y]) := upd_same
      have hP5 := hP4.same sL
      have b5 : But p H (upd H4 L (.lst [.int 0, .int 0, .int 1, .int 1, .int 2, .int y])) := (b3.trans b4).same sL
      have hl5 := sL _ _ hl4
      have npL : p ≠ L := by
        obtain ⟨ns4, p4, am4, sz4, hp4, _, _⟩ := id hP4
        exact ne_of_none hp4 nL
      generalize upd H4 L (.lst [.int 0, .int 0, .int 1, .int 1, .int 2, .int y]) = H5 at sL hL hP5 b5 hl5 ⊢
      refine ⟨p, c, L, _, rfl, hP5, .inl (.inl hL), (fun z => nomatch z), by show 6 < 1073741824; decide, fun H' hb => .inl (.inl (hb.1 _ _ hL (Ne.symm npL))), fun x H6 hx hP6 b6 => ?_⟩
      have hl6 := b6.1 _ _ hl5 (Ne.symm npl)
      have b7 := b5.trans b6
      obtain ⟨xi, rfl, x0, x1⟩ : ∃ xi : Int, x = .int xi ∧ 0 ≤ xi ∧ xi ≤ most := by
        simp only [List.mem_cons, List.not_mem_nil, or_false] at hx
        rcases hx with rfl | rfl | rfl | rfl | rfl | rfl <;> exact ⟨_, rfl, by omega, by omega⟩
      have npl6 : p ≠ l ∧ c ≠ l := ⟨npl, ncl⟩
      refine ⟨l, _, _, rfl, rfl, hl6, ?_, ?_, ?_, ⟨ns ++ [xi], ?_, ?_, ?_⟩, _, rfl⟩
      · rw [List.length_map]
        exact small1000 (by omega)
      · obtain ⟨ns6, p6, am6, sz6, hp6, hc6, hl7⟩ := hP6
        exact ⟨ns6, p6, am6, sz6, by rw [upd_ne npl]; exact hp6, by rw [upd_ne ncl]; exact hc6, hl7⟩
      · refine ⟨fun b o e nb => ?_, ?_⟩
        · rw [upd_ne (ne_of_none e nl)]
          exact b7.1 b o e nb
        · rw [upd_ne npl]
          exact b7.2
      · rw [upd_same, List.map_append]
        rfl
      · rw [List.length_append, List.length_singleton]
        omega
      · intro z hz
        rcases List.mem_append.mp hz with hz | hz
        · exact hns z hz
        · rw [List.mem_singleton.mp hz]
          exact ⟨x0, x1⟩
    · rintro σ H3 ⟨hP3, b3, ⟨ns, hl3, ln, hns⟩, w4, rfl⟩
      exact ⟨_, rfl, q l ns H3 nl hP3 b3 hl3 (by omega) hns⟩
end
end My

namespace My.Kn
open PySem PySem.Spec PyProof.Rows L2
abbrev s_is_integer : Stmt := topS 7
theorem sc_is_integer : FnScope ["thing"] ["thing"] (defScope s_is_integer) := ⟨rfl, rfl, rfl, by decide +kernel, rfl, by decide +kernel, by decide +kernel⟩

/-! ### names -/
abbrev c_LETTERS : Str := "abcdefghijklmnopqrstuvwxyz"
abbrev c_DIGITS : Str := "0123456789"
abbrev isLet (c : Nat) : Bool := decide (c ∈ c_LETTERS.cps.toList)
abbrev isDig (c : Nat) : Bool := decide (c ∈ c_DIGITS.cps.toList)
abbrev isSign (c : Nat) : Bool := decide (c ∈ (c_LETTERS ++ c_DIGITS).cps.toList)
/-- what a name is -/
def isNm (z : Str) : Bool := match z.cps.toList with
  | [] => false
  | c :: r => decide (r.length < 8) && (isLet c && (c :: r).all isSign)
theorem sign_or (c : Nat) : isSign c = (isLet c || isDig c) := by
  have e : (c_LETTERS ++ c_DIGITS).cps.toList = c_LETTERS.cps.toList ++ c_DIGITS.cps.toList := by decide +kernel
  unfold isSign isLet isDig
  rw [e]
  simp only [List.mem_append, Bool.decide_or]
structure TxtN (mg : Str → Option Value) (tL tD : Tok) (tN : Tok) : Prop where
  n_isinstance : mg "isinstance" = none
  n_str : mg "str" = none
  n_int : mg "int" = none
  n_bool : mg "bool" = none
  n_len : mg "len" = none
  n_all : mg "all" = none
  g_LETTERS : mg "LETTERS" = some (.str c_LETTERS tL)
  g_DIGITS : mg "DIGITS" = some (.str c_DIGITS tD)
  g_LONGEST_NAME : mg "LONGEST_NAME" = some (.int 8 tN)
/-- a value of a built-in type T -/
def TyB (K : PySem.W.Frag) (H : Hp) (x : V) (T : String) : Prop := TyX K H x (.type T)
structure spIsName (K : PySem.W.Frag) (vs : List V) (H : Hp) (Q : VK) (E : XK) : Prop where
  ex : ∃ x, vs = [x] ∧ ((∃ z : Str, x = .str z ∧ z.length ≤ 1000 ∧ ∀ H', Same H H' → Q (.bl (isNm z)) H') ∨ (∃ T, TyX K H x (.type T) ∧ kitB T "str" = some false ∧ Q (.bl false) H))
structure spIsInt (K : PySem.W.Frag) (vs : List V) (H : Hp) (Q : VK) (E : XK) : Prop where
  ex : ∃ x T a b, vs = [x] ∧ TyX K H x (.type T) ∧ kitB T "int" = some a ∧ kitB T "bool" = some b ∧ Q (.bl (a && !b)) H

theorem dp_signs {K : PySem.W.Frag} {H : Hp} : ∀ cs : List Nat, DpAll K H (cs.map fun c => V.str (oneS c)) (cs.map fun c => PyData.str (oneS c))
  | [] => .nil
  | n :: r => .cons (.str _) (dp_signs r)
theorem lay_signs : ∀ cs : List Nat, (∀ c ∈ cs, c < 1114112) → PyData.canLayAll0 (cs.map fun c => PyData.str (oneS c)) = true
  | [], _ => by simp [PyData.canLayAll0]
  | n :: r, h => by
    have h1 : n < 1114112 := h n List.mem_cons_self
    have h2 := lay_signs r fun c hc => h c (List.mem_cons_of_mem _ hc)
    simp [PyData.canLayAll0, PyData.canLay0, PyData.strOk, h2, h1]
theorem dep_signs : ∀ cs : List Nat, PyData.depthAll (cs.map fun c => PyData.str (oneS c)) ≤ 1
  | [] => by simp [PyData.depthAll]
  | n :: r => by
    have h := dep_signs r
    simp only [List.map_cons, PyData.depthAll, PyData.depth]
    omega
theorem sh_signs {cs : List Nat} (h : ∀ c ∈ cs, c < 1114112) : SeqAt.shaped (.list (cs.map fun c => PyData.str (oneS c))) = true := by
  have h2 := dep_signs cs
  exact sh_of (by simp only [PyData.canLay0]; exact lay_signs cs h) (by simp only [PyData.depth]; omega)
def spIsNamed : Sp := fun vs H Q _ => ∃ z : Str, vs = [.str z] ∧ z.length ≤ 1000 ∧ (∀ c ∈ z.cps.toList, c < 1114112) ∧ ∀ H', Same H H' → Q (.bl (isNm z)) H'
section
variable {P : Program} {w : World} {K : PySem.W.Frag} {mg : Str → Option Value} {base : Heap}
theorem str_len (z : Str) : z.length = z.cps.toList.length := by simp [Str.length]
theorem all_take_all {α : Type} (p : α → Bool) (l : List α) : ((l.map p).all id) = l.all p := by
  rw [List.all_map]
  rfl
theorem filter_no {l : List Nat} {i c : Nat} {p : Nat → Bool} (e : l[i]? = some c) (h : p c = false) : (l.take (i + 1)).filter p = (l.take i).filter p := by
  rw [List.take_add_one, e, List.filter_append]
  show _ ++ List.filter p [c] = _
  rw [List.filter_cons, if_neg (by rw [h]; decide)]
  exact List.append_nil _
theorem filter_yes {l : List Nat} {i c : Nat} {p : Nat → Bool} (e : l[i]? = some c) (h : p c = true) : (l.take (i + 1)).filter p = (l.take i).filter p ++ [c] := by
  rw [List.take_add_one, e, List.filter_append]
  show _ ++ List.filter p [c] = _
  rw [List.filter_cons, if_pos h]
  rfl
theorem none_bad : ∀ l : List Nat, decide (((l.filter fun c => !isLet c && !isDig c).map fun c => PyData.str (oneS c)) = []) = l.all isSign
  | [] => rfl
  | c :: r => by
    rw [List.filter_cons, List.all_cons, sign_or, ← none_bad r]
    cases isLet c <;> cases isDig c <;> simp
end
end My.Kn

namespace My.Kn
open PySem PySem.Spec PyProof.Rows L2
theorem _root_.L2.Rd.same {H H' : Hp} {a : Addr} {u : HO} (h : Rd H a u) (s : Same H H') : Rd H' a u := h.elim (fun e => .inl (s _ _ e)) fun ⟨o, e⟩ => .inr ⟨o, s _ _ e⟩
/-! ### things as data -/
mutual
/-- the value v is the thing d at the heap H; of a list or a dict only the sort is told -/
inductive Th (K : PySem.W.Frag) (H : Hp) : V → PyData → Prop
  | non : Th K H .non .none
  | bl (b : Bool) : Th K H (.bl b) (.bool b)
  | int (i : Int) : Th K H (.int i) (.int i)
  | str {z : Str} (h : z.length ≤ 1000) (hv : ∀ c ∈ z.cps.toList, c < 1114112) : Th K H (.str z) (.str z)
  | lst {a : Addr} {xs : List V} (e : H a = some (.lst xs)) : Th K H (.ref a) (.list [])
  | dct {a : Addr} {kvs : List (Key × V)} (e : H a = some (.dK kvs)) : Th K H (.ref a) (.dict [])
  | tup {a : Addr} {xs : List V} {ds : List PyData} (e : Rd H a (.tup xs)) (h : ThAll K H xs ds) : Th K H (.ref a) (.tuple ds)
inductive ThAll (K : PySem.W.Frag) (H : Hp) : List V → List PyData → Prop
  | nil : ThAll K H [] []
  | cons {v : V} {vs : List V} {d : PyData} {ds : List PyData} (h : Th K H v d) (t : ThAll K H vs ds) : ThAll K H (v :: vs) (d :: ds)
end
mutual
theorem Th.same {K : PySem.W.Frag} {H H' : Hp} (s : Same H H') : ∀ {d : PyData} {v : V}, Th K H v d → Th K H' v d
  | _, _, .non => .non
  | _, _, .bl b => .bl b
  | _, _, .int i => .int i
  | _, _, .str h hv => .str h hv
  | _, _, .lst e => .lst (s _ _ e)
  | _, _, .dct e => .dct (s _ _ e)
  | _, _, .tup e h => .tup (e.same s) (ThAll.same s h)
theorem ThAll.same {K : PySem.W.Frag} {H H' : Hp} (s : Same H H') : ∀ {ds : List PyData} {vs : List V}, ThAll K H vs ds → ThAll K H' vs ds
  | _, _, .nil => .nil
  | _, _, .cons h t => .cons (h.same s) (t.same s)
end
theorem ThAll.length {K : PySem.W.Frag} {H : Hp} : ∀ {ds : List PyData} {vs : List V}, ThAll K H vs ds → vs.length = ds.length
  | _, _, .nil => rfl
  | _, _, .cons _ t => by rw [List.length_cons, List.length_cons, t.length]
theorem ThAll.get {K : PySem.W.Frag} {H : Hp} : ∀ {ds : List PyData} {vs : List V} {i : Nat} {v : V}, ThAll K H vs ds → vs[i]? = some v → ∃ d, ds[i]? = some d ∧ Th K H v d
  | _, _, i, _, .nil, e => by cases i <;> cases e
  | _, _, 0, _, .cons h _, e => by
    cases e
    exact ⟨_, rfl, h⟩
  | _, _, i + 1, _, .cons _ t, e => t.get (i := i) e
/-- the built-in type of a thing -/
def tyD : PyData → String
  | .none => "NoneType"
  | .bool _ => "bool"
  | .int _ => "int"
  | .str _ => "str"
  | .list _ => "list"
  | .tuple _ => "tuple"
  | .dict _ => "dict"
theorem Th.ty {K : PySem.W.Frag} {H : Hp} {d : PyData} {v : V} (h : Th K H v d) : TyX K H v (.type (tyD d)) := by
  cases h with
  | non => exact .base .non
  | bl b => exact .base (.bl b)
  | int i => exact .base (.int i)
  | str h hv => exact .base (.str _)
  | lst e => exact .base (.lst e)
  | dct e => exact .base (.dK e)
  | tup e h =>
    rcases e with e | ⟨o, e⟩
    · exact .base (.tup e)
    · exact .fTuple e
def isT : PyData → Bool | .tuple _ => true | _ => false
def isS : PyData → Bool | .str _ => true | _ => false
def isI : PyData → Bool | .int _ => true | .bool _ => true | _ => false
def isB : PyData → Bool | .bool _ => true | _ => false
theorem ty_tup (d : PyData) : kitB (tyD d) "tuple" = some (isT d) := by cases d <;> (simp only [tyD, isT, isS, isI, isB]; decide +kernel)
theorem ty_str (d : PyData) : kitB (tyD d) "str" = some (isS d) := by cases d <;> (simp only [tyD, isT, isS, isI, isB]; decide +kernel)
theorem ty_int (d : PyData) : kitB (tyD d) "int" = some (isI d) := by cases d <;> (simp only [tyD, isT, isS, isI, isB]; decide +kernel)
theorem ty_bool (d : PyData) : kitB (tyD d) "bool" = some (isB d) := by cases d <;> (simp only [tyD, isT, isS, isI, isB]; decide +kernel)
/-- a variant, as a tag and a number -/
def asPair : PyData → Option (Str × Int)
  | .tuple [.str z, .int i] => if isNm z && (decide (0 ≤ i) && decide (i ≤ 4)) then some (z, i) else none
  | _ => none
def variantB (d : PyData) : Bool := (asPair d).isSome
def allPairs : List PyData → Option (List (Str × Int))
  | [] => some []
  | d :: r => match asPair d, allPairs r with
    | some p, some ps => some (p :: ps)
    | _, _ => none
theorem allPairs_cons (d : PyData) (r : List PyData) : allPairs (d :: r) = match asPair d, allPairs r with | some p, some ps => some (p :: ps) | _, _ => none := rfl
/-- what the law and the program ask of the variants together -/
def okK (ks : List (Str × Int)) : Bool := decide ((ks.map (·.1)).Nodup) && (decide ((0 : Int) ∈ ks.map (·.2)) && (ks.map (·.2)).any fun i => decide (2 ≤ i))
def asKind : PyData → Option (List (Str × Int))
  | .tuple ds => if 2 ≤ ds.length ∧ ds.length ≤ 8 then (match allPairs ds with | some ks => if okK ks then some ks else none | none => none) else none
  | _ => none
def kindB (d : PyData) : Bool := (asKind d).isSome
theorem all_pairs : ∀ ds : List PyData, (allPairs ds).isSome = ds.all variantB
  | [] => rfl
  | d :: r => by
    rw [List.all_cons, ← all_pairs r]
    rw [allPairs_cons]
    unfold variantB
    cases asPair d <;> cases allPairs r <;> rfl
theorem pairs_len : ∀ {ds : List PyData} {ks : List (Str × Int)}, allPairs ds = some ks → ks.length = ds.length
  | [], ks, h => by cases h; rfl
  | d :: r, ks, h => by
    rw [allPairs_cons] at h
    cases h1 : asPair d with
    | none => rw [h1] at h; cases h
    | some p =>
      cases h2 : allPairs r with
      | none => rw [h1, h2] at h; cases h
      | some ps =>
        rw [h1, h2] at h
        cases h
        rw [List.length_cons, List.length_cons, pairs_len h2]
/-- rs: the pairs ks, each a tuple of a tag and a number -/
inductive Prs (H : Hp) : List Addr → List (Str × Int) → Prop
  | nil : Prs H [] []
  | cons {r : Addr} {rs : List Addr} {p : Str × Int} {ks : List (Str × Int)} (e : Rd H r (.tup [.str p.1, .int p.2])) (t : Prs H rs ks) : Prs H (r :: rs) (p :: ks)
theorem Prs.length {H : Hp} {rs : List Addr} {ks : List (Str × Int)} (h : Prs H rs ks) : rs.length = ks.length := by
  induction h with
  | nil => rfl
  | cons _ _ ih => rw [List.length_cons, List.length_cons, ih]
theorem Prs.get {H : Hp} {rs : List Addr} {ks : List (Str × Int)} (h : Prs H rs ks) : ∀ {i : Nat} {r : Addr}, rs[i]? = some r → ∃ p, ks[i]? = some p ∧ Rd H r (.tup [.str p.1, .int p.2]) := by
  induction h with
  | nil =>
    intro i r e
    cases i <;> cases e
  | cons e _ ih =>
    intro i r h
    cases i with
    | zero =>
      cases h
      exact ⟨_, rfl, e⟩
    | succ i => exact ih h
theorem Prs.same {H H' : Hp} {rs : List Addr} {ks : List (Str × Int)} (h : Prs H rs ks) (s : Same H H') : Prs H' rs ks := by
  induction h with
  | nil => exact .nil
  | cons e _ ih => exact .cons (e.same s) ih
/-- a: a tuple of pairs -/
def KindAt (H : Hp) (a : Addr) (ks : List (Str × Int)) : Prop := ∃ rs, Rd H a (.tup (rs.map V.ref)) ∧ Prs H rs ks
theorem KindAt.same {H H' : Hp} {a : Addr} {ks : List (Str × Int)} (h : KindAt H a ks) (s : Same H H') : KindAt H' a ks := by
  obtain ⟨rs, e, p⟩ := h
  exact ⟨rs, e.same s, p.same s⟩
theorem pair_of {K : PySem.W.Frag} {H : Hp} {v : V} {d : PyData} {p : Str × Int} (h : Th K H v d) (e : asPair d = some p) : ∃ r, v = .ref r ∧ Rd H r (.tup [.str p.1, .int p.2]) ∧ isNm p.1 = true ∧ 0 ≤ p.2 ∧ p.2 ≤ 4 := by
  unfold asPair at e
  split at e
  · rename_i z i
    split at e
    · rename_i hc
      cases e
      rw [Bool.and_eq_true, Bool.and_eq_true, decide_eq_true_eq, decide_eq_true_eq] at hc
      cases h with
      | tup ea t =>
        cases t with
        | cons h1 t =>
          cases t with
          | cons h2 t =>
            cases t
            cases h1
            cases h2
            exact ⟨_, rfl, ea, hc.1, hc.2.1, hc.2.2⟩
    · cases e
  · cases e
theorem prs_of {K : PySem.W.Frag} {H : Hp} : ∀ {ds : List PyData} {vs : List V} {ks : List (Str × Int)}, ThAll K H vs ds → allPairs ds = some ks → ∃ rs : List Addr, vs = rs.map V.ref ∧ Prs H rs ks ∧ ∀ p ∈ ks, isNm p.1 = true ∧ 0 ≤ p.2 ∧ p.2 ≤ 4
  | [], _, ks, .nil, h => by
    cases h
    exact ⟨[], rfl, .nil, fun _ z => nomatch z⟩
  | d :: r, _, ks, .cons h1 t, h => by
    rw [allPairs_cons] at h
    cases e1 : asPair d with
    | none => rw [e1] at h; cases h
    | some p =>
      cases e2 : allPairs r with
      | none => rw [e1, e2] at h; cases h
      | some ps =>
        rw [e1, e2] at h
        cases h
        obtain ⟨a, rfl, ha, hp⟩ := pair_of h1 e1
        obtain ⟨rs, rfl, hrs, all⟩ := prs_of t e2
        refine ⟨a :: rs, rfl, .cons ha hrs, fun q hq => ?_⟩
        rcases List.mem_cons.mp hq with rfl | hq
        · exact hp
        · exact all q hq
end My.Kn

namespace My.Kn
open PySem PySem.Spec PyProof.Rows L2
structure spThing (f : PyData → Bool) (K : PySem.W.Frag) (vs : List V) (H : Hp) (Q : VK) (E : XK) : Prop where
  ex : ∃ x d, vs = [x] ∧ Th K H x d ∧ ∀ H', Same H H' → Q (.bl (f d)) H'
def namedB : PyData → Bool
  | .str z => isNm z
  | _ => false
def numIn : PyData → Bool
  | .int i => decide (0 ≤ i) && decide (i ≤ 4)
  | _ => false
theorem variant_two (dt dp : PyData) : variantB (.tuple [dt, dp]) = (namedB dt && numIn dp) := by
  unfold variantB
  cases dt <;> cases dp <;> simp only [asPair, namedB, numIn, Option.isSome_none, Bool.false_and, Bool.and_false]
  split
  · rename_i h
    rw [h]
    rfl
  · rename_i h
    rw [Bool.not_eq_true] at h
    rw [h]
    rfl
theorem same_rfl (H : Hp) : Same H H := fun _ _ e => e
theorem isname_th {K : PySem.W.Frag} {H : Hp} {x : V} {d : PyData} {Q : VK} {E : XK} (h : Th K H x d) (q : ∀ H', Same H H' → Q (.bl (namedB d)) H') : spIsName K [x] H Q E := by
  by_cases hs : isS d = true
  · cases h with
    | str hz hv => exact ⟨_, rfl, .inl ⟨_, rfl, hz, q⟩⟩
    | _ => cases hs
  · have hs : isS d = false := Bool.not_eq_true _ ▸ hs
    have n : namedB d = false := by cases d <;> first | rfl | cases hs
    have q0 := q H (same_rfl H)
    rw [n] at q0
    exact ⟨x, rfl, .inr ⟨tyD d, h.ty, by rw [ty_str, hs], q0⟩⟩
theorem isint_th {K : PySem.W.Frag} {H : Hp} {x : V} {d : PyData} {Q : VK} {E : XK} (h : Th K H x d) (q : Q (.bl (isI d && !isB d)) H) : spIsInt K [x] H Q E := ⟨x, tyD d, isI d, isB d, rfl, h.ty, ty_int d, ty_bool d, q⟩
theorem ne_len (n m : Nat) : V.bl (!decide (V.int (n : Nat) = V.int (m : Nat))) = V.bl (!decide (n = m)) := by
  congr 2
  refine decide_eq_decide.mpr ⟨fun h => ?_, fun h => by rw [h]⟩
  have z : ((n : Nat) : Int) = (m : Nat) := by cases h; rfl
  omega
theorem ThAll.two {K : PySem.W.Frag} {H : Hp} {xs : List V} {ds : List PyData} (t : ThAll K H xs ds) (h : xs.length = 2) : ∃ v1 v2 d1 d2, xs = [v1, v2] ∧ ds = [d1, d2] ∧ Th K H v1 d1 ∧ Th K H v2 d2 := by
  cases t with
  | nil => cases h
  | cons h1 t =>
    cases t with
    | nil => cases h
    | cons h2 t =>
      cases t with
      | nil => exact ⟨_, _, _, _, rfl, rfl, h1, h2⟩
      | cons h3 t => cases h
theorem var_len {ds : List PyData} (h : ds.length ≠ 2) : variantB (.tuple ds) = false := by
  unfold variantB
  match ds, h with
  | [], _ => rfl
  | [a], _ => cases a <;> rfl
  | [_, _], h => exact absurd rfl h
  | a :: b :: _ :: _, _ => cases a <;> first | rfl | (cases b <;> rfl)
theorem Prs.item {H : Hp} {rs : List Addr} {ks : List (Str × Int)} (h : Prs H rs ks) {i : Nat} {x : V} (e : (rs.map V.ref)[i]? = some x) : ∃ r p, x = .ref r ∧ ks[i]? = some p ∧ Rd H r (.tup [.str p.1, .int p.2]) := by
  rw [List.getElem?_map] at e
  cases h1 : rs[i]? with
  | none =>
    rw [h1] at e
    cases e
  | some r =>
    rw [h1] at e
    cases e
    obtain ⟨p, h2, h3⟩ := h.get h1
    exact ⟨r, p, rfl, h2, h3⟩
theorem take_next {α β : Type} {f : α → β} {l : List α} {i : Nat} {a : α} (h : l[i]? = some a) : (l.take i).map f ++ [f a] = (l.take (i + 1)).map f := by
  rw [List.take_succ, h, List.map_append]
  rfl
/-- what was tracked ahead of a list that grows at D is as it was -/
theorem same_at {H H2 : Hp} {D : Addr} {o : HO} (s : Same H H2) (n : H D = none) : Same H (upd H2 D o) := fun b u e => by
  rw [upd_ne (ne_of_none e n)]
  exact s b u e
structure TxtK (mg : Str → Option Value) (tF tM tP : Tok) : Prop where
  n_isinstance : mg "isinstance" = none
  n_tuple : mg "tuple" = none
  n_len : mg "len" = none
  n_set : mg "set" = none
  n_all : mg "all" = none
  n_any : mg "any" = none
  n_str : mg "str" = none
  n_int : mg "int" = none
  n_bool : mg "bool" = none
  g_FEWEST_VARIANTS : mg "FEWEST_VARIANTS" = some (.int 2 tF)
  g_MOST_VARIANTS : mg "MOST_VARIANTS" = some (.int 8 tM)
  g_MOST_PARTS : mg "MOST_PARTS" = some (.int 4 tP)

section
variable {P : Program} {w : World} {K : PySem.W.Frag} {mg : Str → Option Value} {base : Heap} {tF tM tP : Tok}
/-- tags_of a kind -/
structure spTags (vs : List V) (H : Hp) (Q : VK) (E : XK) : Prop where
  ex : ∃ (a : Addr) (ks : List (Str × Int)), vs = [.ref a] ∧ KindAt H a ks ∧ ks.length ≤ 30 ∧ ∀ l H', Same H H' → H l = none → H' l = some (.lst (ks.map fun p => V.str p.1)) → Q (.ref l) H'
end
end My.Kn

namespace My.Kn
open PySem PySem.Spec PyProof.Rows L2
theorem thing_of {f : PyData → Bool} {K : PySem.W.Frag} {H : Hp} {x : V} {d : PyData} {Q : VK} {E : XK} (h : Th K H x d) (q : ∀ H', Same H H' → Q (.bl (f d)) H') : spThing f K [x] H Q E := ⟨x, d, rfl, h, q⟩
theorem no_tup {d : PyData} (h : isT d = false) : variantB d = false ∧ kindB d = false := by
  cases d <;> first | exact ⟨rfl, rfl⟩ | cases h
theorem eq_len (n m : Nat) : V.bl (decide (V.int (n : Nat) = V.int (m : Nat))) = V.bl (decide (n = m)) := by
  congr 1
  refine decide_eq_decide.mpr ⟨fun h => ?_, fun h => by rw [h]⟩
  have z : ((n : Nat) : Int) = (m : Nat) := by cases h; rfl
  omega
theorem all_next {α : Type} (f : α → Bool) {l : List α} {i : Nat} {a : α} (h : l[i]? = some a) : (l.take (i + 1)).all f = ((l.take i).all f && f a) := by
  rw [List.take_succ, h, List.all_append]
  simp
theorem any_next {α : Type} (f : α → Bool) {l : List α} {i : Nat} {a : α} (h : l[i]? = some a) : (l.take (i + 1)).any f = ((l.take i).any f || f a) := by
  rw [List.take_succ, h, List.any_append]
  simp
end My.Kn

namespace My.Kn
open PySem PySem.Spec PyProof.Rows L2
theorem kind_few {ds : List PyData} (h : ¬ (2 ≤ ds.length ∧ ds.length ≤ 8)) : kindB (.tuple ds) = false := by
  unfold kindB asKind
  dsimp only
  rw [if_neg h]
  rfl
theorem kind_some {ds : List PyData} {ks : List (Str × Int)} (h : 2 ≤ ds.length ∧ ds.length ≤ 8) (e : allPairs ds = some ks) : kindB (.tuple ds) = okK ks := by
  unfold kindB asKind
  dsimp only
  rw [if_pos h, e]
  dsimp only
  cases okK ks <;> rfl
theorem kind_none {ds : List PyData} (h : ds.all variantB = false) : kindB (.tuple ds) = false := by
  rw [← all_pairs] at h
  unfold kindB asKind
  dsimp only
  cases e : allPairs ds with
  | none =>
    split <;> rfl
  | some ks =>
    rw [e] at h
    cases h
theorem in_nums (ns : List Int) (k : Int) : inV (.int k) (ns.map V.int) = decide (k ∈ ns) := by
  induction ns with
  | nil => simp [inV]
  | cons n r ih =>
    unfold inV at ih ⊢
    rw [List.map_cons, List.any_cons, ih]
    have e : eqV (.int n) (.int k) = decide (k = n) := by
      simp only [eqV]
      exact decide_eq_decide.mpr ⟨Eq.symm, Eq.symm⟩
    rw [e]
    by_cases h : k = n <;> simp [h]
theorem in_nums2 (ns : List Int) (k : Int) : V.bl (if false = true then !inV (.int k) (ns.map V.int) else inV (.int k) (ns.map V.int)) = V.bl (decide (k ∈ ns)) := by
  rw [if_neg Bool.false_ne_true, in_nums]
theorem flat_ints (ns : List Int) : (ns.map V.int).all flatV = true := by
  rw [List.all_eq_true]
  intro v hv
  obtain ⟨n, _, rfl⟩ := List.mem_map.mp hv
  rfl
theorem all_false {l : List PyData} (h : (l.all variantB) = false) : ¬ (l.all variantB = true) := by
  rw [h]
  decide
theorem le_len (n m : Nat) : V.bl (decide (((n : Nat) : Int) ≤ (m : Nat))) = V.bl (decide (n ≤ m)) := by
  congr 1
  exact decide_eq_decide.mpr Int.ofNat_le
theorem lt_len (n m : Nat) : V.bl (decide (((n : Nat) : Int) < (m : Nat))) = V.bl (decide (n < m)) := by
  congr 1
  exact decide_eq_decide.mpr Int.ofNat_lt
theorem int_item {ns : List Int} {i : Nat} {x : V} (e : (ns.map V.int)[i]? = some x) : ∃ n, x = .int n ∧ ns[i]? = some n := by
  rw [List.getElem?_map] at e
  cases h : ns[i]? with
  | none =>
    rw [h] at e
    cases e
  | some n =>
    rw [h] at e
    cases e
    exact ⟨n, rfl, rfl⟩
/-- the numbers from 2 up to 8, as the two tests see them -/
theorem two_eight (n : Nat) : (2 ≤ n ∧ n ≤ 8) ∨ (n < 2) ∨ (2 ≤ n ∧ 8 < n) := by omega

section
variable {P : Program} {w : World} {K : PySem.W.Frag} {mg : Str → Option Value} {base : Heap} {tF tM tP : Tok}
end
end My.Kn

namespace My.Kn
open PySem PySem.Spec PyProof.Rows L2
/-- a method's call where the rule's K is told (in a comprehension) -/
theorem pe_bmK {X : Cx} {K : PySem.W.Frag} (hK : X.K = K) {o e : Expr} {es : List Expr} {to : TE} {t : TA} {name : Str} {apos cpos : Pos} {T id : String} {r : V → List V → Hp → VK → Prop} (pa : PlainAttrs T) (slot : Slot T name id) (hty : typeOf (.builtin id) = pure (.type "method_descriptor")) (hm : MtR X id r) (ho : PE X o to) (ha : PA X (e :: es) t)
    (hbase : attributeBase o name X.env (eval o X.env) = eval o X.env := by rfl)
    (hfew : ((backTo cpos (starEach (e :: es) X.env)).all (fun x => !x.1) && (backToKw cpos (keywordEach [] X.env)).all (fun x => x.1.isSome) && decide ((e :: es).length + ([] : List Keyword).length + (if ([] : List Keyword).isEmpty then 0 else 1) < 30)) = true := by rfl)
    (hline : (apos.endLine == cpos.line) = true := by rfl) (hs : starEach (e :: es) X.env = (false, eval e X.env) :: starEach es X.env := by rfl) (hplain : (backTo cpos (starEach es X.env)).any (·.1) = false := by rfl) : PE X (.Call (.Attribute o name apos) (e :: es) [] cpos) (tBM K T r to t) := by
  rw [← hK]
  exact pe_bm pa slot hty hm ho ha hbase hfew hline hs hplain
/-! ### the polynomial of a kind, by counting -/
/-- how many of ns are j, for j from 0 up -/
def cnt (ns : List Int) (j : Nat) : List Int := (List.range j).map fun (i : Nat) => ((ns.count ((i : Nat) : Int) : Nat) : Int)
theorem cnt_next (ns : List Int) (j : Nat) : cnt ns (j + 1) = cnt ns j ++ [((ns.count ((j : Nat) : Int) : Nat) : Int)] := by
  unfold cnt
  rw [List.range_succ, List.map_append]
  rfl
theorem cnt_len (ns : List Int) (j : Nat) : (cnt ns j).length = j := by
  unfold cnt
  rw [List.length_map, List.length_range]
/-- m is the greatest of ns -/
def Most (ns : List Int) (m : Nat) : Prop := ((m : Int) ∈ ns) ∧ ∀ n ∈ ns, 0 ≤ n ∧ n ≤ m
structure spPoly (vs : List V) (H : Hp) (Q : VK) (E : XK) : Prop where
  ex : ∃ (a : Addr) (ks : List (Str × Int)) (m : Nat), vs = [.ref a] ∧ KindAt H a ks ∧ ks.length ≤ 30 ∧ Most (ks.map (·.2)) m ∧ m ≤ 4 ∧ ∀ l H', Same H H' → H l = none → H' l = some (.tup ((cnt (ks.map (·.2)) (m + 1)).map V.int)) → Q (.ref l) H'
theorem at_last (l : List V) (x : V) : atI (l ++ [x]) (-1) = some x := by
  unfold atI ixN
  rw [List.length_append, List.length_cons, List.length_nil, if_neg (by decide), if_pos (by omega), Option.bind_some]
  rw [show (-1 + ((l.length + (0 + 1) : Nat) : Int)).toNat = l.length by omega]
  simp
theorem last_get (l : List V) (x : V) : (l ++ [x])[(l ++ [x]).length - 1]? = some x := by simp
structure TxtP (mg : Str → Option Value) (tP : Tok) : Prop where
  n_range : mg "range" = none
  n_tuple : mg "tuple" = none
  g_MOST_PARTS : mg "MOST_PARTS" = some (.int 4 tP)
abbrev s_polynomial : Stmt := topS 10
theorem sc_polynomial : FnScope ["kind", "numbers", "factors", "_", "parts", "k"] ["kind"] (defScope s_polynomial) := ⟨rfl, rfl, rfl, by decide +kernel, rfl, by decide +kernel, by decide +kernel⟩

section
variable {P : Program} {w : World} {K : PySem.W.Frag} {mg : Str → Option Value} {base : Heap} {tP : Tok}
theorem ok_polynomial {f : Addr} {fd : FuncData} {k : Nat} (F : Fun K "polynomial" "polynomial" s_polynomial f fd) (T : TxtP mg tP) : FnOk P w K mg base CX0 (k + 1) f fd ["kind"] spPoly := by
  refine F.ok sc_polynomial (fun vs H Q E h => ?_) (fun cdv A outer s H vs Q E hr h => ?_)
  · obtain ⟨a, ks, m, rfl, _⟩ := h
    rfl
  · obtain ⟨a, ks, m, rfl, ⟨rs, ea, pr⟩, few, hm, m4, q⟩ := h
    refine ⟨_, (pss_cons (ps_set (i := 1) sc_polynomial.nd rfl (.inr rfl) (pe_lc (own := [("_", 3), ("parts", 4)]) (g := gTup K 2 (gCons (gName 3) (gCons (gName 4) gNil))) rfl sc_polynomial.nd (pi_tup (pv 0)) (blkOk_by (own := [("_", 3), ("parts", 4)]) (N := ["kind", "numbers", "factors", "_", "parts", "k"]) (sc := defScope s_polynomial) (by decide +kernel)) (fun _ _ _ _ _ => (pg_tup rfl (pgs_cons (pg_name (i := 3) sc_polynomial.nd rfl (.inl rfl)) (pgs_cons (pg_name (i := 4) sc_polynomial.nd rfl (.inl rfl)) pgs_nil)))) (fun _ _ _ _ _ => pts_nil) (fun _ _ _ _ _ => (pv 4))))
  (pss_cons (ps_setLc (i := 2) (own := [("k", 5)]) (g := gName 5) rfl sc_polynomial.nd rfl rfl (sw_true rfl rfl rfl (by decide +kernel)) (pi_range1 (by rfl) T.n_range (pa_cons (pe_op op_add (pe_glob (v := .int 4) (by rfl) T.g_MOST_PARTS ⟨_, rfl⟩) pe_int) pa_nil)) (blkOk_by (own := [("k", 5)]) (N := ["kind", "numbers", "factors", "_", "parts", "k"]) (sc := defScope s_polynomial) (by decide +kernel)) (fun _ _ _ _ _ => (pg_name (i := 5) sc_polynomial.nd rfl (.inl rfl))) (fun _ _ _ _ _ => pts_nil) (fun _ _ _ _ _ => (pe_bmK (K := K) rfl (r := rCntI K) PySem.F.plainAttrs_list PySem.F.slot_list_count PySem.F.type_list_count mt_lcount (pv 1) (pa_cons (pv 5) pa_nil))))
  (pss_cons (ps_while PassesOwn.never (pt_cmpR op_eq (pe_ix ix_list (pv 2) (pe_un un_neg pe_int) (fun _ _ => rfl)) pe_int (nomark _))
   (pss_one (ps_expr (pe_bm0 PySem.F.plainAttrs_list PySem.F.slot_list_pop PySem.F.type_list_pop mt_pop (pv 2)))))
  (pss_one (ps_ret (pe_callTy call_tuple_of (by rfl) T.n_tuple (by decide +kernel) (pa_cons (pv 2) pa_nil))))))), ?_⟩
    have lr := pr.length
    refine ⟨_, rfl, a, rfl, ⟨_, .inl ea⟩, fun N nN => ?_⟩
    refine lc_it (walk_tup (xs := rs.map V.ref)) (fun i H5 => Same H H5 ∧ H5 N = some (.lst ((ks.take i).map fun p => V.int p.2))) ⟨same_upd nN, upd_same⟩ (fun i H5 _ h => .inl (ea.same h.1)) ?_ ?_
    · rintro i x H5 H6 hi ⟨s5, hN⟩ ⟨rfl, ex⟩
      obtain ⟨r, pp, rfl, hk, hr2⟩ := pr.item ex
      refine ⟨r, _, rfl, .inl (hr2.same s5), rfl, _, _, rfl, _, _, rfl, rfl, rfl, ?_⟩
      unfold tYes
      dsimp only
      rw [if_pos rfl]
      refine ⟨_, rfl, _, hN, ?_, ?_, ?_⟩
      · rw [List.length_map, List.length_take]
        exact small1000 (by omega)
      · exact same_at s5 nN
      · rw [upd_same, take_next hk]
    · rintro H5 ⟨s5, hN⟩
      rw [List.length_map, lr, List.take_length] at hN
      have hN' : H5 N = some (.lst ((ks.map (·.2)).map V.int)) := by
        rw [hN, List.map_map]
        rfl
      -- factors
      refine ⟨_, _, rfl, rfl, 5, rfl, by decide, by decide, fun C nC => ?_⟩
      refine lc_range (n := 5) (fun j H6 => Same H5 H6 ∧ H6 C = some (.lst ((cnt (ks.map (·.2)) j).map V.int))) ⟨same_upd nC, upd_same⟩ ?_ ?_
      · rintro j H6 hj ⟨s6, hC⟩
        refine ⟨rfl, ?_⟩
        unfold tYes
        dsimp only
        rw [if_pos rfl]
        have hN6 := s6 _ _ hN'
        refine ⟨_, rfl, .inl ⟨rfl, _, .inl (.inl hN6)⟩, _, rfl, N, ks.map (·.2), _, rfl, rfl, .inl (.inl hN6), _, hC, ?_, ?_, ?_⟩
        · rw [List.length_map, cnt_len]
          exact small1000 (by omega)
        · exact same_at s6 nC
        · rw [upd_same, cnt_next, List.map_append, Int.zero_add]
          rfl
      · rintro H6 ⟨s6, hC⟩
        have nCH : H C = none := s5.free nC
        -- while factors[-1] == 0
        refine ⟨fun j σ H7 => m < j ∧ j ≤ 5 ∧ Same H H7 ∧ H7 C = some (.lst ((cnt (ks.map (·.2)) j).map V.int)) ∧ σ = [some (.ref a), some (.ref N), some (.ref C), none, none, none], ⟨5, by omega, by omega, s5.trans s6, hC, rfl⟩, ?_⟩
        rintro j σ H7 ⟨j1, j2, s7, hC7, rfl⟩
        obtain ⟨i, rfl⟩ : ∃ i, j = i + 1 := ⟨j - 1, by omega⟩
        rw [cnt_next, List.map_append] at hC7
        refine ⟨_, rfl, _, rfl, C, _, _, _, rfl, rfl, .inl (.inl hC7), at_last _ _, rfl, decide ((ks.map (·.2)).count (i : Int) = 0), eq_len _ 0, ?_⟩
        by_cases hz : (ks.map (·.2)).count (i : Int) = 0
        · rw [decide_eq_true hz]
          refine iteT ?_
          have ne : i ≠ m := fun z => by
            rw [z] at hz
            exact absurd hm.1 (List.count_eq_zero.mp hz)
          refine ⟨fun σ H8 => m < i ∧ i ≤ 5 ∧ Same H H8 ∧ H8 C = some (.lst ((cnt (ks.map (·.2)) i).map V.int)) ∧ σ = [some (.ref a), some (.ref N), some (.ref C), none, none, none], fun σ' H' h => ⟨i, by omega, h⟩, ?_⟩
          refine ⟨_, rfl, .inl ⟨rfl, _, .inl (.inl hC7)⟩, C, _, _, rfl, rfl, hC7, last_get _ _, by omega, by omega, same_at s7 nCH, ?_, rfl⟩
          rw [upd_same]
          simp
        · rw [decide_eq_false hz]
          refine iteF ?_
          have im : i = m := by
            have z1 : (i : Int) ∈ ks.map (·.2) := List.count_pos_iff.mp (Nat.pos_of_ne_zero hz)
            have z2 := (hm.2 _ z1).2
            omega
          subst im
          rw [← List.map_append, ← cnt_next] at hC7
          refine ⟨_, rfl, C, _, rfl, .inl ⟨.inl (.inl hC7), fun l nl => ?_⟩⟩
          exact q l _ (s7.trans (same_upd nl)) (s7.free nl) upd_same
theorem cut1_not {y0 y1 y2 : V} {r : List V} : ¬ (HT.sIx (y0 :: y1 :: y2 :: r).length 0 none = 0 ∧ HT.sIx (y0 :: y1 :: y2 :: r).length (y0 :: y1 :: y2 :: r).length (some 1) = (y0 :: y1 :: y2 :: r).length) := by
  rintro ⟨_, z⟩
  have e := HT.sIx_nat (y0 :: y1 :: y2 :: r).length (y0 :: y1 :: y2 :: r).length 1
  have z : HT.sIx (y0 :: y1 :: y2 :: r).length (y0 :: y1 :: y2 :: r).length (some ((1 : Nat) : Int)) = (y0 :: y1 :: y2 :: r).length := z
  rw [e] at z
  simp only [List.length_cons] at z
  omega
theorem cut2_not {y0 y1 y2 : V} {r : List V} : ¬ (HT.sIx (y0 :: y1 :: y2 :: r).length 0 (some 2) = 0 ∧ HT.sIx (y0 :: y1 :: y2 :: r).length (y0 :: y1 :: y2 :: r).length none = (y0 :: y1 :: y2 :: r).length) := by
  rintro ⟨z, _⟩
  have e := HT.sIx_nat (y0 :: y1 :: y2 :: r).length 0 2
  have z : HT.sIx (y0 :: y1 :: y2 :: r).length 0 (some ((2 : Nat) : Int)) = 0 := z
  rw [e] at z
  simp only [List.length_cons] at z
  omega
theorem cut1 {y0 y1 y2 : V} {r : List V} : cutV (y0 :: y1 :: y2 :: r) none (some 1) = [y0] := by
  show ((y0 :: y1 :: y2 :: r).drop 0).take (HT.sIx (y0 :: y1 :: y2 :: r).length (y0 :: y1 :: y2 :: r).length (some ((1 : Nat) : Int)) - 0) = [y0]
  rw [HT.sIx_nat, show min 1 (y0 :: y1 :: y2 :: r).length - 0 = 1 by simp only [List.length_cons]; omega]
  rfl
theorem cut2 {y0 y1 y2 : V} {r : List V} : cutV (y0 :: y1 :: y2 :: r) (some 2) none = y2 :: r := by
  show ((y0 :: y1 :: y2 :: r).drop (HT.sIx (y0 :: y1 :: y2 :: r).length 0 (some ((2 : Nat) : Int)))).take ((y0 :: y1 :: y2 :: r).length - HT.sIx (y0 :: y1 :: y2 :: r).length 0 (some ((2 : Nat) : Int))) = y2 :: r
  rw [HT.sIx_nat, show min 2 (y0 :: y1 :: y2 :: r).length = 2 by simp only [List.length_cons]; omega]
  show (y2 :: r).take ((y0 :: y1 :: y2 :: r).length - 2) = y2 :: r
  exact List.take_of_length_le (by simp only [List.length_cons]; omega)
theorem fits_few {n : Nat} (h : n ≤ 100) : n ≤ sizeLine := Nat.le_of_lt (small1000 (by omega))
structure spDiff (vs : List V) (H : Hp) (Q : VK) (E : XK) : Prop where
  ex : ∃ (a : Addr) (ks : List (Str × Int)) (m : Nat), vs = [.ref a] ∧ KindAt H a ks ∧ ks.length ≤ 30 ∧ Most (ks.map (·.2)) m ∧ 2 ≤ m ∧ m ≤ 4 ∧
    ∀ l H', Same H H' → H l = none → H' l = some (.tup (((cnt (ks.map (·.2)) (m + 1)).set 1 (((ks.map (·.2)).count 1 : Nat) - 1)).map V.int)) → Q (.ref l) H'
end
end My.Kn

namespace My.Kn
open PySem PySem.Spec PyProof.Rows L2
/-! ### drawn names and kinds -/
abbrev c_SIGNS : Str := "abcdefghijklmnopqrstuvwxyz0123456789"
/-- the signs of codes, as values -/
def sgs (cs : List Nat) : List V := cs.map fun c => V.str (oneS c)
theorem sgs_text (z : Str) : (z.cps.toList.map fun c => V.str (oneS c)) = sgs z.cps.toList := rfl
theorem sgs_at {cs : List Nat} {i : Nat} {x : V} (h : (sgs cs)[i]? = some x) : ∃ c, cs[i]? = some c ∧ x = .str (oneS c) := by
  unfold sgs at h
  rw [List.getElem?_map] at h
  cases e : cs[i]? with
  | none =>
    rw [e] at h
    cases h
  | some c =>
    rw [e] at h
    cases h
    exact ⟨c, rfl, rfl⟩
theorem sgs_mem {cs : List Nat} {x : V} (h : x ∈ sgs cs) : ∃ c, c ∈ cs ∧ x = .str (oneS c) := by
  obtain ⟨c, h1, rfl⟩ := List.mem_map.mp h
  exact ⟨c, h1, rfl⟩
theorem sgs_len (cs : List Nat) : (sgs cs).length = cs.length := List.length_map ..
theorem sgs_app (a b : List Nat) : sgs a ++ sgs b = sgs (a ++ b) := by
  unfold sgs
  rw [List.map_append]
theorem sgs_cut (cs : List Nat) (lo hi : Option Int) : cutV (sgs cs) lo hi = sgs ((cs.drop (HT.sIx cs.length 0 lo)).take (HT.sIx cs.length cs.length hi - HT.sIx cs.length 0 lo)) := by
  unfold cutV sgs
  rw [List.length_map, List.map_take, List.map_drop]
theorem join_codes (cs : List Nat) : (Txt.join "" (cs.map oneS)).cps.toList = cs := by
  rw [tl_join0, List.map_map]
  induction cs with
  | nil => rfl
  | cons c r ih =>
    rw [List.map_cons, List.flatten_cons, ih]
    rfl
theorem let_sign {c : Nat} (h : isLet c = true) : isSign c = true := by
  rw [sign_or, h]
  rfl
theorem sgs_erase : ∀ (cs : List Nat) (j : Nat), (sgs cs).eraseIdx j = sgs (cs.eraseIdx j)
  | [], _ => rfl
  | _ :: _, 0 => rfl
  | c :: r, j + 1 => by
    show V.str (oneS c) :: (sgs r).eraseIdx j = V.str (oneS c) :: sgs (r.eraseIdx j)
    rw [sgs_erase r j]
theorem sgs_strs (cs : List Nat) : sgs cs = (cs.map oneS).map V.str := by
  unfold sgs
  rw [List.map_map]
  rfl
theorem sum_ones : ∀ cs : List Nat, ((cs.map oneS).map (·.length)).sum = cs.length
  | [] => rfl
  | c :: r => by
    rw [List.map_cons, List.map_cons, List.sum_cons, sum_ones r, List.length_cons]
    show 1 + r.length = r.length + 1
    omega
theorem ones_sum {cs : List Nat} (h : cs.length ≤ 100) : ((cs.map oneS).map (·.length)).sum + (cs.map oneS).length * ("" : Str).length ≤ 16777216 := by
  rw [sum_ones, show ("" : Str).length = 0 by decide +kernel, Nat.mul_zero]
  omega
theorem _root_.My.But.set {p D : Addr} {H H' : Hp} {o : HO} (h : But p H H') (n : H D = none) : But p H (upd H' D o) := ⟨fun b u e m => by
  rw [upd_ne (ne_of_none e n)]
  exact h.1 b u e m, fun z => by
  by_cases e : p = D
  · rw [e, upd_same] at z
    cases z
  · rw [upd_ne e] at z
    exact h.2 z⟩
theorem _root_.My.Pot.upd {H : Hp} {p c D : Addr} {o : HO} (h : Pot H p c) (n1 : p ≠ D) (n2 : c ≠ D) : Pot (L2.upd H D o) p c := by
  obtain ⟨ns, pl, am, sz, h1, h2, h3⟩ := h
  exact ⟨ns, pl, am, sz, by rw [upd_ne n1]; exact h1, by rw [upd_ne n2]; exact h2, h3⟩
theorem seq_nat {n j : Nat} (h : j < n) : seqIndex? (j : Int) n = some j := by
  refine (ixN_seq ?_).1
  unfold ixN
  rw [if_pos (by omega), if_pos (by omega)]
  rfl
/-- a word: the stem with another letter at its place -/
def wordOf (st : List Nat) (pl x : Nat) : List Nat := st.take pl ++ [x] ++ st.drop (pl + 1)
theorem word_len {st : List Nat} {pl x : Nat} (h : st.length = 8) (hp : pl < 8) : (wordOf st pl x).length = 8 := by
  unfold wordOf
  rw [List.length_append, List.length_append, List.length_take, List.length_drop]
  show _ + 1 + _ = _
  omega
theorem word_at {st : List Nat} {pl x : Nat} (h : st.length = 8) (hp : pl < 8) : (wordOf st pl x)[pl]? = some x := by
  unfold wordOf
  rw [List.append_assoc, List.getElem?_append_right (by rw [List.length_take]; omega), List.length_take, show pl - min pl st.length = 0 by omega]
  rfl
theorem word_first {st : List Nat} {pl x y : Nat} (h : st.length = 8) (hp : pl < 8) (hx : isLet x = true) (h0 : ∀ y, st[0]? = some y → isLet y = true) (e : (wordOf st pl x)[0]? = some y) : isLet y = true := by
  cases pl with
  | zero =>
    have z : (wordOf st 0 x)[0]? = some x := word_at h (by omega)
    rw [z] at e
    cases e
    exact hx
  | succ n =>
    unfold wordOf at e
    rw [List.append_assoc, List.getElem?_append_left (by rw [List.length_take]; omega), List.getElem?_take_of_lt (by omega)] at e
    exact h0 y e
theorem word_signs {st : List Nat} {pl x : Nat} (hx : isSign x = true) (hs : ∀ y ∈ st, isSign y = true) : ∀ y ∈ wordOf st pl x, isSign y = true := by
  intro y hy
  rcases List.mem_append.mp hy with hy | hy
  · rcases List.mem_append.mp hy with hy | hy
    · exact hs y (List.mem_of_mem_take hy)
    · rw [List.mem_singleton.mp hy]
      exact hx
  · exact hs y (List.mem_of_mem_drop hy)
/-- the first n signs of such a word are a name -/
theorem name_of {cs : List Nat} {n : Nat} (hl : cs.length = 8) (h1 : 1 ≤ n) (h8 : n ≤ 8) (h0 : ∀ y, cs[0]? = some y → isLet y = true) (hs : ∀ y ∈ cs, isSign y = true) : isNm (Txt.join "" ((cs.take n).map oneS)) = true := by
  unfold isNm
  rw [join_codes]
  cases e : cs.take n with
  | nil =>
    have z := congrArg List.length e
    rw [List.length_take, List.length_nil] at z
    omega
  | cons c r =>
    have z := congrArg List.length e
    rw [List.length_take, List.length_cons] at z
    have hc : cs[0]? = some c := by
      have y : (cs.take n)[0]? = some c := by rw [e]; rfl
      rw [List.getElem?_take_of_lt (by omega)] at y
      exact y
    have hall : (c :: r).all isSign = true := by
      rw [List.all_eq_true, ← e]
      exact fun y hy => hs y (List.mem_of_mem_take hy)
    dsimp only
    rw [h0 c hc, hall, decide_eq_true (by omega)]
    rfl
theorem sign_in {x : Nat} (h : x ∈ c_SIGNS.cps.toList) : isSign x = true := by
  have e : (c_LETTERS ++ c_DIGITS).cps.toList = c_SIGNS.cps.toList := by decide +kernel
  exact decide_eq_true (by rw [e]; exact h)
theorem zero_len (j : Nat) : V.bl (decide (V.int ((0 : Int) + (j : Nat)) = V.int 0)) = V.bl (decide (j = 0)) := by
  rw [Int.zero_add]
  exact eq_len j 0
theorem erase_not : ∀ {ls : List Nat} {j : Nat} (nd : ls.Nodup) (h : j < ls.length), ls[j] ∉ ls.eraseIdx j
  | [], _, _, h => absurd h (Nat.not_lt_zero _)
  | c :: r, 0, nd, _ => (List.nodup_cons.mp nd).1
  | c :: r, j + 1, nd, h => by
    have h' : j < r.length := by
      rw [List.length_cons] at h
      omega
    intro z
    rcases List.mem_cons.mp (show (c :: r)[j + 1] ∈ c :: r.eraseIdx j from z) with e | e
    · exact (List.nodup_cons.mp nd).1 (e ▸ List.getElem_mem h')
    · exact erase_not (List.nodup_cons.mp nd).2 h' e
theorem cut_pre (cs : List Nat) (n : Nat) (h : n ≤ cs.length) : cutV (sgs cs) none (some (n : Int)) = sgs (cs.take n) := by
  rw [sgs_cut, HT.sIx_none, HT.sIx_nat, Nat.sub_zero, List.drop_zero, Nat.min_eq_left h]
theorem cut_post (cs : List Nat) (n : Nat) (h : n + 1 ≤ cs.length) : cutV (sgs cs) (some ((n : Int) + 1)) none = sgs (cs.drop (n + 1)) := by
  have e : ((n : Int) + 1) = ((n + 1 : Nat) : Int) := by omega
  rw [e, sgs_cut, HT.sIx_none, HT.sIx_nat, Nat.min_eq_left h, List.take_of_length_le (by rw [List.length_drop]; exact Nat.le_refl _)]
theorem cut_name (cs : List Nat) (n b : Nat) (h : n + 1 + b ≤ cs.length) : cutV (sgs cs) none (some ((n : Int) + 1 + (b : Int))) = sgs (cs.take (n + 1 + b)) := by
  have e : ((n : Int) + 1 + (b : Int)) = ((n + 1 + b : Nat) : Int) := by omega
  rw [e]
  exact cut_pre cs (n + 1 + b) h
def spNames : Sp := fun vs H Q _ => ∃ (p c : Addr) (many : Nat), vs = [.ref p, .int many] ∧ Pot H p c ∧ many ≤ 8 ∧ ∀ (l : Addr) (ws : List Str) (H' : Hp), But p H H' → Pot H' p c → H l = none → H' l = some (.lst (ws.map V.str)) → ws.length = many → (∀ y ∈ ws, isNm y = true) → ws.Nodup → Q (.ref l) H'
abbrev s_law_some_names : Stmt := topS 37
theorem sc_law_some_names : FnScope ["pot", "many", "letters", "signs", "place", "found", "stem", "turn", "letter", "word", "spot"] ["pot", "many"] (defScope s_law_some_names) := ⟨rfl, rfl, rfl, by decide +kernel, rfl, by decide +kernel, by decide +kernel⟩
abbrev s_law_some_kind : Stmt := topS 38
theorem sc_law_some_kind : FnScope ["pot", "many", "numbers", "at", "turn", "tag", "number"] ["pot"] (defScope s_law_some_kind) := ⟨rfl, rfl, rfl, by decide +kernel, rfl, by decide +kernel, by decide +kernel⟩
structure TxtM (mg : Str → Option Value) : Prop where
  n_list : mg "list" = none
  n_range : mg "range" = none
  n_len : mg "len" = none
  n_tuple : mg "tuple" = none
  n_zip : mg "zip" = none
section
variable {P : Program} {w : World} {K : PySem.W.Frag} {mg : Str → Option Value} {base : Heap}
theorem ok_some_names {f fb fp : Addr} {fd fdb fdp : FuncData} {k : Nat} (F : Fun K "_law_some_names" "_law_some_names" s_law_some_names f fd) (T : TxtM mg) (F__law_below : Fun K "_law_below" "_law_below" s_law_below fb fdb) (b__law_below : Binds K fdb ["pot", "bound"] []) (g__law_below : mg "_law_below" = some (.ref fb))
    (G__law_below : FnOk P w K mg base CX0 2 fb fdb ["pot", "bound"] spBelow) (F__law_pick : Fun K "_law_pick" "_law_pick" s_law_pick fp fdp) (b__law_pick : Binds K fdp ["pot", "items"] []) (g__law_pick : mg "_law_pick" = some (.ref fp))
    (G__law_pick : FnOk P w K mg base CX0 3 fp fdp ["pot", "items"] (spPick K)) : FnOk P w K mg base CX0 (k + 4) f fd ["pot", "many"] spNames := by
  refine F.ok sc_law_some_names (fun vs H Q E h => ?_) (fun cdv A outer s H vs Q E hr h => ?_)
  · obtain ⟨p, c, many, rfl, _⟩ := h
    rfl
  · obtain ⟨p, c, many, rfl, hP, hmany, q⟩ := h
    refine ⟨_, (pss_cons (ps_asg (pe_tup (pa_cons (pe_callTy (call_listS (by rfl)) (by rfl) T.n_list (by decide +kernel) (pa_cons pe_str pa_nil)) (pa_cons (pe_callTy (call_listS (by rfl)) (by rfl) T.n_list (by decide +kernel) (pa_cons pe_str pa_nil)) pa_nil))) (pg_tup rfl (pgs_cons (pg_name (i := 2) sc_law_some_names.nd rfl (.inr rfl)) (pgs_cons (pg_name (i := 3) sc_law_some_names.nd rfl (.inr rfl)) pgs_nil))))
  (pss_cons (ps_par (i := 4) (j := 5) (by rfl) sc_law_some_names.nd rfl rfl (by decide) rfl rfl (pa_cons (pe_call G__law_below (hr.mono (by omega)) (by rfl) g__law_below F__law_below.kp b__law_below .nil pass0 (pa_cons (pv 0) (pa_cons pe_int pa_nil))) (pa_cons (pe_lst pa_nil) pa_nil)) (by rfl))
  (pss_cons (ps_setLc (i := 6) (own := [("spot", 10)]) (g := gName 10) rfl sc_law_some_names.nd rfl rfl (sw_true rfl rfl rfl (by decide +kernel)) (pi_range1 (by rfl) T.n_range (pa_cons pe_int pa_nil)) (blkOk_by (own := [("spot", 10)]) (N := ["pot", "many", "letters", "signs", "place", "found", "stem", "turn", "letter", "word", "spot"]) (sc := defScope s_law_some_names) (by decide +kernel)) (fun _ _ _ _ _ => (pg_name (i := 10) sc_law_some_names.nd rfl (.inl rfl))) (fun _ _ _ _ _ => pts_nil) (fun _ _ _ _ _ => (pe_call G__law_pick (hr.mono (by omega)) (by rfl) g__law_pick F__law_pick.kp b__law_pick .nil pass0 (pa_cons (pv 0) (pa_cons (pe_ifExp (pt_cmpR op_eq (pv 10) pe_int (nomark _)) (pv 2) (pv 3)) pa_nil)))))
  (pss_cons (ps_for PassesOwn.never rfl (pi_range1 (by rfl) T.n_range (pa_cons (pv 1) pa_nil)) (pg_name (i := 7) sc_law_some_names.nd rfl (.inl rfl))
   (pss_cons (ps_set (i := 8) sc_law_some_names.nd rfl (.inl rfl) (pe_bm PySem.F.plainAttrs_list PySem.F.slot_list_pop PySem.F.type_list_pop mt_popAt (pv 2) (pa_cons (pe_call G__law_below (hr.mono (by omega)) (by rfl) g__law_below F__law_below.kp b__law_below .nil pass0 (pa_cons (pv 0) (pa_cons (pe_callB call_len_seq (by rfl) T.n_len (by decide +kernel) (pa_cons (pv 2) pa_nil)) pa_nil))) pa_nil)))
  (pss_cons (ps_set (i := 9) sc_law_some_names.nd rfl (.inl rfl) (pe_op op_cat (pe_op op_cat (pe_slice sl_list (pv 6) po_none (po_some (pv 4))) (pe_lst (pa_cons (pv 8) pa_nil))) (pe_slice sl_list (pv 6) (po_some (pe_op op_add (pv 4) pe_int)) po_none)))
  (pss_one (ps_expr (pe_bm PySem.F.plainAttrs_list PySem.F.slot_list_append PySem.F.type_list_append mt_append (pv 5) (pa_cons (pe_join pe_str (pe_slice sl_list (pv 9) po_none (po_some (pe_op op_add (pe_op op_add (pv 4) pe_int) (pe_call G__law_below (hr.mono (by omega)) (by rfl) g__law_below F__law_below.kp b__law_below .nil pass0 (pa_cons (pv 0) (pa_cons (pe_op op_sub pe_int (pv 4)) pa_nil))))))) pa_nil)))))))
  (pss_one (ps_ret (pv 5))))))), ?_⟩
    -- letters, signs
    refine ⟨_, rfl, by decide +kernel, fun L0 nL => ⟨_, rfl, by decide +kernel, fun S0 nS => ⟨by show 2 ≤ sizeLine; decide, fun T0 nT => ?_⟩⟩⟩
    have hL1 := (same_upd (o := .lst (sgs c_SIGNS.cps.toList)) nS).trans (same_upd (o := .tup [.ref L0, .ref S0]) nT) L0 (.lst (sgs c_LETTERS.cps.toList)) upd_same
    have hS1 := same_upd (o := .tup [.ref L0, .ref S0]) nT S0 (.lst (sgs c_SIGNS.cps.toList)) upd_same
    have s1 := ((same_upd (o := .lst (sgs c_LETTERS.cps.toList)) nL).trans (same_upd (o := .lst (sgs c_SIGNS.cps.toList)) nS)).trans (same_upd (o := .tup [.ref L0, .ref S0]) nT)
    refine ⟨T0, _, rfl, .inl (.inl upd_same), rfl, _, _, rfl, _, _, rfl, rfl, ?_⟩
    have nSH : H S0 = none := (same_upd nL).free nS
    have hP1 := hP.same s1
    obtain ⟨ns0, p0, am0, sz0, hp0, hc0, hl0⟩ := id hP
    have npL : p ≠ L0 := ne_of_none hp0 nL
    have ncL : c ≠ L0 := ne_of_none hc0 nL
    have npS : p ≠ S0 := ne_of_none hp0 nSH
    have bH1 := But.of (s1 _ _ hp0) s1
    -- place, found
    refine ⟨_, rfl, p, c, 4, rfl, hP1, by decide, by decide, fun pl H2 pl0 pl1 hP2 b2 => ⟨Nat.zero_le _, fun F0 nF => ⟨_, _, rfl, ?_⟩⟩⟩
    have bH2 : But p H H2 := bH1.trans b2
    have hL2 := b2.1 _ _ hL1 (Ne.symm npL)
    have hS2 := b2.1 _ _ hS1 (Ne.symm npS)
    have nFH : H F0 = none := bH2.free nF
    obtain ⟨ns2, p2', am2, sz2, hp2, hc2, hl2⟩ := id hP2
    have npF : p ≠ F0 := ne_of_none hp2 nF
    have ncF : c ≠ F0 := ne_of_none hc2 nF
    have nLF : L0 ≠ F0 := ne_of_none hL2 nF
    have s3 : Same H2 (upd H2 F0 (.lst [])) := same_upd nF
    have hL3 := s3 _ _ hL2
    have hS3 := s3 _ _ hS2
    have hP3 := hP2.same s3
    have bH3 : But p H (upd H2 F0 (.lst [])) := bH2.set nFH
    have hF3 : upd H2 F0 (.lst []) F0 = some (.lst []) := upd_same
    generalize upd H2 F0 (.lst []) = H3 at s3 hL3 hS3 hP3 bH3 hF3 ⊢
    -- stem
    refine ⟨8, rfl, by decide, by decide, fun Z nZ => ?_⟩
    have nZH : H Z = none := bH3.free nZ
    obtain ⟨ns3, p3', am3, sz3, hp3, hc3, hl3⟩ := id hP3
    have npZ : p ≠ Z := ne_of_none hp3 nZ
    have ncZ : c ≠ Z := ne_of_none hc3 nZ
    have nLZ : L0 ≠ Z := ne_of_none hL3 nZ
    have nFZ : F0 ≠ Z := ne_of_none hF3 nZ
    have sZ : Same H3 (upd H3 Z (.lst [])) := same_upd nZ
    refine lc_range (n := 8) (fun j H4 => But p H3 H4 ∧ Pot H4 p c ∧ ∃ st : List Nat, H4 Z = some (.lst (sgs st)) ∧ st.length = j ∧ (∀ x ∈ st, isSign x = true) ∧ ∀ x, st[0]? = some x → isLet x = true) ⟨But.of (sZ _ _ hp3) sZ, hP3.same sZ, [], upd_same, rfl, (fun _ z => nomatch z), (fun _ z => nomatch z)⟩ ?_ ?_
    · rintro j H4 hj ⟨b4, hP4, st, hZ4, lst4, sg4, le4⟩
      refine ⟨rfl, ?_⟩
      unfold tYes
      dsimp only
      rw [if_pos rfl]
      have hL4 := b4.1 _ _ hL3 (Ne.symm npL)
      have hS4 := b4.1 _ _ hS3 (Ne.symm npS)
      have step : ∀ (x : Nat) (H5 : Hp), But p H4 H5 → Pot H5 p c → isSign x = true → (j = 0 → isLet x = true) → ∃ acc, H5 Z = some (.lst acc) ∧ acc.length < sizeLine ∧ But p H3 (upd H5 Z (.lst (acc ++ [V.str (oneS x)]))) ∧ Pot (upd H5 Z (.lst (acc ++ [V.str (oneS x)]))) p c ∧ ∃ st : List Nat, upd H5 Z (.lst (acc ++ [V.str (oneS x)])) Z = some (.lst (sgs st)) ∧ st.length = j + 1 ∧ (∀ x ∈ st, isSign x = true) ∧ ∀ x, st[0]? = some x → isLet x = true := by
        intro x H5 b5 hP5 hx h0
        have hZ5 := b5.1 _ _ hZ4 (Ne.symm npZ)
        refine ⟨_, hZ5, ?_, (b4.trans b5).set nZ, hP5.upd npZ ncZ, st ++ [x], ?_, ?_, ?_, ?_⟩
        · rw [sgs_len]
          exact small1000 (by omega)
        · rw [upd_same, ← sgs_app]
          rfl
        · rw [List.length_append, lst4]
          rfl
        · intro y hy
          rcases List.mem_append.mp hy with hy | hy
          · exact sg4 y hy
          · rw [List.mem_singleton.mp hy]
            exact hx
        · intro y hy
          cases st with
          | nil =>
            cases hy
            exact h0 lst4.symm
          | cons c0 r0 => exact le4 y hy
      refine ⟨_, rfl, _, rfl, rfl, decide (j = 0), zero_len j, ?_⟩
      by_cases hj0 : j = 0
      · rw [decide_eq_true hj0]
        refine iteT ?_
        refine ⟨_, rfl, p, c, L0, _, rfl, hP4, .inl (.inl hL4), by decide +kernel, by decide +kernel, fun H5 hb5 => .inl (.inl (hb5.1 _ _ hL4 (Ne.symm npL))), fun v H5 hv hP5 b5 => ?_⟩
        obtain ⟨x, hx, rfl⟩ := sgs_mem hv
        have hl : isLet x = true := decide_eq_true hx
        exact step x H5 b5 hP5 (let_sign hl) fun _ => hl
      · rw [decide_eq_false hj0]
        refine iteF ?_
        refine ⟨_, rfl, p, c, S0, _, rfl, hP4, .inl (.inl hS4), by decide +kernel, by decide +kernel, fun H5 hb5 => .inl (.inl (hb5.1 _ _ hS4 (Ne.symm npS))), fun v H5 hv hP5 b5 => ?_⟩
        obtain ⟨x, hx, rfl⟩ := sgs_mem hv
        exact step x H5 b5 hP5 (sign_in hx) fun z => absurd z hj0
    · rintro H4 ⟨b4, hP4, st, hZ4, lst4, sg4, le4⟩
      have hL4 := b4.1 _ _ hL3 (Ne.symm npL)
      have hF4 := b4.1 _ _ hF3 (Ne.symm npF)
      have bH4 := bH3.trans b4
      obtain ⟨pn, rfl⟩ : ∃ pn : Nat, pl = (pn : Int) := ⟨pl.toNat, by omega⟩
      have hpn : pn < 4 := by omega
      refine ⟨_, rfl, (many : Int), rfl, by omega, by omega, for_range (n := many) (fun i σ H5 => ∃ (ls : List Nat) (ws : List Str) (v7 v8 v9 v10 : Option V), σ = [some (.ref p), some (.int many), some (.ref L0), some (.ref S0), some (.int pn), some (.ref F0), some (.ref Z), v7, v8, v9, v10] ∧ But p H H5 ∧ Pot H5 p c ∧ H5 L0 = some (.lst (sgs ls)) ∧ H5 Z = some (.lst (sgs st)) ∧ H5 F0 = some (.lst (ws.map V.str)) ∧
        ls.Nodup ∧ (∀ x ∈ ls, isLet x = true) ∧ ls.length + i = 26 ∧ ws.length = i ∧ (∀ y ∈ ws, isNm y = true ∧ ∃ u, y.cps.toList[pn]? = some u ∧ u ∉ ls) ∧ ws.Nodup)
        ⟨c_LETTERS.cps.toList, [], none, none, none, none, rfl, bH4, hP4, hL4, hZ4, hF4, by decide +kernel, (fun x hx => decide_eq_true hx), by decide +kernel, rfl, (fun _ z => nomatch z), List.nodup_nil⟩ ?_ ?_⟩
      · rintro i σ H5 hi ⟨ls, ws, v7, v8, v9, v10, rfl, b5, hP5, hL5, hZ5, hF5, nd, le5, ln5, lw5, nm5, nw5⟩
        -- letter = letters.pop(..)
        refine ⟨_, rfl, .inl ⟨rfl, _, .inl (.inl hL5)⟩, _, rfl, _, rfl, L0, _, rfl, .inl (.inl (.inl hL5)), p, c, _, rfl, hP5, ?_, ?_, fun v H6 v0 v1 hP6 b6 => ?_⟩
        · rw [sgs_len]
          omega
        · rw [sgs_len]
          omega
        rw [sgs_len] at v1
        obtain ⟨j, rfl⟩ : ∃ j : Nat, v = (j : Int) := ⟨v.toNat, by omega⟩
        have hj : j < ls.length := by omega
        have hL6 := b6.1 _ _ hL5 (Ne.symm npL)
        have hZ6 := b6.1 _ _ hZ5 (Ne.symm npZ)
        have hF6 := b6.1 _ _ hF5 (Ne.symm npF)
        refine ⟨L0, _, _, j, V.str (oneS ls[j]), rfl, rfl, hL6, by omega, by omega, seq_nat (by rw [sgs_len]; exact hj), ?_, ?_⟩
        · unfold sgs
          rw [List.getElem?_map, List.getElem?_eq_getElem hj]
          rfl
        rw [sgs_erase]
        have hlet := le5 _ (List.getElem_mem hj)
        have hnot : ls[j] ∉ ls.eraseIdx j := erase_not nd hj
        have hL7 : upd H6 L0 (.lst (sgs (ls.eraseIdx j))) L0 = some (.lst (sgs (ls.eraseIdx j))) := upd_same
        have hZ7 : upd H6 L0 (.lst (sgs (ls.eraseIdx j))) Z = some (.lst (sgs st)) := by rw [upd_ne (Ne.symm nLZ)]; exact hZ6
        have hF7 : upd H6 L0 (.lst (sgs (ls.eraseIdx j))) F0 = some (.lst (ws.map V.str)) := by rw [upd_ne (Ne.symm nLF)]; exact hF6
        have hP7 : Pot (upd H6 L0 (.lst (sgs (ls.eraseIdx j)))) p c := hP6.upd npL ncL
        have b7 : But p H (upd H6 L0 (.lst (sgs (ls.eraseIdx j)))) := (b5.trans b6).set nL
        generalize upd H6 L0 (.lst (sgs (ls.eraseIdx j))) = H7 at hL7 hZ7 hF7 hP7 b7 ⊢
        -- word
        refine ⟨_, rfl, _, rfl, _, rfl, Z, _, rfl, .inl (.inl hZ7), fun a1 f1 => ?_⟩
        rw [cut_pre st pn (by omega)]
        refine ⟨_, rfl, by show 1 ≤ sizeLine; decide, fun a2 f2 => ?_⟩
        refine ⟨a1, a2, sgs (st.take pn), [V.str (oneS ls[j])], rfl, rfl, (same_upd f2) _ _ upd_same, upd_same, fits_few (by rw [sgs_len, List.length_take]; show _ + 1 ≤ _; omega), fun a3 f3 => ?_⟩
        refine ⟨_, rfl, _, rfl, _, _, rfl, rfl, _, rfl, Z, _, rfl, .inl (.inl (same_upd f3 _ _ (same_upd f2 _ _ (same_upd f1 _ _ hZ7)))), fun a4 f4 => ?_⟩
        rw [cut_post st pn (by omega)]
        refine ⟨a3, a4, _, sgs (st.drop (pn + 1)), rfl, rfl, (same_upd f4) _ _ upd_same, upd_same, fits_few (by rw [List.length_append, sgs_len, sgs_len, List.length_take, List.length_drop]; show _ + 1 + _ ≤ _; omega), fun a5 f5 => ?_⟩
        have eW : (sgs (st.take pn) ++ [V.str (oneS ls[j])]) ++ sgs (st.drop (pn + 1)) = sgs (wordOf st pn ls[j]) := by
          unfold wordOf
          rw [← sgs_app, ← sgs_app]
          rfl
        rw [eW]
        have s8 : Same H7 (upd _ a5 (.lst (sgs (wordOf st pn ls[j])))) := ((((same_upd f1).trans (same_upd f2)).trans (same_upd f3)).trans (same_upd f4)).trans (same_upd f5)
        have hF8 := s8 _ _ hF7
        have hP8 := hP7.same s8
        have hW8 : ∀ G : Hp, upd G a5 (.lst (sgs (wordOf st pn ls[j]))) a5 = some (.lst (sgs (wordOf st pn ls[j]))) := fun G => upd_same
        obtain ⟨ns7, p7, am7, sz7, hp7, hc7, hl7⟩ := id hP7
        have np5 : p ≠ a5 := fun z => by
          have y := ne_of_none (((((same_upd f1).trans (same_upd f2)).trans (same_upd f3)).trans (same_upd f4)) _ _ hp7) f5
          exact y z
        -- found.append(..)
        refine ⟨_, rfl, .inl ⟨rfl, _, .inl (.inl hF8)⟩, ⟨_, rfl⟩, ?_⟩
        refine ⟨_, rfl, _, rfl, _, _, rfl, rfl, _, rfl, _, rfl, _, _, rfl, rfl, p, c, _, rfl, hP8, by omega, by omega, fun b H9 b0 b1 hP9 b9 => ?_⟩
        obtain ⟨bn, rfl⟩ : ∃ bn : Nat, b = (bn : Int) := ⟨b.toNat, by omega⟩
        have hbn : pn + 1 + bn ≤ 8 := by omega
        have hW9 := b9.1 _ _ (hW8 _) (Ne.symm np5)
        have hF9 := b9.1 _ _ hF8 (Ne.symm npF)
        have hL9 := b9.1 _ _ (s8 _ _ hL7) (Ne.symm npL)
        have hZ9 := b9.1 _ _ (s8 _ _ hZ7) (Ne.symm npZ)
        have wl : (wordOf st pn ls[j]).length = 8 := word_len lst4 (by omega)
        refine ⟨_, _, rfl, rfl, _, rfl, a5, _, rfl, .inl (.inl hW9), fun a6 f6 => ?_⟩
        rw [cut_name _ pn bn (by omega), sgs_strs ((wordOf st pn ls[j]).take (pn + 1 + bn))]
        have hF10 := same_upd (o := .lst ((((wordOf st pn ls[j]).take (pn + 1 + bn)).map oneS).map V.str)) f6 _ _ hF9
        have s10 := same_upd (o := .lst ((((wordOf st pn ls[j]).take (pn + 1 + bn)).map oneS).map V.str)) f6
        have nm : isNm (Txt.join "" (((wordOf st pn ls[j]).take (pn + 1 + bn)).map oneS)) = true := name_of wl (by omega) hbn (fun y hy => word_first lst4 (by omega) hlet le4 hy) (word_signs (let_sign hlet) sg4)
        have at' : (Txt.join "" (((wordOf st pn ls[j]).take (pn + 1 + bn)).map oneS)).cps.toList[pn]? = some ls[j] := by
          rw [join_codes, List.getElem?_take_of_lt (by omega)]
          exact word_at lst4 (by omega)
        refine ⟨_, a6, _, rfl, rfl, .inl (.inl (.inl upd_same)), ones_sum (by rw [List.length_take]; omega), F0, _, _, rfl, rfl, hF10, ?_, ?_⟩
        · rw [List.length_map]
          exact small1000 (by omega)
        refine ⟨ls.eraseIdx j, ws ++ [Txt.join "" (((wordOf st pn ls[j]).take (pn + 1 + bn)).map oneS)], _, _, _, _, rfl, (((b7.same s8).trans b9).same s10).set nFH, ((hP9.same s10).upd npF ncF), ?_, ?_, ?_, ?_, ?_, ?_, ?_, ?_, ?_⟩
        · rw [upd_ne nLF]
          exact s10 _ _ hL9
        · rw [upd_ne (Ne.symm nFZ)]
          exact s10 _ _ hZ9
        · rw [upd_same, List.map_append]
          rfl
        · exact nd.sublist (List.eraseIdx_sublist ..)
        · exact fun x hx => le5 x (List.mem_of_mem_eraseIdx hx)
        · rw [List.length_eraseIdx_of_lt hj]
          omega
        · rw [List.length_append, lw5]
          rfl
        · intro y hy
          rcases List.mem_append.mp hy with hy | hy
          · obtain ⟨h1, u, h2, h3⟩ := nm5 y hy
            exact ⟨h1, u, h2, fun z => h3 (List.mem_of_mem_eraseIdx z)⟩
          · rw [List.mem_singleton.mp hy]
            exact ⟨nm, _, at', hnot⟩
        · refine List.nodup_append.mpr ⟨nw5, List.nodup_cons.mpr ⟨(fun z => nomatch z), List.nodup_nil⟩, fun y hy z hz => ?_⟩
          rw [List.mem_singleton.mp hz]
          intro e
          obtain ⟨_, u, h2, h3⟩ := nm5 y hy
          rw [e, at'] at h2
          cases h2
          exact h3 (List.getElem_mem hj)
      · rintro σ H5 ⟨ls, ws, v7, v8, v9, v10, rfl, b5, hP5, hL5, hZ5, hF5, nd, le5, ln5, lw5, nm5, nw5⟩
        exact ⟨_, rfl, q F0 ws H5 b5 hP5 nFH hF5 lw5 (fun y hy => (nm5 y hy).1) nw5⟩
end
end My.Kn

namespace My.Kn
open PySem PySem.Spec PyProof.Rows L2
theorem Prs.snoc {H : Hp} {rs : List Addr} {ks : List (Str × Int)} {r : Addr} {p : Str × Int} (h : Prs H rs ks) (e : Rd H r (.tup [.str p.1, .int p.2])) : Prs H (rs ++ [r]) (ks ++ [p]) := by
  induction h with
  | nil => exact .cons e .nil
  | cons x _ ih => exact .cons x ih
/-- what grows at Y (a list) leaves the pairs as they are -/
theorem Prs.grow {H : Hp} {Y : Addr} {xs : List V} {o : HO} {rs : List Addr} {ks : List (Str × Int)} (h : Prs H rs ks) (hY : H Y = some (.lst xs)) : Prs (L2.upd H Y o) rs ks := by
  induction h with
  | nil => exact .nil
  | cons x _ ih =>
    refine .cons ?_ ih
    rcases x with x | ⟨o2, x⟩
    · refine .inl ?_
      rw [upd_ne fun z => ?_]
      · exact x
      · rw [z, hY] at x
        cases x
    · refine .inr ⟨o2, ?_⟩
      rw [upd_ne fun z => ?_]
      · exact x
      · rw [z, hY] at x
        cases x
/-- a: a new tuple of pairs, its object told -/
def KindF (H : Hp) (a : Addr) (ks : List (Str × Int)) : Prop := ∃ rs o, H a = some (.frz o (.tup (rs.map V.ref))) ∧ o.dict = none ∧ Prs H rs ks
theorem KindF.at {H : Hp} {a : Addr} {ks : List (Str × Int)} (h : KindF H a ks) : KindAt H a ks := by
  obtain ⟨rs, o, e, _, p⟩ := h
  exact ⟨rs, .inr ⟨o, e⟩, p⟩
theorem KindF.same {H H' : Hp} {a : Addr} {ks : List (Str × Int)} (h : KindF H a ks) (s : Same H H') : KindF H' a ks := by
  obtain ⟨rs, o, e, d, p⟩ := h
  exact ⟨rs, o, s _ _ e, d, p.same s⟩
/-- a right kind -/
def Right (ks : List (Str × Int)) : Prop := (2 ≤ ks.length ∧ ks.length ≤ 8) ∧ okK ks = true ∧ ∀ q ∈ ks, isNm q.1 = true ∧ 0 ≤ q.2 ∧ q.2 ≤ 4
def spKind : Sp := fun vs H Q _ => ∃ (p c : Addr), vs = [.ref p] ∧ Pot H p c ∧ ∀ (a : Addr) (ks : List (Str × Int)) (H' : Hp), But p H H' → Pot H' p c → H a = none → KindF H' a ks → Right ks → Q (.ref a) H'
theorem cutI (ns : List Int) (lo hi : Option Int) : cutV (ns.map V.int) lo hi = ((ns.drop (HT.sIx ns.length 0 lo)).take (HT.sIx ns.length ns.length hi - HT.sIx ns.length 0 lo)).map V.int := cut_map ns lo hi
theorem cutI_pre (ns : List Int) (n : Nat) (h : n ≤ ns.length) : cutV (ns.map V.int) none (some (n : Int)) = (ns.take n).map V.int := by
  rw [cutI, HT.sIx_none, HT.sIx_nat, Nat.sub_zero, List.drop_zero, Nat.min_eq_left h]
theorem cutI_post (ns : List Int) (n : Nat) (h : n ≤ ns.length) : cutV (ns.map V.int) (some (n : Int)) none = (ns.drop n).map V.int := by
  rw [cutI, HT.sIx_none, HT.sIx_nat, Nat.min_eq_left h, List.take_of_length_le (by rw [List.length_drop]; exact Nat.le_refl _)]
section
variable {P : Program} {w : World} {K : PySem.W.Frag} {mg : Str → Option Value} {base : Heap}
theorem ok_some_kind {f fb fp fn : Addr} {fd fdb fdp fdn : FuncData} {k : Nat} (F : Fun K "_law_some_kind" "_law_some_kind" s_law_some_kind f fd) (T : TxtM mg) (F__law_below : Fun K "_law_below" "_law_below" s_law_below fb fdb) (b__law_below : Binds K fdb ["pot", "bound"] []) (g__law_below : mg "_law_below" = some (.ref fb))
    (G__law_below : FnOk P w K mg base CX0 2 fb fdb ["pot", "bound"] spBelow) (F__law_pick : Fun K "_law_pick" "_law_pick" s_law_pick fp fdp) (b__law_pick : Binds K fdp ["pot", "items"] []) (g__law_pick : mg "_law_pick" = some (.ref fp))
    (G__law_pick : FnOk P w K mg base CX0 3 fp fdp ["pot", "items"] (spPick K)) (F__law_some_names : Fun K "_law_some_names" "_law_some_names" s_law_some_names fn fdn) (b__law_some_names : Binds K fdn ["pot", "many"] []) (g__law_some_names : mg "_law_some_names" = some (.ref fn))
    (G__law_some_names : FnOk P w K mg base CX0 4 fn fdn ["pot", "many"] spNames) : FnOk P w K mg base CX0 (k + 5) f fd ["pot"] spKind := by
  refine F.ok sc_law_some_kind (fun vs H Q E h => ?_) (fun cdv A outer s H vs Q E hr h => ?_)
  · obtain ⟨p, c, rfl, _⟩ := h
    rfl
  · obtain ⟨p, c, rfl, hP, q⟩ := h
    refine ⟨_, (pss_cons (ps_set (i := 1) sc_law_some_kind.nd rfl (.inl rfl) (pe_op op_add pe_int (pe_call G__law_below (hr.mono (by omega)) (by rfl) g__law_below F__law_below.kp b__law_below .nil pass0 (pa_cons (pv 0) (pa_cons pe_int pa_nil)))))
  (pss_cons (ps_set (i := 2) sc_law_some_kind.nd rfl (.inl rfl) (pe_op op_cat (pe_lst (pa_cons pe_int (pa_cons (pe_op op_add pe_int (pe_call G__law_below (hr.mono (by omega)) (by rfl) g__law_below F__law_below.kp b__law_below .nil pass0 (pa_cons (pv 0) (pa_cons pe_int pa_nil)))) pa_nil))) (pe_lc (own := [("turn", 4)]) (g := gName 4) rfl sc_law_some_kind.nd (pi_range1 (by rfl) T.n_range (pa_cons (pe_op op_sub (pv 1) pe_int) pa_nil)) (blkOk_by (own := [("turn", 4)]) (N := ["pot", "many", "numbers", "at", "turn", "tag", "number"]) (sc := defScope s_law_some_kind) (by decide +kernel)) (fun _ _ _ _ _ => (pg_name (i := 4) sc_law_some_kind.nd rfl (.inl rfl))) (fun _ _ _ _ _ => pts_nil) (fun _ _ _ _ _ => (pe_call G__law_pick (hr.mono (by omega)) (by rfl) g__law_pick F__law_pick.kp b__law_pick .nil pass0 (pa_cons (pv 0) (pa_cons (pe_lst (pa_cons pe_int (pa_cons pe_int (pa_cons pe_int (pa_cons pe_int (pa_cons pe_int (pa_cons pe_int (pa_cons pe_int pa_nil)))))))) pa_nil)))))))
  (pss_cons (ps_set (i := 3) sc_law_some_kind.nd rfl (.inl rfl) (pe_call G__law_below (hr.mono (by omega)) (by rfl) g__law_below F__law_below.kp b__law_below .nil pass0 (pa_cons (pv 0) (pa_cons (pv 1) pa_nil))))
  (pss_cons (ps_set (i := 2) sc_law_some_kind.nd rfl (.inl rfl) (pe_op op_cat (pe_slice sl_list (pv 2) (po_some (pv 3)) po_none) (pe_slice sl_list (pv 2) po_none (po_some (pv 3)))))
  (pss_one (ps_ret (pe_callTy call_tupleF (by rfl) T.n_tuple (by decide +kernel) (pa_cons (pe_lc (own := [("tag", 5), ("number", 6)]) (g := gTup K 2 (gCons (gName 5) (gCons (gName 6) gNil))) rfl sc_law_some_kind.nd (pi_zip (by rfl) T.n_zip (pa_cons (pe_call G__law_some_names (hr.mono (by omega)) (by rfl) g__law_some_names F__law_some_names.kp b__law_some_names .nil pass0 (pa_cons (pv 0) (pa_cons (pv 1) pa_nil))) (pa_cons (pv 2) pa_nil))) (blkOk_by (own := [("tag", 5), ("number", 6)]) (N := ["pot", "many", "numbers", "at", "turn", "tag", "number"]) (sc := defScope s_law_some_kind) (by decide +kernel)) (fun _ _ _ _ _ => (pg_tup rfl (pgs_cons (pg_name (i := 5) sc_law_some_kind.nd rfl (.inl rfl)) (pgs_cons (pg_name (i := 6) sc_law_some_kind.nd rfl (.inl rfl)) pgs_nil)))) (fun _ _ _ _ _ => pts_nil) (fun _ _ _ _ _ => (pe_tup (pa_cons (pv 5) (pa_cons (pv 6) pa_nil))))) pa_nil)))))))), ?_⟩
    -- many
    refine ⟨_, rfl, p, c, 7, rfl, hP, by decide, by decide, fun v H1 v0 v1 hP1 b1 => ⟨_, _, rfl, rfl, ?_⟩⟩
    obtain ⟨vn, rfl⟩ : ∃ vn : Nat, v = (vn : Int) := ⟨v.toNat, by omega⟩
    have hvn : vn < 7 := by omega
    -- numbers
    refine ⟨_, rfl, p, c, 3, rfl, hP1, by decide, by decide, fun u H2 u0 u1 hP2 b2 => ⟨_, _, rfl, rfl, by show 2 ≤ sizeLine; decide, fun a1 f1 => ?_⟩⟩
    have bH2 := b1.trans b2
    have s3 := same_upd (o := .lst [.int 0, .int (2 + u)]) f1
    have hP3 := hP2.same s3
    have h1a : upd H2 a1 (.lst [.int 0, .int (2 + u)]) a1 = some (.lst [.int 0, .int (2 + u)]) := upd_same
    obtain ⟨ns2, p2', am2, sz2, hp2, hc2, hl2⟩ := id hP2
    have np1 : p ≠ a1 := ne_of_none hp2 f1
    have b3 := bH2.same s3
    refine ⟨_, rfl, _, _, rfl, rfl, (2 + (vn : Int)) - 2, rfl, by omega, by omega, fun Z nZ => ?_⟩
    have npZ : p ≠ Z := ne_of_none (s3 _ _ hp2) nZ
    have ncZ : c ≠ Z := ne_of_none (s3 _ _ hc2) nZ
    have nZH : H Z = none := b3.free nZ
    have sZ := same_upd (o := .lst []) nZ
    refine lc_range (n := ((2 + (vn : Int)) - 2).toNat) (fun j H4 => But p _ H4 ∧ Pot H4 p c ∧ ∃ ns : List Int, H4 Z = some (.lst (ns.map V.int)) ∧ ns.length = j ∧ ∀ n ∈ ns, 0 ≤ n ∧ n ≤ 4) ⟨But.of (sZ _ _ (s3 _ _ hp2)) sZ, hP3.same sZ, [], upd_same, rfl, fun _ z => nomatch z⟩ ?_ ?_
    · rintro j H4 hj ⟨b4, hP4, ns, hZ4, ln, all⟩
      refine ⟨rfl, ?_⟩
      unfold tYes
      dsimp only
      rw [if_pos rfl]
      refine ⟨_, rfl, by show 7 ≤ sizeLine; decide, fun l nl => ?_⟩
      have sl := same_upd (o := .lst [.int 0, .int 0, .int 1, .int 1, .int 2, .int 3, .int 4]) nl
      obtain ⟨ns4, p4, am4, sz4, hp4, hc4, hl4⟩ := id hP4
      have npl : p ≠ l := ne_of_none hp4 nl
      refine ⟨p, c, l, _, rfl, hP4.same sl, .inl (.inl upd_same), (fun z => nomatch z), by show 7 < 1073741824; decide, fun H' hb => .inl (.inl (hb.1 _ _ upd_same (Ne.symm npl))), fun x H5 hx hP5 b5 => ?_⟩
      obtain ⟨n, rfl, n0, n4⟩ : ∃ n : Int, x = .int n ∧ 0 ≤ n ∧ n ≤ 4 := by
        simp only [List.mem_cons, List.not_mem_nil, or_false] at hx
        rcases hx with rfl | rfl | rfl | rfl | rfl | rfl | rfl <;> exact ⟨_, rfl, by decide, by decide⟩
      have hZ5 := b5.1 _ _ (sl _ _ hZ4) (Ne.symm npZ)
      refine ⟨_, hZ5, ?_, ((b4.same sl).trans b5).set nZ, hP5.upd npZ ncZ, ns ++ [n], ?_, ?_, ?_⟩
      · rw [List.length_map, ln]
        exact small1000 (by omega)
      · rw [upd_same, List.map_append]
        rfl
      · rw [List.length_append, ln]
        rfl
      · intro y hy
        rcases List.mem_append.mp hy with hy | hy
        · exact all y hy
        · rw [List.mem_singleton.mp hy]
          exact ⟨n0, n4⟩
    · rintro H4 ⟨b4, hP4, ns, hZ4, ln, all⟩
      have lnn : ns.length = vn := by omega
      have h1b := b4.1 _ _ h1a (Ne.symm np1)
      refine ⟨a1, Z, _, ns.map V.int, rfl, rfl, h1b, hZ4, fits_few (by rw [List.length_map]; show 2 + _ ≤ _; omega), fun a2 f2 => ?_⟩
      have eN : ([V.int 0, V.int (2 + u)] ++ ns.map V.int) = ((0 : Int) :: (2 + u) :: ns).map V.int := rfl
      generalize hnn : ((0 : Int) :: (2 + u) :: ns) = nn at eN
      have lN : nn.length = 2 + vn := by
        rw [← hnn, List.length_cons, List.length_cons]
        omega
      have zN : (0 : Int) ∈ nn := by
        rw [← hnn]
        exact List.mem_cons_self
      have tN : ∃ x ∈ nn, 2 ≤ x := ⟨2 + u, by rw [← hnn]; exact List.mem_cons_of_mem _ List.mem_cons_self, by omega⟩
      have aN : ∀ x ∈ nn, 0 ≤ x ∧ x ≤ 4 := by
        intro x hx
        rw [← hnn] at hx
        rcases List.mem_cons.mp hx with rfl | hx
        · exact ⟨by decide, by decide⟩
        · rcases List.mem_cons.mp hx with rfl | hx
          · exact ⟨by omega, by omega⟩
          · exact all x hx
      rw [eN]
      have s4 := same_upd (o := .lst (nn.map V.int)) f2
      have hP5 := hP4.same s4
      have h2a : upd H4 a2 (.lst (nn.map V.int)) a2 = some (.lst (nn.map V.int)) := upd_same
      obtain ⟨ns4, p4, am4, sz4, hp4, hc4, hl4⟩ := id hP4
      have np2 : p ≠ a2 := ne_of_none hp4 f2
      have bH5 := (b3.trans b4).same s4
      generalize upd H4 a2 (.lst (nn.map V.int)) = H5 at s4 hP5 h2a bH5 ⊢
      -- at
      refine ⟨_, rfl, _, rfl, p, c, _, rfl, hP5, by omega, by omega, fun t H6 t0 t1 hP6 b6 => ?_⟩
      obtain ⟨tn, rfl⟩ : ∃ tn : Nat, t = (tn : Int) := ⟨t.toNat, by omega⟩
      have htn : tn ≤ nn.length := by omega
      have h2b := b6.1 _ _ h2a (Ne.symm np2)
      have bH6 := bH5.trans b6
      -- numbers[at:] + numbers[:at]
      refine ⟨_, rfl, _, rfl, _, rfl, a2, _, rfl, .inl (.inl h2b), fun a3 f3 => ?_⟩
      rw [cutI_post nn tn htn]
      have s7 := same_upd (o := .lst ((nn.drop tn).map V.int)) f3
      refine ⟨_, rfl, _, rfl, _, rfl, a2, _, rfl, .inl (.inl (s7 _ _ h2b)), fun a4 f4 => ?_⟩
      rw [cutI_pre nn tn htn]
      have s8 := same_upd (o := .lst ((nn.take tn).map V.int)) f4
      refine ⟨a3, a4, _, _, rfl, rfl, s8 _ _ upd_same, upd_same, fits_few (by rw [List.length_map, List.length_map, List.length_drop, List.length_take]; omega), fun a5 f5 => ?_⟩
      rw [← List.map_append]
      have s9 := same_upd (o := .lst ((nn.drop tn ++ nn.take tn).map V.int)) f5
      generalize hrot : nn.drop tn ++ nn.take tn = rot at s9 ⊢
      have mem : ∀ x, x ∈ rot ↔ x ∈ nn := fun x => by
        rw [← hrot, List.mem_append, Or.comm, ← List.mem_append, List.take_append_drop]
      have lR : rot.length = 2 + vn := by
        rw [← hrot, List.length_append, List.length_drop, List.length_take]
        omega
      have s69 := (s7.trans s8).trans s9
      have hP9 := hP6.same s69
      have h5a : ∀ G : Hp, upd G a5 (.lst (rot.map V.int)) a5 = some (.lst (rot.map V.int)) := fun G => upd_same
      obtain ⟨ns6, p6, am6, sz6, hp6, hc6, hl6⟩ := id hP6
      have np5 : p ≠ a5 := fun z => by
        have y := ne_of_none ((s7.trans s8) _ _ hp6) f5
        exact y z
      have bH9 := bH6.same s69
      -- tuple([(tag, number) for tag, number in zip(..)])
      refine ⟨_, rfl, _, rfl, p, c, 2 + vn, rfl, hP9, by omega, fun l ws H10 b10 hP10 nl hl lw nm nw => ?_⟩
      have h5b := b10.1 _ _ (h5a _) (Ne.symm np5)
      have bH10 := bH9.trans b10
      have nlr : ws.length = rot.length := by omega
      refine ⟨_, rfl, l, a5, _, _, rfl, .inl (.inl hl), .inl (.inl h5b), fun Y nY => ?_⟩
      have nYH : H Y = none := bH10.free nY
      refine lc_it (walk_zip (n := 2 + vn) (xs := ws.map V.str) (ys := rot.map V.int) (by rw [List.length_map, List.length_map]; omega)) (fun i H11 => Same H10 H11 ∧ ∃ rs : List Addr, H11 Y = some (.lst (rs.map V.ref)) ∧ Prs H11 rs ((ws.zip rot).take i)) ⟨same_upd nY, [], upd_same, .nil⟩ (fun i H11 _ h => ⟨.inl (.inl (h.1 _ _ hl)), .inl (.inl (h.1 _ _ h5b))⟩) ?_ ?_
      · rintro i x H11 H12 hi ⟨s11, rs, hY, pr⟩ ⟨T4, x4, y4, rfl, nT, rfl, ex, ey⟩
        have ex : (ws.map V.str)[i]? = some x4 := ex
        have ey : (rot.map V.int)[i]? = some y4 := ey
        rw [List.getElem?_map, List.getElem?_eq_getElem (show i < ws.length by omega)] at ex
        obtain rfl : V.str ws[i] = x4 := Option.some.inj ex
        obtain ⟨n, rfl, hn⟩ := int_item ey
        have hz : (ws.zip rot)[i]? = some (ws[i], n) := by
          rw [List.getElem?_zip_eq_some]
          exact ⟨List.getElem?_eq_getElem (show i < ws.length by omega), hn⟩
        refine ⟨T4, _, rfl, .inl (.inl upd_same), rfl, _, _, rfl, _, _, rfl, rfl, rfl, ?_⟩
        unfold tYes
        dsimp only
        rw [if_pos rfl]
        have sT := same_upd (o := .tup [.str ws[i], .int n]) nT
        refine ⟨_, rfl, _, rfl, by show 2 ≤ sizeLine; decide, fun r nr => ?_⟩
        have sr := same_upd (o := .tup [.str ws[i], .int n]) nr
        have prl := pr.length
        have nYr : r ≠ Y := fun z => by
          have y := ne_of_none (sT _ _ hY) nr
          exact y z.symm
        refine ⟨_, sr _ _ (sT _ _ hY), ?_, same_at ((s11.trans sT).trans sr) nY, rs ++ [r], ?_, ?_⟩
        · rw [List.length_map, prl, List.length_take]
          exact small1000 (by omega)
        · rw [upd_same, List.map_append]
          rfl
        · rw [List.take_succ, hz]
          refine Prs.snoc ?_ ?_
          · exact ((pr.same sT).same sr).grow (sr _ _ (sT _ _ hY))
          · exact .inl (by rw [upd_ne nYr, upd_same])
      · rintro H11 ⟨s11, rs, hY, pr⟩
        have lz : (ws.zip rot).length = 2 + vn := by rw [List.length_zip]; omega
        rw [← lz, List.take_length] at pr
        refine ⟨Y, _, rfl, .inl (.inl hY), fun a ob na nob => ?_⟩
        have sa := same_upd (o := .frz ob (.tup (rs.map V.ref))) na
        have e1 : (ws.zip rot).map (·.1) = ws := List.map_fst_zip (by omega)
        have e2 : (ws.zip rot).map (·.2) = rot := List.map_snd_zip (by omega)
        refine q a (ws.zip rot) _ ((bH10.same s11).same sa) ((hP10.same s11).same sa) ((bH10.same s11).free na) ⟨rs, ob, upd_same, nob, pr.same sa⟩ ⟨by omega, ?_, ?_⟩
        · unfold okK
          rw [e1, e2, decide_eq_true nw, decide_eq_true ((mem 0).mpr zN), Bool.true_and, Bool.true_and, List.any_eq_true]
          obtain ⟨x, hx, h2⟩ := tN
          exact ⟨x, (mem x).mpr hx, decide_eq_true h2⟩
        · rintro ⟨y, n⟩ hq
          obtain ⟨m1, m2⟩ := List.of_mem_zip hq
          exact ⟨nm y m1, aN n ((mem n).mp m2)⟩
end
end My.Kn

namespace My
open PySem PySem.Spec PyProof.Rows L2

abbrev s_Layoutgetitem : Stmt := inClass (topS 25) 17
theorem sc_Layoutgetitem : FnScope ["self", "at"] ["self", "at"] (defScope s_Layoutgetitem) := ⟨rfl, rfl, rfl, by decide +kernel, rfl, by decide +kernel, by decide +kernel⟩

structure spTotal (C : Addr) (vs : List V) (H : Hp) (Q : VK) (E : XK) : Prop where
  ex : ∃ a ns, vs = [.ref a] ∧ LayAt C H a ns ∧ Q (.int ns.sum) H
structure spConst (C : Addr) (vs : List V) (H : Hp) (Q : VK) (E : XK) : Prop where
  ex : ∃ a ns, vs = [.ref a] ∧ LayAt C H a ns ∧ Q (.bl (decide (ns.length < 2))) H
structure spTrees (C : Addr) (vs : List V) (H : Hp) (Q : VK) (E : XK) : Prop where
  ex : ∃ k : Nat, vs = [.int (k : Nat)] ∧ k ≤ 40 ∧ ∀ x H', Same H H' → H x = none → LayAt C H' x (trimN (List.replicate k 0 ++ [1])) → Q (.ref x) H'
structure spNumber (C : Addr) (vs : List V) (H : Hp) (Q : VK) (E : XK) : Prop where
  ex : ∃ n : Int, vs = [.int n] ∧ 0 ≤ n ∧ ∀ x H', Same H H' → H x = none → LayAt C H' x (trimN [n]) → Q (.ref x) H'
structure spItem (C : Addr) (vs : List V) (H : Hp) (Q : VK) (E : XK) : Prop where
  ex : ∃ a ns i, vs = [.ref a, .int i] ∧ LayAt C H a ns ∧ Q (.int (getI ns i)) H
structure spHas (C : Addr) (vs : List V) (H : Hp) (Q : VK) (E : XK) : Prop where
  ex : ∃ a ns i, vs = [.ref a, .int i] ∧ LayAt C H a ns ∧ Q (.bl (!decide (getI ns i = 0))) H
structure spLen (C : Addr) (vs : List V) (H : Hp) (Q : VK) (E : XK) : Prop where
  ex : ∃ a ns, vs = [.ref a] ∧ LayAt C H a ns ∧ ∀ H', Same H H' → Q (.int ((ns.filter fun n => !decide (n = 0)).length : Nat)) H'
structure spTruth (C : Addr) (vs : List V) (H : Hp) (Q : VK) (E : XK) : Prop where
  ex : ∃ a ns, vs = [.ref a] ∧ LayAt C H a ns ∧ Q (.bl (!ns.isEmpty)) H
structure spValue (C : Addr) (vs : List V) (H : Hp) (Q : VK) (E : XK) : Prop where
  ex : ∃ a ns n, vs = [.ref a, .int n] ∧ LayAt C H a ns ∧ -1000000000 ≤ n ∧ n ≤ 1000000000 ∧ ∀ H', Same H H' → Q (.int (hornI ns n)) H'
section
variable {P : Program} {w : World} {K : PySem.W.Frag} {mg : Str → Option Value} {base : Heap}
theorem ok_getitem {d : LayD} {f : Addr} {fd : FuncData} {k : Nat} (F : Fun K "__getitem__" "Layout.__getitem__" s_Layoutgetitem f fd) (D : LayF P K mg d) : FnOk P w K mg base CX0 (k + 1) f fd ["self", "at"] (spItem d.lay) := by
  refine F.ok sc_Layoutgetitem (fun vs H Q E h => ?_) (fun cdv A outer s H vs Q E hr h => ?_)
  · obtain ⟨a, ns, i, rfl, _⟩ := h
    rfl
  · obtain ⟨a, ns, i, rfl, ⟨dx, r, ha, hr', h3, h4⟩, q⟩ := h
    refine ⟨_, (pss_one (ps_ret (pe_ifExp (pt_chain op_le op_le pe_int (pv 1) (pe_fld (pv 0) rfl)) (pe_ix ix_tup (pe_fld (pv 0) rfl) (pv 1) (fun _ _ => rfl)) pe_int))), ?_⟩
    refine ⟨_, rfl, _, _, rfl, rfl, _, rfl, ?_⟩
    by_cases z : 0 ≤ i
    · rw [decide_eq_true z]
      refine iteT ?_
      refine ⟨_, rfl, a, d.lay, dx, _, _, rfl, ha, D.lay, D.naD, rfl, _, _, rfl, rfl, _, rfl, ?_⟩
      by_cases y : i ≤ (ns.length : Int) - 1
      · rw [decide_eq_true y]
        refine iteT ?_
        obtain ⟨j, rfl⟩ : ∃ j : Nat, i = (j : Int) := ⟨i.toNat, by omega⟩
        have hj : j < ns.length := by omega
        refine ⟨_, rfl, a, d.lay, dx, _, .ref r, rfl, ha, D.lay, D.naF, rfl, _, rfl, r, _, _, V.int ns[j], rfl, rfl, .inl hr', atI_nat (by rw [List.getElem?_map, List.getElem?_eq_getElem hj]; rfl), ?_⟩
        have e : getI ns (j : Int) = ns[j] := by
          unfold getI
          rw [if_pos ⟨by omega, by omega⟩, Int.toNat_natCast, List.getD_eq_getElem?_getD, List.getElem?_eq_getElem hj]
          rfl
        rw [e] at q
        exact q
      · rw [decide_eq_false y]
        refine iteF ?_
        rw [show getI ns i = 0 from if_neg (by omega)] at q
        exact q
    · rw [decide_eq_false z]
      refine iteF ?_
      refine ⟨_, rfl, iteF ?_⟩
      rw [show getI ns i = 0 from if_neg (by omega)] at q
      exact q
end
end My

namespace My
open PySem PySem.Spec PyProof.Rows L2
/-! ### a dict of the module: get of a key that is there -/
def tKGet1 (K : PySem.W.Frag) (w : World) (td ty : TE) : TE := fun σ H Q => td σ H fun x H1 => ∃ (a : Addr) (es : Array DictEntry) (n : Nat), x = .ref a ∧ KDict K w a es n ∧ ty σ H1 fun y H2 => ∃ (z : Str) (u : Value) (v : V), y = .str z ∧ PySem.W.nsIn K a z = some (some u) ∧ RelV v u ∧ Q v H2
theorem pe_kget1 {X : Cx} {o e : Expr} {apos cpos : Pos} {td ty : TE} (ho : PE X o td) (he : PE X e ty) (m : M1 X o "get" apos e cpos) : PE X (.Call (.Attribute o "get" apos) [e] [] cpos) (tKGet1 X.K X.w td ty) := by
  refine ⟨fun pins s σ H Q I h => ?_⟩
  refine wpAny_Call_method m.base m.few m.line PySem.F.plainAttrs_dict PySem.F.slot_dict_get PySem.F.type_dict_get (thn (ho.run pins s σ H _ I h) fun u s1 ⟨x, H1, I1, rx, a, es, n, ex, D, q1⟩ => ?_)
  subst ex
  obtain rfl : u = Value.ref a := rx
  have hm := PySem.W.mapOf_K (prog := X.prog) I1.kIn D.at_ D.lit
  refine ⟨hm.typeIs, fun b q => ?_, ?_⟩
  · cases q
    exact ⟨_, I1.kIn _ _ D.at_, rfl⟩
  rw [m.trees]
  refine Calls.callWith_builtin rfl (Calls.evalArgs_plain (Calls.spliced_cons (thn (he.run pins s1 σ H1 _ I1 q1) fun iv s2 ⟨y, H2, I2, ry, z, u0, v0, ey, en, r, q2⟩ => Calls.spliced_nil ?_)))
  subst ey
  obtain ⟨t, rfl⟩ := ry
  have hm2 := PySem.W.mapOf_K (prog := X.prog) I2.kIn D.at_ D.lit
  refine call_meetsIn PySem.F.slot_dict_get hm2.typeIs PySem.F.entry_dict_get (PySem.F.args_dict_get_2 _ _) (meets_dict_get (strKind X.prog X.w) a (strKind_is X.prog X.w z t) D.low) ⟨_, hm2, ?_⟩
  rw [PySem.W.find_K D.at_ en]
  exact ⟨v0, H2, I2.tok _, r, q2⟩
/-- a statement that is never reached -/
theorem ps_dead {X : Cx} {st : Stmt} : PS X st (fun _ _ _ => False) := ⟨fun _ _ _ _ _ _ h => h.elim⟩
end My

namespace My
open PySem PySem.Spec PyProof.Rows L2
open Kn (KindAt Prs Most)
abbrev s_has_form : Stmt := topS 28
theorem sc_has_form : FnScope ["thing", "number"] ["thing"] (defScope s_has_form) := ⟨rfl, rfl, rfl, by decide +kernel, rfl, by decide +kernel, by decide +kernel⟩
abbrev s_is_step : Stmt := topS 29
theorem sc_is_step : FnScope ["kind", "layout", "thing", "word", "k", "n", "parts", "many"] ["kind", "layout", "thing"] (defScope s_is_step) := ⟨rfl, rfl, rfl, by decide +kernel, rfl, by decide +kernel, by decide +kernel⟩
/-- steps -/
inductive Stp
  | op (k n : Nat)
  | cl (k n : Nat)
  | mv (k a n : Nat)
  | tu (k n j : Nat)
def Stp.word : Stp → Str
  | .op .. => Str.ofString "open"
  | .cl .. => Str.ofString "close"
  | .mv .. => Str.ofString "move"
  | .tu .. => Str.ofString "turn"
def Stp.ns : Stp → List Nat
  | .op k n => [k, n]
  | .cl k n => [k, n]
  | .mv k a n => [k, a, n]
  | .tu k n j => [k, n, j]
def intV (n : Nat) : V := V.int ((n : Nat) : Int)
def Stp.vs (s : Stp) : List V := .str s.word :: s.ns.map intV
def StepAt (H : Hp) (v : V) (s : Stp) : Prop := ∃ r, v = .ref r ∧ Rd H r (.tup s.vs)
theorem StepAt.same {H H' : Hp} {v : V} {s : Stp} (h : StepAt H v s) (z : Same H H') : StepAt H' v s := by
  obtain ⟨r, e, g⟩ := h
  exact ⟨r, e, rd_same g z⟩
theorem rd_ty {K : PySem.W.Frag} {H : Hp} {r : Addr} {xs : List V} (e : Rd H r (.tup xs)) : TyX K H (.ref r) (.type "tuple") := by
  rcases e with e | ⟨o, e⟩
  · exact .base (.tup e)
  · exact .fTuple e
theorem intV_ty {K : PySem.W.Frag} {H : Hp} (i : Int) : TyX K H (.int i) (.type "int") := .base (.int i)
theorem strV_ty {K : PySem.W.Frag} {H : Hp} (z : Str) : TyX K H (.str z) (.type "str") := .base (.str z)
/-- how many variants have so many parts -/
def cN (ks : List (Str × Int)) (p : Nat) : Int := (((ks.map (·.2)).count ((p : Nat) : Int) : Nat) : Int)
theorem cN_pos (ks : List (Str × Int)) (p : Nat) : 0 ≤ cN ks p := Int.natCast_nonneg _
theorem cN_few (ks : List (Str × Int)) (h : ks.length ≤ 8) (p : Nat) : cN ks p ≤ 8 := by
  have h1 : (ks.map (·.2)).count ((p : Nat) : Int) ≤ (ks.map (·.2)).length := List.count_le_length
  rw [List.length_map] at h1
  show (((ks.map (·.2)).count ((p : Nat) : Int) : Nat) : Int) ≤ 8
  omega
/-- a kind of up to eight variants, m its most parts -/
structure KdOk (ks : List (Str × Int)) (m : Nat) : Prop where
  few : ks.length ≤ 8
  most : Most (ks.map (·.2)) m
  m4 : m ≤ 4
theorem KdOk.out {ks : List (Str × Int)} {m p : Nat} (h : KdOk ks m) (g : m < p) : cN ks p = 0 := by
  unfold cN
  rw [List.count_eq_zero.mpr fun z => by have := (h.most.2 _ z).2; omega]
  rfl
theorem cnt_at (ks : List (Str × Int)) {j p : Nat} (h : p < j) : ((Kn.cnt (ks.map (·.2)) j).map V.int)[p]? = some (V.int (cN ks p)) := by
  unfold Kn.cnt
  rw [List.map_map, List.getElem?_map, List.getElem?_range h]
  rfl
/-- is it a step at a layout -/
def isS (ks : List (Str × Int)) (ns : List Int) : Stp → Prop
  | .op k n => 1 ≤ k ∧ 1 ≤ n ∧ (n : Int) ≤ ns.getD k 0
  | .cl k n => 1 ≤ k ∧ 1 ≤ n ∧ ∀ p, p < 5 → (n : Int) * cN ks p ≤ ns.getD (k - 1 + p) 0
  | .mv k a n => 1 ≤ n ∧ (a : Int) + n ≤ ns.getD k 0
  | .tu k n j => 1 ≤ k ∧ 1 ≤ n ∧ (n : Int) ≤ ns.getD k 0 ∧ 2 ≤ j ∧ j ≤ k
instance (ks : List (Str × Int)) (ns : List Int) : (s : Stp) → Decidable (isS ks ns s)
  | .op k n => inferInstanceAs (Decidable (_ ∧ _ ∧ _))
  | .cl k n => inferInstanceAs (Decidable (1 ≤ k ∧ 1 ≤ n ∧ ∀ p, p < 5 → (n : Int) * cN ks p ≤ ns.getD (k - 1 + p) 0))
  | .mv k a n => inferInstanceAs (Decidable (_ ∧ _))
  | .tu k n j => inferInstanceAs (Decidable (_ ∧ _ ∧ _ ∧ _ ∧ _))
/-- small numbers -/
def Stp.few (s : Stp) : Prop := ∀ n ∈ s.ns, n ≤ 1000000000
theorem getI_eq (ns : List Int) (x : Int) : getI ns x = if 0 ≤ x then ns.getD x.toNat 0 else 0 := by
  unfold getI
  by_cases h : 0 ≤ x
  · rw [if_pos h]
    by_cases g : x < ns.length
    · rw [if_pos ⟨h, g⟩]
    · rw [if_neg (fun z => g z.2), List.getD_eq_getElem?_getD, List.getElem?_eq_none (by omega)]
      rfl
  · rw [if_neg h, if_neg (fun z => h z.1)]
theorem getI_nat (ns : List Int) (k : Nat) : getI ns (k : Nat) = ns.getD k 0 := by rw [getI_eq, if_pos (by omega), Int.toNat_natCast]
theorem cutV_take (xs : List V) (m : Nat) : cutV xs none (some (m : Int)) = xs.take m := by
  unfold cutV
  rw [HT.sIx_none, show HT.sIx xs.length xs.length (some (m : Int)) = min m xs.length from HT.sIx_nat xs.length xs.length m, List.drop_zero, Nat.sub_zero]
  by_cases h : m ≤ xs.length
  · rw [Nat.min_eq_left h]
  · rw [Nat.min_eq_right (by omega), List.take_of_length_le (Nat.le_refl _), List.take_of_length_le (by omega)]
theorem cutV_drop (xs : List V) (m : Nat) : cutV xs (some (m : Int)) none = xs.drop m := by
  unfold cutV
  rw [HT.sIx_none, show HT.sIx xs.length 0 (some (m : Int)) = min m xs.length from HT.sIx_nat xs.length 0 m]
  by_cases h : m ≤ xs.length
  · rw [Nat.min_eq_left h, List.take_of_length_le (by rw [List.length_drop]; omega)]
  · rw [Nat.min_eq_right (by omega), Nat.sub_self, List.take_zero, List.drop_of_length_le (by omega)]
theorem pos_get {C o : Addr} {H : Hp} {ns : List Int} (h : LayAt C H o ns) (k : Nat) : 0 ≤ ns.getD k 0 := by
  obtain ⟨_, _, _, _, _, h4⟩ := h
  exact getD_pos h4 k
theorem eq_no {a b : Str} (h : decide (a = b) = false) : V.bl (decide (V.str a = V.str b)) = V.bl false := by
  congr 1
  refine decide_eq_false fun z => ?_
  cases z
  rw [decide_eq_true rfl] at h
  cases h
theorem eq_yes {a b : Str} (h : decide (a = b) = true) : V.bl (decide (V.str a = V.str b)) = V.bl true := by
  rw [of_decide_eq_true h]
  congr 1
  exact decide_eq_true rfl
theorem w_move_move : decide (Str.ofString "move" = Str.ofString "move") = true := by decide +kernel
theorem w_move_close : decide (Str.ofString "move" = Str.ofString "close") = false := by decide +kernel
theorem w_move_open : decide (Str.ofString "move" = Str.ofString "open") = false := by decide +kernel
theorem w_move_turn : decide (Str.ofString "move" = Str.ofString "turn") = false := by decide +kernel
theorem w_open_move : decide (Str.ofString "open" = Str.ofString "move") = false := by decide +kernel
theorem w_open_close : decide (Str.ofString "open" = Str.ofString "close") = false := by decide +kernel
theorem w_open_open : decide (Str.ofString "open" = Str.ofString "open") = true := by decide +kernel
theorem w_open_turn : decide (Str.ofString "open" = Str.ofString "turn") = false := by decide +kernel
theorem w_close_move : decide (Str.ofString "close" = Str.ofString "move") = false := by decide +kernel
theorem w_close_close : decide (Str.ofString "close" = Str.ofString "close") = true := by decide +kernel
theorem w_close_open : decide (Str.ofString "close" = Str.ofString "open") = false := by decide +kernel
theorem w_close_turn : decide (Str.ofString "close" = Str.ofString "turn") = false := by decide +kernel
theorem w_turn_move : decide (Str.ofString "turn" = Str.ofString "move") = false := by decide +kernel
theorem w_turn_close : decide (Str.ofString "turn" = Str.ofString "close") = false := by decide +kernel
theorem w_turn_open : decide (Str.ofString "turn" = Str.ofString "open") = false := by decide +kernel
theorem w_turn_turn : decide (Str.ofString "turn" = Str.ofString "turn") = true := by decide +kernel
theorem dec_of {b : Bool} {p : Prop} [Decidable p] (i : b = true ↔ p) : b = decide p := by
  by_cases h : p
  · rw [decide_eq_true h]
    exact i.mpr h
  · rw [decide_eq_false h]
    cases b with
    | false => rfl
    | true => exact absurd (i.mp rfl) h
structure TxtH (mg : Str → Option Value) (aL : Addr) : Prop where
  n_isinstance : mg "isinstance" = none
  n_tuple : mg "tuple" = none
  n_len : mg "len" = none
  n_str : mg "str" = none
  n_all : mg "all" = none
  n_enumerate : mg "enumerate" = none
  n_max : mg "max" = none
  n_range : mg "range" = none
  g_LENGTHS : mg "LENGTHS" = some (.ref aL)
/-- the table of lengths -/
structure LenT (K : PySem.W.Frag) (w : World) (aL : Addr) : Prop where
  kd : ∃ es n, KDict K w aL es n
  op : ∃ t, PySem.W.nsIn K aL "open" = some (some (.int 3 t))
  cl : ∃ t, PySem.W.nsIn K aL "close" = some (some (.int 3 t))
  mv : ∃ t, PySem.W.nsIn K aL "move" = some (some (.int 4 t))
  tu : ∃ t, PySem.W.nsIn K aL "turn" = some (some (.int 4 t))
theorem LenT.at {K : PySem.W.Frag} {w : World} {aL : Addr} (h : LenT K w aL) (s : Stp) : ∃ u, PySem.W.nsIn K aL s.word = some (some u) ∧ RelV (.int ((s.vs.length : Nat) : Int)) u := by
  cases s with
  | op k n =>
    obtain ⟨t, e⟩ := h.op
    exact ⟨_, e, t, rfl⟩
  | cl k n =>
    obtain ⟨t, e⟩ := h.cl
    exact ⟨_, e, t, rfl⟩
  | mv k a n =>
    obtain ⟨t, e⟩ := h.mv
    exact ⟨_, e, t, rfl⟩
  | tu k n j =>
    obtain ⟨t, e⟩ := h.tu
    exact ⟨_, e, t, rfl⟩
structure spHasForm (vs : List V) (H : Hp) (Q : VK) (E : XK) : Prop where
  ex : ∃ (v : V) (s : Stp), vs = [v] ∧ StepAt H v s ∧ ∀ H', Same H H' → Q (.bl true) H'
structure spIsStep (C : Addr) (vs : List V) (H : Hp) (Q : VK) (E : XK) : Prop where
  ex : ∃ (a o : Addr) (v : V) (s : Stp) (ks : List (Str × Int)) (m : Nat) (ns : List Int), vs = [.ref a, .ref o, v] ∧ KindAt H a ks ∧ KdOk ks m ∧ LayAt C H o ns ∧ StepAt H v s ∧ s.few ∧ ∀ H', Same H H' → Q (.bl (decide (isS ks ns s))) H'
section
variable {P : Program} {w : World} {K : PySem.W.Frag} {mg : Str → Option Value} {base : Heap}
theorem ok_has_form {f fi aL : Addr} {fd fdi : FuncData} {k : Nat} (F : Fun K "has_form" "has_form" s_has_form f fd) (T : TxtH mg aL) (L : LenT K w aL) (F_is_integer : Fun K "is_integer" "is_integer" s_is_integer fi fdi) (b_is_integer : Binds K fdi ["thing"] []) (g_is_integer : mg "is_integer" = some (.ref fi)) (G_is_integer : FnOk P w K mg base CX0 1 fi fdi ["thing"] spIsInt) :
    FnOk P w K mg base CX0 (k + 2) f fd ["thing"] spHasForm := by
  refine F.ok sc_has_form (fun vs H Q E h => ?_) (fun cdv A outer s H vs Q E hr h => ?_)
  · obtain ⟨v, st, rfl, _⟩ := h
    rfl
  · obtain ⟨v, st, rfl, ⟨r, rfl, er⟩, q⟩ := h
    refine ⟨_, (pss_cons (ps_if (PW.pt (pw_or (pt_not (pt_val (pe_callB call_isi (by rfl) T.n_isinstance (by decide +kernel) (pa_cons (pv 0) (pa_cons (pe_bltn (v := .ty "tuple") (by rfl) T.n_tuple (by decide +kernel) rfl) pa_nil))))) (pw_or (pt_cmpR op_eq (pe_callB call_len_seq (by rfl) T.n_len (by decide +kernel) (pa_cons (pv 0) pa_nil)) pe_int (nomark _)) (pw_or1 (pt_not (pt_val (pe_callB call_isi (by rfl) T.n_isinstance (by decide +kernel) (pa_cons (pe_ix ix_tup (pv 0) pe_int (fun _ _ => rfl)) (pa_cons (pe_bltn (v := .ty "str") (by rfl) T.n_str (by decide +kernel) rfl) pa_nil)))))))))
   (pss_one (ps_ret pe_bl))
   pss_nil)
  (pss_one (ps_ret (pe_and (pe_cmpR op_eq (pe_kget1 (pe_glob (v := .ref aL) (by rfl) T.g_LENGTHS rfl) (pe_ix ix_tup (pv 0) pe_int (fun _ _ => rfl)) ⟨by rfl, by rfl, by rfl, by rfl⟩) (pe_callB call_len_seq (by rfl) T.n_len (by decide +kernel) (pa_cons (pv 0) pa_nil)) (nomark _)) (pe_one (pe_callB (cr_all (by rfl)) (by rfl) T.n_all (by decide +kernel) (pa_cons (pe_lc (own := [("number", 1)]) (g := gName 1) rfl sc_has_form.nd (pi_tup (pe_slice sl_X (pv 0) (po_some pe_int) po_none)) (blkOk_by (own := [("number", 1)]) (N := ["thing", "number"]) (sc := defScope s_has_form) (by decide +kernel)) (fun _ _ _ _ _ => (pg_name (i := 1) sc_has_form.nd rfl (.inl rfl))) (fun _ _ _ _ _ => pts_nil) (fun _ _ _ _ _ => (pe_call G_is_integer (hr.mono (by omega)) (by rfl) g_is_integer F_is_integer.kp b_is_integer .nil pass0 (pa_cons (pv 1) pa_nil)))) pa_nil))))))), ?_⟩
    clear G_is_integer
    refine ⟨_, rfl, _, _, _, _, true, rfl, .ty "tuple", rd_ty er, kit_ty (kit_tup (.tuple [])), _, rfl, iteF ?_⟩
    refine ⟨_, rfl, r, _, rfl, .inr (.inl er), rfl, _, eqI _ _, ?_⟩
    rw [decide_eq_false (show ¬ ((st.vs.length : Nat) : Int) = 0 by show ¬ ((st.ns.map intV).length + 1 : Nat) = (0 : Int); omega)]
    refine iteF ?_
    refine ⟨_, rfl, r, _, _, .str st.word, rfl, rfl, .inl er, atI_nat (j := 0) rfl, _, _, _, _, true, rfl, .ty "str", strV_ty _, kit_ty (kit_str (.str st.word)), _, rfl, iteF ?_⟩
    obtain ⟨es, n, KD⟩ := L.kd
    obtain ⟨u, hu, ru⟩ := L.at st
    refine ⟨aL, es, n, rfl, KD, _, rfl, r, _, _, .str st.word, rfl, rfl, .inl er, atI_nat (j := 0) rfl, st.word, u, _, rfl, hu, ru, _, rfl, r, _, rfl, .inr (.inl er), rfl, ?_⟩
    refine ⟨_, eqI _ _, ?_⟩
    rw [decide_eq_true rfl]
    refine iteT ?_
    refine ⟨_, rfl, _, rfl, r, _, rfl, er, fun t H2 s2 et => ?_⟩
    rw [show (1 : Int) = ((1 : Nat) : Int) from rfl, cutV_drop, show st.vs.drop 1 = st.ns.map intV from rfl] at et
    refine ⟨t, rfl, ⟨_, .inl et⟩, fun D nD => ?_⟩
    refine lc_it (walk_tup (xs := st.ns.map intV)) (fun i H5 => Same H2 H5 ∧ H5 D = some (.lst ((List.replicate i true).map V.bl))) ⟨same_upd nD, upd_same⟩ (fun i H5 _ h => .inl (rd_same et h.1)) ?_ ?_
    · rintro i x H5 H6 hi ⟨s5, eD⟩ ⟨rfl, ex⟩
      rw [List.getElem?_map] at ex
      rw [List.length_map] at hi
      have few : st.ns.length ≤ 3 := by cases st <;> simp [Stp.ns]
      rw [List.getElem?_eq_getElem hi] at ex
      obtain rfl : intV st.ns[i] = x := Option.some.inj ex
      refine ⟨rfl, ?_⟩
      unfold tYes
      dsimp only
      rw [if_pos rfl]
      refine ⟨_, rfl, ⟨_, .int _, rfl, .int _, _, eD, small1000 (by rw [List.length_map, List.length_replicate]; omega), same_at s5 nD, ?_⟩⟩
      rw [upd_same, List.replicate_succ', List.map_append]
      rfl
    · rintro H5 ⟨s5, eD⟩
      refine ⟨D, _, rfl, .inl (.inl eD), ?_⟩
      rw [show (List.replicate (st.ns.map intV).length true).all id = true by simp]
      exact q _ (s2.trans s5)
theorem ok_is_step {d : LayD} {f fh fp g : Addr} {fd fdh fdp : FuncData} {k : Nat} {aL : Addr} (F : Fun K "is_step" "is_step" s_is_step f fd) (T : TxtH mg aL) (D : LayF P K mg d) (F_has_form : Fun K "has_form" "has_form" s_has_form fh fdh) (b_has_form : Binds K fdh ["thing"] []) (g_has_form : mg "has_form" = some (.ref fh)) (G_has_form : FnOk P w K mg base CX0 2 fh fdh ["thing"] spHasForm)
    (F_polynomial : Fun K "polynomial" "polynomial" Kn.s_polynomial fp fdp) (b_polynomial : Binds K fdp ["kind"] []) (g_polynomial : mg "polynomial" = some (.ref fp)) (G_polynomial : FnOk P w K mg base CX0 1 fp fdp ["kind"] Kn.spPoly) (M_getitem : OwnM K d.lay "__getitem__" g) (R_getitem : FnR P w K mg base CX0 1 g (spItem d.lay)) :
    FnOk P w K mg base CX0 (k + 3) f fd ["kind", "layout", "thing"] (spIsStep d.lay) := by
  refine F.ok sc_is_step (fun vs H Q E h => ?_) (fun cdv A outer s H vs Q E hr h => ?_)
  · obtain ⟨a, o, v, st, ks, m, ns, rfl, _⟩ := h
    rfl
  · obtain ⟨a, o, v, st, ks, m, ns, rfl, hk, hM, lo, hs, hf, q⟩ := h
    refine ⟨_, (pss_cons (ps_if (pt_not (pt_val (pe_call G_has_form (hr.mono (by omega)) (by rfl) g_has_form F_has_form.kp b_has_form .nil pass0 (pa_cons (pv 2) pa_nil))))
   (pss_one (ps_ret pe_bl))
   pss_nil)
  (pss_cons (ps_asg (pe_tup (pa_cons (pe_ix ix_tup (pv 2) pe_int (fun _ _ => rfl)) (pa_cons (pe_ix ix_tup (pv 2) pe_int (fun _ _ => rfl)) pa_nil))) (pg_tup rfl (pgs_cons (pg_name (i := 3) sc_is_step.nd rfl (.inl rfl)) (pgs_cons (pg_name (i := 4) sc_is_step.nd rfl (.inr rfl)) pgs_nil))))
  (pss_cons (ps_if (pt_cmpR op_eq (pv 3) pe_str (nomark _))
   (pss_one (ps_ret (pe_and (pe_cmpR op_ge (pe_ix ix_tup (pv 2) pe_int (fun _ _ => rfl)) pe_int (nomark _)) (pe_and (pe_cmpR op_ge (pe_ix ix_tup (pv 2) pe_int (fun _ _ => rfl)) pe_int (nomark _)) (pe_one (pe_cmpR op_le (pe_op op_add (pe_ix ix_tup (pv 2) pe_int (fun _ _ => rfl)) (pe_ix ix_tup (pv 2) pe_int (fun _ _ => rfl))) (pe_ixO M_getitem R_getitem (hr.mono (by omega)) pass0 (pv 1) (pv 4) (fun _ _ => rfl)) (nomark _)))))))
   pss_nil)
  (pss_cons (ps_set (i := 5) sc_is_step.nd rfl (.inr rfl) (pe_ix ix_tup (pv 2) pe_int (fun _ _ => rfl)))
  (pss_cons (ps_if (PW.pt (pw_or (pt_cmpR op_lt (pv 4) pe_int (nomark _)) (pw_or1 (pt_cmpR op_lt (pv 5) pe_int (nomark _)))))
   (pss_one (ps_ret pe_bl))
   pss_nil)
  (pss_cons (ps_if (pt_cmpR op_eq (pv 3) pe_str (nomark _))
   (pss_one (ps_ret (pe_callB (cr_all (by rfl)) (by rfl) T.n_all (by decide +kernel) (pa_cons (pe_lc (own := [("parts", 6), ("many", 7)]) (g := gTup K 2 (gCons (gName 6) (gCons (gName 7) gNil))) rfl sc_is_step.nd (pi_enumT (by rfl) T.n_enumerate (pa_cons (pe_call G_polynomial (hr.mono (by omega)) (by rfl) g_polynomial F_polynomial.kp b_polynomial .nil pass0 (pa_cons (pv 0) pa_nil)) pa_nil)) (blkOk_by (own := [("parts", 6), ("many", 7)]) (N := ["kind", "layout", "thing", "word", "k", "n", "parts", "many"]) (sc := defScope s_is_step) (by decide +kernel)) (fun _ _ _ _ _ => (pg_tup rfl (pgs_cons (pg_name (i := 6) sc_is_step.nd rfl (.inl rfl)) (pgs_cons (pg_name (i := 7) sc_is_step.nd rfl (.inl rfl)) pgs_nil)))) (fun _ _ _ _ _ => pts_nil) (fun _ _ _ _ _ => (pe_cmpR op_le (pe_op op_mul (pv 5) (pv 7)) (pe_ixO M_getitem R_getitem (hr.mono (by omega)) pass0 (pv 1) (pe_op op_add (pe_op op_sub (pv 4) pe_int) (pv 6)) (fun _ _ => rfl)) (nomark _)))) pa_nil))))
   pss_nil)
  (pss_one (ps_ret (pe_and (pe_cmpR op_le (pv 5) (pe_ixO M_getitem R_getitem (hr.mono (by omega)) pass0 (pv 1) (pv 4) (fun _ _ => rfl)) (nomark _)) (pe_one (pe_or (pe_cmpR op_eq (pv 3) pe_str (nomark _)) (pe_one (pe_chain op_le op_le pe_int (pe_ix ix_tup (pv 2) pe_int (fun _ _ => rfl)) (pv 4)))))))))))))), ?_⟩
    clear G_has_form G_polynomial R_getitem
    obtain ⟨dx, rx, ho, _⟩ := id lo
    have fin : ∀ (b : Bool) H', Same H H' → (b = true ↔ isS ks ns st) → Q (.bl b) H' := fun b H' z i => by
      rw [dec_of i]
      exact q _ z
    refine ⟨_, rfl, ⟨v, st, rfl, hs, fun H1 s1 => ⟨_, rfl, iteF ?_⟩⟩⟩
    obtain ⟨r, rfl, er⟩ := hs.same s1
    have hk1 := hk.same s1
    have lo1 := lo.same s1
    have ho1 := s1 _ _ ho
    clear q hs
    cases st with
    | mv kk aa n =>
      refine ⟨_, rfl, r, _, _, _, rfl, rfl, .inl er, atI_nat (j := 0) rfl, _, rfl, r, _, _, _, rfl, rfl, .inl er, atI_nat (j := 1) rfl, by show 2 ≤ sizeLine; decide, fun t nt => ⟨t, _, rfl, .inl (.inl upd_same), rfl, _, _, rfl, _, _, rfl, rfl, ?_⟩⟩
      have s2 := s1.trans (same_upd (o := .tup [V.str (Stp.mv kk aa n).word, intV kk]) nt)
      have er2 := rd_same er (same_upd (o := .tup [V.str (Stp.mv kk aa n).word, intV kk]) nt)
      have lo2 := lo1.same (same_upd (o := .tup [V.str (Stp.mv kk aa n).word, intV kk]) nt)
      have ho2 := (same_upd (o := .tup [V.str (Stp.mv kk aa n).word, intV kk]) nt) _ _ ho1
      generalize upd H1 t (.tup [V.str (Stp.mv kk aa n).word, intV kk]) = H2 at s2 er2 lo2 ho2 ⊢
      refine ⟨_, rfl, rfl, true, eq_yes w_move_move, iteT ?_⟩
      refine ⟨_, rfl, r, _, _, intV aa, rfl, rfl, .inl er2, atI_nat (j := 2) rfl, _, _, rfl, rfl, _, rfl, ?_⟩
      rw [decide_eq_true (show (0 : Int) ≤ ((aa : Nat) : Int) by omega)]
      refine iteT ?_
      refine ⟨_, rfl, r, _, _, intV n, rfl, rfl, .inl er2, atI_nat (j := 3) rfl, _, _, rfl, rfl, _, rfl, ?_⟩
      by_cases n1 : (1 : Int) ≤ ((n : Nat) : Int)
      · rw [decide_eq_true n1]
        refine iteT ?_
        refine ⟨_, rfl, r, _, _, intV aa, rfl, rfl, .inl er2, atI_nat (j := 2) rfl, _, rfl, r, _, _, intV n, rfl, rfl, .inl er2, atI_nat (j := 3) rfl, _, _, rfl, rfl, _, rfl, _, rfl, o, dx, _, rfl, ho2, ⟨o, ns, _, rfl, lo2, ?_⟩⟩
        refine ⟨_, _, rfl, rfl, fin _ _ s2 ?_⟩
        rw [getI_nat, decide_eq_true_iff]
        exact ⟨fun z => ⟨by omega, z⟩, fun z => z.2⟩
      · rw [decide_eq_false n1]
        exact iteF (fin false _ s2 ⟨(fun z => nomatch z), fun z => absurd (show (1 : Int) ≤ ((n : Nat) : Int) by have := z.1; omega) n1⟩)
    | op kk n => 
      refine ⟨_, rfl, r, _, _, _, rfl, rfl, .inl er, atI_nat (j := 0) rfl, _, rfl, r, _, _, _, rfl, rfl, .inl er, atI_nat (j := 1) rfl, by show 2 ≤ sizeLine; decide, fun t nt => ⟨t, _, rfl, .inl (.inl upd_same), rfl, _, _, rfl, _, _, rfl, rfl, ?_⟩⟩
      have s2 := s1.trans (same_upd (o := .tup [V.str (Stp.op kk n).word, intV kk]) nt)
      have er2 := rd_same er (same_upd (o := .tup [V.str (Stp.op kk n).word, intV kk]) nt)
      have lo2 := lo1.same (same_upd (o := .tup [V.str (Stp.op kk n).word, intV kk]) nt)
      have hk2 := hk1.same (same_upd (o := .tup [V.str (Stp.op kk n).word, intV kk]) nt)
      have ho2 := (same_upd (o := .tup [V.str (Stp.op kk n).word, intV kk]) nt) _ _ ho1
      generalize upd H1 t (.tup [V.str (Stp.op kk n).word, intV kk]) = H2 at s2 er2 lo2 hk2 ho2 ⊢
      refine ⟨_, rfl, rfl, false, eq_no w_open_move, iteF ?_⟩
      refine ⟨_, rfl, r, _, _, intV n, rfl, rfl, .inl er2, atI_nat (j := 2) rfl, ?_⟩
      refine ⟨_, rfl, _, _, rfl, rfl, _, rfl, ?_⟩
      by_cases k1 : ((kk : Nat) : Int) < 1
      · rw [decide_eq_true k1]
        exact iteT (iteT (fin false _ s2 ⟨(fun z => nomatch z), fun z => absurd z.1 (by omega)⟩))
      rw [decide_eq_false k1]
      refine iteF ?_
      refine ⟨_, rfl, _, _, rfl, rfl, _, rfl, ?_⟩
      by_cases n1 : ((n : Nat) : Int) < 1
      · rw [decide_eq_true n1]
        exact iteT (fin false _ s2 ⟨(fun z => nomatch z), fun z => absurd z.2.1 (by omega)⟩)
      rw [decide_eq_false n1]
      refine iteF ?_
      refine ⟨_, rfl, rfl, false, eq_no w_open_close, iteF ?_⟩
      refine ⟨_, rfl, _, rfl, _, rfl, o, dx, _, rfl, ho2, ⟨o, ns, _, rfl, lo2, ?_⟩⟩
      rw [getI_nat]
      refine ⟨_, _, rfl, rfl, _, rfl, ?_⟩
      by_cases c : ((n : Nat) : Int) ≤ ns.getD kk 0
      · rw [decide_eq_true c]
        refine iteT ?_
        exact ⟨_, rfl, rfl, true, eq_yes w_open_open, iteT (fin true _ s2 ⟨fun _ => ⟨by omega, by omega, c⟩, fun _ => rfl⟩)⟩
      · rw [decide_eq_false c]
        exact iteF (fin false _ s2 ⟨(fun z => nomatch z), fun z => absurd z.2.2 c⟩)
    | cl kk n => 
      refine ⟨_, rfl, r, _, _, _, rfl, rfl, .inl er, atI_nat (j := 0) rfl, _, rfl, r, _, _, _, rfl, rfl, .inl er, atI_nat (j := 1) rfl, by show 2 ≤ sizeLine; decide, fun t nt => ⟨t, _, rfl, .inl (.inl upd_same), rfl, _, _, rfl, _, _, rfl, rfl, ?_⟩⟩
      have s2 := s1.trans (same_upd (o := .tup [V.str (Stp.cl kk n).word, intV kk]) nt)
      have er2 := rd_same er (same_upd (o := .tup [V.str (Stp.cl kk n).word, intV kk]) nt)
      have lo2 := lo1.same (same_upd (o := .tup [V.str (Stp.cl kk n).word, intV kk]) nt)
      have hk2 := hk1.same (same_upd (o := .tup [V.str (Stp.cl kk n).word, intV kk]) nt)
      have ho2 := (same_upd (o := .tup [V.str (Stp.cl kk n).word, intV kk]) nt) _ _ ho1
      generalize upd H1 t (.tup [V.str (Stp.cl kk n).word, intV kk]) = H2 at s2 er2 lo2 hk2 ho2 ⊢
      refine ⟨_, rfl, rfl, false, eq_no w_close_move, iteF ?_⟩
      refine ⟨_, rfl, r, _, _, intV n, rfl, rfl, .inl er2, atI_nat (j := 2) rfl, ?_⟩
      refine ⟨_, rfl, _, _, rfl, rfl, _, rfl, ?_⟩
      by_cases k1 : ((kk : Nat) : Int) < 1
      · rw [decide_eq_true k1]
        exact iteT (iteT (fin false _ s2 ⟨(fun z => nomatch z), fun z => absurd z.1 (by omega)⟩))
      rw [decide_eq_false k1]
      refine iteF ?_
      refine ⟨_, rfl, _, _, rfl, rfl, _, rfl, ?_⟩
      by_cases n1 : ((n : Nat) : Int) < 1
      · rw [decide_eq_true n1]
        exact iteT (fin false _ s2 ⟨(fun z => nomatch z), fun z => absurd z.2.1 (by omega)⟩)
      rw [decide_eq_false n1]
      refine iteF ?_
      refine ⟨_, rfl, rfl, true, eq_yes w_close_close, iteT ?_⟩
      refine ⟨_, rfl, ⟨a, ks, m, rfl, hk2, by have := hM.few; omega, hM.most, hM.m4, fun T3 H3 s3 nT eT => ?_⟩⟩
      have lo3 := lo2.same s3
      have ho3 := s3 _ _ ho2
      refine ⟨T3, _, rfl, .inl (.inl eT), fun D nD => ?_⟩
      have n9 : n ≤ 1000000000 := hf n (by simp [Stp.ns])
      refine lc_it (walk_enumT (xs := (Kn.cnt (ks.map (·.2)) (m + 1)).map V.int)) (fun i H5 => Same H3 H5 ∧ H5 D = some (.lst (((List.range i).map fun p => decide (((n : Nat) : Int) * cN ks p ≤ ns.getD (kk - 1 + p) 0)).map V.bl))) ⟨same_upd nD, upd_same⟩ (fun i H5 _ h => .inl (.inl (h.1 _ _ eT))) ?_ ?_
      · rintro i x H5 H6 hi ⟨s5, eD⟩ ⟨T9, x9, y9, rfl, nT9, rfl, ex9, ey9⟩
        rw [List.length_map, Kn.cnt_len] at hi
        obtain rfl : V.int (i : Nat) = x9 := Option.some.inj ex9
        have ey9 : ((Kn.cnt (ks.map (·.2)) (m + 1)).map V.int)[i]? = some y9 := ey9
        rw [cnt_at ks hi] at ey9
        obtain rfl : V.int (cN ks i) = y9 := Option.some.inj ey9
        have sT := s5.trans (same_upd (o := .tup [V.int (i : Nat), V.int (cN ks i)]) nT9)
        have eDT := (same_upd (o := .tup [V.int (i : Nat), V.int (cN ks i)]) nT9) _ _ eD
        refine ⟨T9, _, rfl, .inl (.inl upd_same), rfl, _, _, rfl, _, _, rfl, rfl, rfl, ?_⟩
        generalize upd H5 T9 (.tup [V.int (i : Nat), V.int (cN ks i)]) = H7 at sT eDT ⊢
        unfold tYes
        dsimp only
        rw [if_pos rfl]
        refine ⟨_, rfl, _, rfl, _, _, rfl, rfl, .inl ⟨by omega, by omega⟩, _, rfl, _, rfl, _, _, rfl, rfl, _, rfl, _, _, rfl, rfl, o, dx, _, rfl, sT _ _ ho3, ⟨o, ns, _, rfl, lo3.same sT, ?_⟩⟩
        dsimp only
        rw [show ((kk : Nat) : Int) - 1 + ((i : Nat) : Int) = ((kk - 1 + i : Nat) : Int) by omega, getI_nat]
        refine ⟨_, _, rfl, rfl, _, eDT, small1000 (by have := hM.m4; rw [List.length_map, List.length_map, List.length_range]; omega), same_at sT nD, ?_⟩
        rw [upd_same, List.range_succ, List.map_append, List.map_append]
        rfl
      · rintro H5 ⟨s5, eD⟩
        rw [List.length_map, Kn.cnt_len] at eD
        refine ⟨D, _, rfl, .inl (.inl eD), fin _ _ ((s2.trans s3).trans s5) ?_⟩
        rw [List.all_eq_true]
        constructor
        · intro z
          refine ⟨by omega, by omega, fun p hp => ?_⟩
          by_cases pm : p < m + 1
          · exact of_decide_eq_true (z _ (List.mem_map.mpr ⟨p, List.mem_range.mpr pm, rfl⟩))
          · rw [hM.out (by omega), Int.mul_zero]
            exact pos_get lo2 _
        · rintro ⟨_, _, z⟩ b hb
          obtain ⟨p, hp, rfl⟩ := List.mem_map.mp hb
          have := List.mem_range.mp hp
          have := hM.m4
          exact decide_eq_true (z p (by omega))
    | tu kk n j => 
      refine ⟨_, rfl, r, _, _, _, rfl, rfl, .inl er, atI_nat (j := 0) rfl, _, rfl, r, _, _, _, rfl, rfl, .inl er, atI_nat (j := 1) rfl, by show 2 ≤ sizeLine; decide, fun t nt => ⟨t, _, rfl, .inl (.inl upd_same), rfl, _, _, rfl, _, _, rfl, rfl, ?_⟩⟩
      have s2 := s1.trans (same_upd (o := .tup [V.str (Stp.tu kk n j).word, intV kk]) nt)
      have er2 := rd_same er (same_upd (o := .tup [V.str (Stp.tu kk n j).word, intV kk]) nt)
      have lo2 := lo1.same (same_upd (o := .tup [V.str (Stp.tu kk n j).word, intV kk]) nt)
      have hk2 := hk1.same (same_upd (o := .tup [V.str (Stp.tu kk n j).word, intV kk]) nt)
      have ho2 := (same_upd (o := .tup [V.str (Stp.tu kk n j).word, intV kk]) nt) _ _ ho1
      generalize upd H1 t (.tup [V.str (Stp.tu kk n j).word, intV kk]) = H2 at s2 er2 lo2 hk2 ho2 ⊢
      refine ⟨_, rfl, rfl, false, eq_no w_turn_move, iteF ?_⟩
      refine ⟨_, rfl, r, _, _, intV n, rfl, rfl, .inl er2, atI_nat (j := 2) rfl, ?_⟩
      refine ⟨_, rfl, _, _, rfl, rfl, _, rfl, ?_⟩
      by_cases k1 : ((kk : Nat) : Int) < 1
      · rw [decide_eq_true k1]
        exact iteT (iteT (fin false _ s2 ⟨(fun z => nomatch z), fun z => absurd z.1 (by omega)⟩))
      rw [decide_eq_false k1]
      refine iteF ?_
      refine ⟨_, rfl, _, _, rfl, rfl, _, rfl, ?_⟩
      by_cases n1 : ((n : Nat) : Int) < 1
      · rw [decide_eq_true n1]
        exact iteT (fin false _ s2 ⟨(fun z => nomatch z), fun z => absurd z.2.1 (by omega)⟩)
      rw [decide_eq_false n1]
      refine iteF ?_
      refine ⟨_, rfl, rfl, false, eq_no w_turn_close, iteF ?_⟩
      refine ⟨_, rfl, _, rfl, _, rfl, o, dx, _, rfl, ho2, ⟨o, ns, _, rfl, lo2, ?_⟩⟩
      rw [getI_nat]
      refine ⟨_, _, rfl, rfl, _, rfl, ?_⟩
      by_cases c : ((n : Nat) : Int) ≤ ns.getD kk 0
      · rw [decide_eq_true c]
        refine iteT ?_
        refine ⟨_, rfl, rfl, false, eq_no w_turn_open, iteF ?_⟩
        refine ⟨_, rfl, r, _, _, intV j, rfl, rfl, .inl er2, atI_nat (j := 3) rfl, _, _, rfl, rfl, _, rfl, ?_⟩
        by_cases j2 : (2 : Int) ≤ ((j : Nat) : Int)
        · rw [decide_eq_true j2]
          refine iteT ?_
          refine ⟨_, rfl, _, _, rfl, rfl, fin _ _ s2 ?_⟩
          rw [decide_eq_true_iff]
          exact ⟨fun z => ⟨by omega, by omega, c, by omega, by omega⟩, fun z => by have := z.2.2.2.2; omega⟩
        · rw [decide_eq_false j2]
          exact iteF (fin false _ s2 ⟨(fun z => nomatch z), fun z => absurd z.2.2.2.1 (by omega)⟩)
      · rw [decide_eq_false c]
        exact iteF (fin false _ s2 ⟨(fun z => nomatch z), fun z => absurd z.2.2.1 c⟩)
end
end My

namespace My
open PySem PySem.Spec PyProof.Rows L2
open Kn (KindAt Prs Most)
abbrev s_changed : Stmt := topS 30
theorem sc_changed : FnScope ["kind", "layout", "step", "word", "k", "n", "places", "terms", "many", "factors", "parts", "j"] ["kind", "layout", "step"] (defScope s_changed) := ⟨rfl, rfl, rfl, by decide +kernel, rfl, by decide +kernel, by decide +kernel⟩
abbrev s_layout_behind : Stmt := topS 31
theorem sc_layout_behind : FnScope ["kind", "layout", "step"] ["kind", "layout", "step"] (defScope s_layout_behind) := ⟨rfl, rfl, rfl, by decide +kernel, rfl, by decide +kernel, by decide +kernel⟩
/-- what opens into a degree, counted from one below the one that is opened -/
def shC (ks : List (Str × Int)) (k j : Nat) : Int := if k ≤ j + 1 then cN ks (j + 1 - k) else 0
/-- the factors behind a step -/
def chF (ks : List (Str × Int)) (ns : List Int) : Stp → Nat → Int
  | .op k n, j => ns.getD j 0 - (if j = k then (n : Int) else 0) + n * shC ks k j
  | .cl k n, j => ns.getD j 0 + (if j = k then (n : Int) else 0) - n * shC ks k j
  | .mv .., j => ns.getD j 0
  | .tu .., j => ns.getD j 0
def Stp.k : Stp → Nat
  | .op k _ => k
  | .cl k _ => k
  | .mv k _ _ => k
  | .tu k _ _ => k
/-- a step's third part -/
def Stp.b : Stp → Nat
  | .op _ n => n
  | .cl _ n => n
  | .mv _ a _ => a
  | .tu _ n _ => n
theorem take3 (s : Stp) : s.vs.take 3 = [.str s.word, intV s.k, intV s.b] := by cases s <;> rfl
theorem b_few {s : Stp} (h : s.few) : s.b ≤ 1000000000 := by cases s <;> exact h _ (by simp [Stp.ns, Stp.b])
theorem chF_pos {ks : List (Str × Int)} {m : Nat} (hM : KdOk ks m) {ns : List Int} (h : ∀ j, 0 ≤ ns.getD j 0) {s : Stp} (hs : isS ks ns s) (j : Nat) : 0 ≤ chF ks ns s j := by
  have hj := h j
  have sp : ∀ k, 0 ≤ shC ks k j := fun k => by
    unfold shC
    split
    · exact cN_pos _ _
    · exact Int.le_refl _
  cases s with
  | op k n =>
    obtain ⟨_, _, h3⟩ := hs
    have h4 := Int.mul_nonneg (Int.natCast_nonneg n) (sp k)
    show 0 ≤ ns.getD j 0 - (if j = k then (n : Int) else 0) + n * shC ks k j
    by_cases e : j = k
    · subst e
      rw [if_pos rfl]
      omega
    · rw [if_neg e]
      omega
  | cl k n =>
    obtain ⟨h1, _, h3⟩ := hs
    show 0 ≤ ns.getD j 0 + (if j = k then (n : Int) else 0) - n * shC ks k j
    have h4 : (n : Int) * shC ks k j ≤ ns.getD j 0 := by
      unfold shC
      by_cases z : k ≤ j + 1
      · rw [if_pos z]
        by_cases y : j + 1 - k < 5
        · have := h3 _ y
          rw [show k - 1 + (j + 1 - k) = j by omega] at this
          exact this
        · rw [hM.out (by have := hM.m4; omega), Int.mul_zero]
          exact hj
      · rw [if_neg z, Int.mul_zero]
        exact hj
    split <;> omega
  | mv k a n => exact hj
  | tu k n i => exact hj
structure spChanged (C : Addr) (vs : List V) (H : Hp) (Q : VK) (E : XK) : Prop where
  ex : ∃ (a o : Addr) (v : V) (s : Stp) (ks : List (Str × Int)) (m : Nat) (ns : List Int), vs = [.ref a, .ref o, v] ∧ KindAt H a ks ∧ KdOk ks m ∧ LayAt C H o ns ∧ trimN ns = ns ∧ ns.length ≤ 20 ∧ StepAt H v s ∧ s.few ∧ s.k ≤ 20 ∧ isS ks ns s ∧
    ∀ x M H', Same H H' → LayAt C H' x (trimN M) → (∀ j, M.getD j 0 = chF ks ns s j) → Q (.ref x) H'
section
variable {P : Program} {w : World} {K : PySem.W.Frag} {mg : Str → Option Value} {base : Heap}
theorem ok_changed {d : LayD} {f fp g fL : Addr} {fd fdp : FuncData} {k : Nat} {aL : Addr} (F : Fun K "changed" "changed" s_changed f fd) (T : TxtH mg aL) (D : LayF P K mg d)
    (F_polynomial : Fun K "polynomial" "polynomial" Kn.s_polynomial fp fdp) (b_polynomial : Binds K fdp ["kind"] []) (g_polynomial : mg "polynomial" = some (.ref fp)) (G_polynomial : FnOk P w K mg base CX0 1 fp fdp ["kind"] Kn.spPoly) (M_getitem : OwnM K d.lay "__getitem__" g) (R_getitem : FnR P w K mg base CX0 1 g (spItem d.lay))
    (M_Layout : Mk K d.lay fL) (R_Layout : FnR P w K mg base (L2.CX P w) 3 fL (spMk d.lay)) : FnOk P w K mg base CX0 (k + 5) f fd ["kind", "layout", "step"] (spChanged d.lay) := by
  refine F.ok sc_changed (fun vs H Q E h => ?_) (fun cdv A outer s H vs Q E hr h => ?_)
  · obtain ⟨a, o, v, st, ks, m, ns, rfl, _⟩ := h
    rfl
  · obtain ⟨a, o, v, st, ks, m, ns, rfl, hk, hM, lo, hT, l20, hs, hf, k20, hS, q⟩ := h
    refine ⟨_, (pss_cons (ps_asg (pe_slice sl_X (pv 2) po_none (po_some pe_int)) (pg_tup rfl (pgs_cons (pg_name (i := 3) sc_changed.nd rfl (.inl rfl)) (pgs_cons (pg_name (i := 4) sc_changed.nd rfl (.inl rfl)) (pgs_cons (pg_name (i := 5) sc_changed.nd rfl (.inl rfl)) pgs_nil)))))
  (C8.pss_cut (ps_if (PW.pt (pw_or (pt_cmpR op_eq (pv 3) pe_str (nomark _)) (pw_or1 (pt_cmpR op_eq (pv 3) pe_str (nomark _)))))
   (pss_one (ps_ret (pv 1)))
   pss_nil)
  (C8.pss_cut (ps_set (i := 6) sc_changed.nd rfl (.inl rfl) (pe_ifExp (pt_cmpR op_eq (pv 3) pe_str (nomark _)) (pv 5) (pe_un un_neg (pv 5))))
  (pss_cons (ps_set (i := 7) sc_changed.nd rfl (.inl rfl) (pe_call G_polynomial (hr.mono (by omega)) (by rfl) g_polynomial F_polynomial.kp b_polynomial .nil pass0 (pa_cons (pv 0) pa_nil)))
  (pss_cons (ps_set (i := 8) sc_changed.nd rfl (.inl rfl) (pe_callB (call_max2 (by rfl)) (by rfl) T.n_max (by decide +kernel) (pa_cons (pe_callB call_len_seq (by rfl) T.n_len (by decide +kernel) (pa_cons (pe_fld (pv 1) rfl) pa_nil)) (pa_cons (pe_op op_add (pv 4) (pe_callB call_len_seq (by rfl) T.n_len (by decide +kernel) (pa_cons (pv 7) pa_nil))) pa_nil))))
  (pss_cons (ps_setLc (i := 9) (own := [("j", 11)]) (g := gName 11) rfl sc_changed.nd rfl rfl (sw_true rfl rfl rfl (by decide +kernel)) (pi_range1 (by rfl) T.n_range (pa_cons (pv 8) pa_nil)) (blkOk_by (own := [("j", 11)]) (N := ["kind", "layout", "step", "word", "k", "n", "places", "terms", "many", "factors", "parts", "j"]) (sc := defScope s_changed) (by decide +kernel)) (fun _ _ _ _ _ => (pg_name (i := 11) sc_changed.nd rfl (.inl rfl))) (fun _ _ _ _ _ => pts_nil) (fun _ _ _ _ _ => (pe_ixO M_getitem R_getitem (hr.mono (by omega)) pass0 (pv 1) (pv 11) (fun _ _ => rfl))))
  (pss_cons (ps_asg (pe_op op_sub (pe_ix ix_list (pv 9) (pv 4) (fun _ _ => rfl)) (pv 6)) (pg_sub (pv 9) (pv 4) set_list))
  (pss_cons (ps_for PassesOwn.never rfl (pi_enumT (by rfl) T.n_enumerate (pa_cons (pv 7) pa_nil)) (pg_tup rfl (pgs_cons (pg_name (i := 10) sc_changed.nd rfl (.inl rfl)) (pgs_cons (pg_name (i := 8) sc_changed.nd rfl (.inl rfl)) pgs_nil)))
   (pss_one (ps_asg (pe_op op_add (pe_ix ix_list (pv 9) (pe_op op_add (pe_op op_sub (pv 4) pe_int) (pv 10)) (fun _ _ => rfl)) (pe_op op_mul (pv 6) (pv 8))) (pg_sub (pv 9) (pe_op op_add (pe_op op_sub (pv 4) pe_int) (pv 10)) set_list))))
  (pss_one (ps_ret (pe_makeI M_Layout R_Layout (hr.mono (by omega)) (by rfl) D.gLay (pa_cons (pv 9) pa_nil)))))))))))), ?_⟩
    clear G_polynomial R_getitem R_Layout
    obtain ⟨dx, rx, ho, hrx, _, npos⟩ := id lo
    obtain ⟨r, rfl, er⟩ := id hs
    have gpos : ∀ j, 0 ≤ ns.getD j 0 := getD_pos npos
    refine ⟨_, rfl, _, rfl, r, _, rfl, er, fun t H2 s2 et => ?_⟩
    rw [show (3 : Int) = ((3 : Nat) : Int) from rfl, cutV_take, take3] at et
    refine ⟨t, _, rfl, .inl et, rfl, _, _, rfl, _, _, rfl, _, _, rfl, rfl, ?_⟩
    refine ⟨fun σ' H' => H' = H2 ∧ σ' = [some (.ref a), some (.ref o), some (.ref r), some (.str st.word), some (intV st.k), some (intV st.b), none, none, none, none, none, none] ∧ (st = .op st.k st.b ∨ st = .cl st.k st.b), ?_, ?_⟩
    · cases st with
      | mv kk aa n =>
        refine ⟨_, rfl, rfl, true, eq_yes w_move_move, iteT (iteT ⟨_, rfl, ?_⟩)⟩
        exact q o ns H2 s2 (by rw [hT]; exact lo.same s2) fun _ => rfl
      | op kk n => exact ⟨_, rfl, rfl, false, eq_no w_open_move, iteF ⟨_, rfl, rfl, false, eq_no w_open_turn, iteF ⟨rfl, rfl, .inl rfl⟩⟩⟩
      | cl kk n => exact ⟨_, rfl, rfl, false, eq_no w_close_move, iteF ⟨_, rfl, rfl, false, eq_no w_close_turn, iteF ⟨rfl, rfl, .inr rfl⟩⟩⟩
      | tu kk n j =>
        refine ⟨_, rfl, rfl, false, eq_no w_turn_move, iteF ⟨_, rfl, rfl, true, eq_yes w_turn_turn, iteT ⟨_, rfl, ?_⟩⟩⟩
        exact q o ns H2 s2 (by rw [hT]; exact lo.same s2) fun _ => rfl
    rintro σ1 H1 ⟨rfl, rfl, hw⟩
    refine ⟨fun σ' H' => H' = H1 ∧ ∃ pl : Int, σ' = [some (.ref a), some (.ref o), some (.ref r), some (.str st.word), some (intV st.k), some (intV st.b), some (.int pl), none, none, none, none, none] ∧ pl.natAbs ≤ 1000000000 ∧ 1 ≤ st.k ∧ ∀ j, chF ks ns st j = ns.getD j 0 - (if j = st.k then pl else 0) + pl * shC ks st.k j, ?_, ?_⟩
    · have bf := b_few hf
      cases st with
      | mv kk aa n => rcases hw with z | z <;> cases z
      | op kk n =>
        refine ⟨_, rfl, rfl, true, eq_yes w_open_open, iteT ⟨_, rfl, rfl, ((n : Nat) : Int), rfl, ?_, hS.1, fun j => rfl⟩⟩
        exact bf
      | cl kk n =>
        refine ⟨_, rfl, rfl, false, eq_no w_close_open, iteF ⟨_, rfl, _, rfl, rfl, -((n : Nat) : Int), rfl, ?_, hS.1, fun j => ?_⟩⟩
        · have bf : n ≤ 1000000000 := bf
          omega
        · show ns.getD j 0 + (if j = kk then (n : Int) else 0) - n * shC ks kk j = ns.getD j 0 - (if j = kk then -(n : Int) else 0) + -(n : Int) * shC ks kk j
          rw [Int.neg_mul]
          split <;> omega
      | tu kk n j => rcases hw with z | z <;> cases z
    rintro σ1 H2 ⟨rfl, pl, rfl, pl9, k1, hch⟩
    have lo2 := lo.same s2
    have ho2 := s2 _ _ ho
    have hrx2 := rd_same hrx s2
    generalize hkk : st.k = kk at hch k1 k20 ⊢
    refine ⟨_, rfl, ⟨a, ks, m, rfl, hk.same s2, by have := hM.few; omega, hM.most, hM.m4, fun T3 H3 s3 nT eT => ?_⟩⟩
    have m4 := hM.m4
    have s03 := s2.trans s3
    refine ⟨_, rfl, o, d.lay, dx, _, .ref rx, rfl, s3 _ _ ho2, D.lay, D.naF, rfl, rx, _, rfl, .inr (.inl (rd_same hrx2 s3)), _, rfl, _, rfl, T3, _, rfl, .inr (.inl (.inl eT)), _, _, rfl, rfl, _, _, rfl, ?_⟩
    rw [List.length_map, List.length_map, Kn.cnt_len]
    dsimp only
    obtain ⟨N, hN⟩ : ∃ N : Nat, N = max ns.length (kk + (m + 1)) := ⟨_, rfl⟩
    rw [show (if ((kk : Nat) : Int) + ((m + 1 : Nat) : Int) > ((ns.length : Nat) : Int) then ((kk : Nat) : Int) + ((m + 1 : Nat) : Int) else ((ns.length : Nat) : Int)) = ((N : Nat) : Int) by split <;> omega]
    have lo3 := lo2.same s3
    have ho3 := s3 _ _ ho2
    refine ⟨_, rfl, ((N : Nat) : Int), rfl, by omega, by omega, fun D1 nD1 => ?_⟩
    refine lc_range (n := Int.toNat ((N : Nat) : Int)) (fun i H5 => Same H3 H5 ∧ H5 D1 = some (.lst (((List.range i).map fun j => ns.getD j 0).map V.int))) ⟨same_upd nD1, upd_same⟩ ?_ ?_
    · rintro i H5 hi ⟨s5, eD⟩
      refine ⟨rfl, ?_⟩
      unfold tYes
      dsimp only
      rw [if_pos rfl, Int.zero_add]
      refine ⟨_, rfl, _, rfl, o, dx, _, rfl, s5 _ _ ho3, ⟨o, ns, _, rfl, lo3.same s5, ?_⟩⟩
      rw [getI_nat]
      refine ⟨_, eD, small1000 (by rw [List.length_map, List.length_map, List.length_range]; omega), same_at s5 nD1, ?_⟩
      rw [upd_same, List.range_succ, List.map_append, List.map_append]
      rfl
    rintro H5 ⟨s5, eD⟩
    rw [Int.toNat_natCast] at eD
    obtain ⟨M0, hM0⟩ : ∃ M0 : List Int, M0 = (List.range N).map fun j => ns.getD j 0 := ⟨_, rfl⟩
    rw [← hM0] at eD
    have l0 : M0.length = N := by rw [hM0, List.length_map, List.length_range]
    have g0 : ∀ j, M0.getD j 0 = ns.getD j 0 := fun j => by
      rw [hM0, List.getD_eq_getElem?_getD, List.getElem?_map]
      by_cases z : j < N
      · rw [List.getElem?_range z]
        rfl
      · rw [List.getElem?_eq_none (by rw [List.length_range]; omega), List.getD_eq_getElem?_getD, List.getElem?_eq_none (by omega)]
        rfl
    have kN : kk < N := by omega
    refine ⟨_, rfl, _, rfl, D1, _, _, _, rfl, rfl, .inl (.inl eD), get_nat (l0 ▸ kN), _, rfl, _, _, rfl, rfl, ?_⟩
    refine ⟨_, rfl, _, rfl, D1, _, _, _, rfl, rfl, eD, by rw [List.length_map]; exact ix_nat (l0 ▸ kN), ?_⟩
    rw [← List.map_set]
    have s36 : Same H3 (upd H5 D1 (.lst ((M0.set kk (M0.getD kk 0 - pl)).map V.int))) := same_at s5 nD1
    have e6 : (upd H5 D1 (.lst ((M0.set kk (M0.getD kk 0 - pl)).map V.int))) D1 = some (.lst ((M0.set kk (M0.getD kk 0 - pl)).map V.int)) := upd_same
    dsimp only
    generalize upd H5 D1 (.lst ((M0.set kk (M0.getD kk 0 - pl)).map V.int)) = H6 at s36 e6 ⊢
    refine ⟨_, rfl, T3, _, rfl, .inl (.inl (s36 _ _ eT)), ?_⟩
    refine for_it (walk_enumT (xs := (Kn.cnt (ks.map (·.2)) (m + 1)).map V.int)) (fun i σ H7 => Same H3 H7 ∧ ∃ (M : List Int) (v8 v10 : Option V), H7 D1 = some (.lst (M.map V.int)) ∧ M.length = N ∧ (∀ j, M.getD j 0 = (ns.getD j 0 - if j = kk then pl else 0) + if kk ≤ j + 1 ∧ j + 1 < kk + i then pl * cN ks (j + 1 - kk) else 0) ∧ σ = [some (.ref a), some (.ref o), some (.ref r), some (.str st.word), some (intV kk), some (intV st.b), some (.int pl), some (.ref T3), v8, some (.ref D1), v10, none]) ⟨s36, _, _, _, e6, by rw [List.length_set]; exact l0, fun j => ?_, rfl⟩ (fun i σ H7 _ h => .inl (.inl (h.1 _ _ eT))) ?_ ?_
    · rw [getD_set, g0, g0, if_neg (show ¬ (kk ≤ j + 1 ∧ j + 1 < kk + 0) by omega)]
      by_cases z : j = kk
      · subst z
        rw [if_pos ⟨rfl, l0 ▸ kN⟩, if_pos rfl]
        omega
      · rw [if_neg (fun y => z y.1.symm), if_neg z]
        omega
    · rintro i x σ H7 H8 hi ⟨s7, M, v8, v10, eM, lM, gM, rfl⟩ ⟨T9, x9, y9, rfl, nT9, rfl, ex9, ey9⟩
      rw [List.length_map, Kn.cnt_len] at hi
      obtain rfl : V.int (i : Nat) = x9 := Option.some.inj ex9
      have ey9 : ((Kn.cnt (ks.map (·.2)) (m + 1)).map V.int)[i]? = some y9 := ey9
      rw [cnt_at ks hi] at ey9
      obtain rfl : V.int (cN ks i) = y9 := Option.some.inj ey9
      have sT := s7.trans (same_upd (o := .tup [V.int (i : Nat), V.int (cN ks i)]) nT9)
      have eMT := (same_upd (o := .tup [V.int (i : Nat), V.int (cN ks i)]) nT9) _ _ eM
      refine ⟨T9, _, rfl, .inl (.inl upd_same), rfl, _, _, rfl, _, _, rfl, rfl, ?_⟩
      generalize upd H7 T9 (.tup [V.int (i : Nat), V.int (cN ks i)]) = H9 at sT eMT ⊢
      have ei : ((kk : Nat) : Int) - 1 + ((i : Nat) : Int) = ((kk - 1 + i : Nat) : Int) := by omega
      have iN : kk - 1 + i < M.length := by omega
      have c8 := cN_few ks hM.few i
      have c0 := cN_pos ks i
      refine ⟨_, rfl, _, rfl, _, _, rfl, rfl, _, rfl, _, _, rfl, rfl, D1, _, _, V.int (M.getD (kk - 1 + i) 0), rfl, rfl, .inl (.inl eMT), by rw [ei]; exact get_nat iN, _, rfl, _, rfl, _, _, rfl, rfl, .inr ⟨by omega, by omega⟩, _, _, rfl, rfl, ?_⟩
      refine ⟨_, rfl, _, rfl, _, _, rfl, rfl, _, rfl, _, _, rfl, rfl, D1, _, _, kk - 1 + i, rfl, rfl, eMT, by rw [ei, List.length_map]; exact ix_nat iN, ?_⟩
      rw [← List.map_set]
      dsimp only
      refine ⟨same_at sT nD1, M.set (kk - 1 + i) (M.getD (kk - 1 + i) 0 + pl * cN ks i), _, _, upd_same, by rw [List.length_set]; exact lM, fun j => ?_, rfl⟩
      rw [getD_set, gM, gM]
      by_cases z : kk - 1 + i = j
      · subst z
        rw [if_pos ⟨rfl, iN⟩, if_neg (show ¬ (kk ≤ kk - 1 + i + 1 ∧ kk - 1 + i + 1 < kk + i) by omega), if_pos (show kk ≤ kk - 1 + i + 1 ∧ kk - 1 + i + 1 < kk + (i + 1) by omega), show kk - 1 + i + 1 - kk = i by omega]
        omega
      · rw [if_neg (fun y => z y.1)]
        by_cases y : kk ≤ j + 1 ∧ j + 1 < kk + i
        · rw [if_pos y, if_pos (show kk ≤ j + 1 ∧ j + 1 < kk + (i + 1) by omega)]
        · rw [if_neg y, if_neg (show ¬ (kk ≤ j + 1 ∧ j + 1 < kk + (i + 1)) by omega)]
    · rintro σ H7 ⟨s7, M, v8, v10, eM, lM, gM, rfl⟩
      rw [List.length_map, Kn.cnt_len] at gM
      have gC : ∀ j, M.getD j 0 = chF ks ns st j := fun j => by
        rw [gM, hch]
        unfold shC
        by_cases z : kk ≤ j + 1
        · rw [if_pos z]
          by_cases y : j + 1 < kk + (m + 1)
          · rw [if_pos (show kk ≤ j + 1 ∧ j + 1 < kk + (m + 1) from ⟨z, y⟩)]
          · rw [if_neg (show ¬ (kk ≤ j + 1 ∧ j + 1 < kk + (m + 1)) from fun x => y x.2), hM.out (by omega), Int.mul_zero]
        · rw [if_neg z, if_neg (show ¬ (kk ≤ j + 1 ∧ j + 1 < kk + (m + 1)) from fun x => z x.1), Int.mul_zero]
      have pM : ∀ n ∈ M, 0 ≤ n := fun n hn => by
        obtain ⟨j, hj, rfl⟩ := List.getElem_of_mem hn
        have h1 := chF_pos hM gpos hS j
        rw [← gC, List.getD_eq_getElem?_getD, List.getElem?_eq_getElem hj] at h1
        exact h1
      refine ⟨_, rfl, D1, M, rfl, .inl eM, by omega, pM, by have := trimN_len M; omega, fun x H8 s8 nx ax => ?_⟩
      exact q x M H8 ((s03.trans s7).trans s8) ax gC
theorem ok_layout_behind {d : LayD} {f f1 f2 : Addr} {fd fd1 fd2 : FuncData} {k : Nat} (F : Fun K "layout_behind" "layout_behind" s_layout_behind f fd)
    (F_is_step : Fun K "is_step" "is_step" s_is_step f1 fd1) (b_is_step : Binds K fd1 ["kind", "layout", "thing"] []) (g_is_step : mg "is_step" = some (.ref f1)) (G_is_step : FnOk P w K mg base CX0 3 f1 fd1 ["kind", "layout", "thing"] (spIsStep d.lay))
    (F_changed : Fun K "changed" "changed" s_changed f2 fd2) (b_changed : Binds K fd2 ["kind", "layout", "step"] []) (g_changed : mg "changed" = some (.ref f2)) (G_changed : FnOk P w K mg base CX0 5 f2 fd2 ["kind", "layout", "step"] (spChanged d.lay)) : FnOk P w K mg base CX0 (k + 6) f fd ["kind", "layout", "step"] (spChanged d.lay) := by
  refine F.ok sc_layout_behind (fun vs H Q E h => ?_) (fun cdv A outer s H vs Q E hr h => ?_)
  · obtain ⟨a, o, v, st, ks, m, ns, rfl, _⟩ := h
    rfl
  · obtain ⟨a, o, v, st, ks, m, ns, rfl, hk, hM, lo, hT, l20, hs, hf, k20, hS, q⟩ := h
    refine ⟨_, (pss_cons (ps_if (pt_not (pt_val (pe_call G_is_step (hr.mono (by omega)) (by rfl) g_is_step F_is_step.kp b_is_step .nil pass0 (pa_cons (pv 0) (pa_cons (pv 1) (pa_cons (pv 2) pa_nil))))))
   (pss_one ps_dead)
   pss_nil)
  (pss_one (ps_ret (pe_call G_changed (hr.mono (by omega)) (by rfl) g_changed F_changed.kp b_changed .nil pass0 (pa_cons (pv 0) (pa_cons (pv 1) (pa_cons (pv 2) pa_nil))))))), ?_⟩
    clear G_is_step G_changed
    refine ⟨_, rfl, _, rfl, _, rfl, ⟨a, o, v, st, ks, m, ns, rfl, hk, hM, lo, hs, hf, fun H1 s1 => ?_⟩⟩
    rw [decide_eq_true hS]
    refine ⟨_, rfl, iteF ?_⟩
    exact ⟨_, rfl, _, rfl, _, rfl, ⟨a, o, v, st, ks, m, ns, rfl, hk.same s1, hM, lo.same s1, hT, l20, hs.same s1, hf, k20, hS, fun x M H2 s2 ax gM => q x M H2 (s1.trans s2) ax gM⟩⟩
end
end My

namespace My
open PySem PySem.Spec PyProof.Rows L2
open Kn (KindAt Prs Most)
abbrev s_law_counts : Stmt := topS 40
theorem sc_law_counts : FnScope ["factors"] ["factors"] (defScope s_law_counts) := ⟨rfl, rfl, rfl, by decide +kernel, rfl, by decide +kernel, by decide +kernel⟩
abbrev s_law_is_form : Stmt := topS 41
theorem sc_law_is_form : FnScope ["step", "one"] ["step"] (defScope s_law_is_form) := ⟨rfl, rfl, rfl, by decide +kernel, rfl, by decide +kernel, by decide +kernel⟩
theorem i_oc_open : inV (V.str (Str.ofString "open")) [V.str (Str.ofString "open"), V.str (Str.ofString "close")] = true := by decide +kernel
theorem i_mt_open : inV (V.str (Str.ofString "open")) [V.str (Str.ofString "move"), V.str (Str.ofString "turn")] = false := by decide +kernel
theorem i_oc_close : inV (V.str (Str.ofString "close")) [V.str (Str.ofString "open"), V.str (Str.ofString "close")] = true := by decide +kernel
theorem i_mt_close : inV (V.str (Str.ofString "close")) [V.str (Str.ofString "move"), V.str (Str.ofString "turn")] = false := by decide +kernel
theorem i_oc_move : inV (V.str (Str.ofString "move")) [V.str (Str.ofString "open"), V.str (Str.ofString "close")] = false := by decide +kernel
theorem i_mt_move : inV (V.str (Str.ofString "move")) [V.str (Str.ofString "move"), V.str (Str.ofString "turn")] = true := by decide +kernel
theorem i_oc_turn : inV (V.str (Str.ofString "turn")) [V.str (Str.ofString "open"), V.str (Str.ofString "close")] = false := by decide +kernel
theorem i_mt_turn : inV (V.str (Str.ofString "turn")) [V.str (Str.ofString "move"), V.str (Str.ofString "turn")] = true := by decide +kernel
/-- 45 numbers -/
def cts (fs : List Int) : List Int := (fs ++ List.replicate 45 0).take 45
theorem cts_len (fs : List Int) : (cts fs).length = 45 := by
  unfold cts
  rw [List.length_take, List.length_append, List.length_replicate]
  omega
theorem cts_get {fs : List Int} (h : fs.length ≤ 45) (j : Nat) : (cts fs).getD j 0 = fs.getD j 0 := by
  unfold cts
  rw [List.getD_eq_getElem?_getD, List.getElem?_take, List.getD_eq_getElem?_getD]
  by_cases z : j < fs.length
  · rw [if_pos (by omega), List.getElem?_append_left z]
  · rw [List.getElem?_eq_none (l := fs) (by omega)]
    split
    · rw [List.getElem?_append_right (by omega), List.getElem?_replicate]
      split <;> rfl
    · rfl
theorem call_isiQ {X : Cx} {K : PySem.W.Frag} (hK : X.K = K) : CallR X (.builtin "isinstance") (rIsi K) := by
  subst hK
  exact call_isi
structure TxtU (mg : Str → Option Value) : Prop where
  n_isinstance : mg "isinstance" = none
  n_tuple : mg "tuple" = none
  n_len : mg "len" = none
  n_str : mg "str" = none
  n_int : mg "int" = none
  n_bool : mg "bool" = none
  n_list : mg "list" = none
  n_min : mg "min" = none
  n_max : mg "max" = none
  n_enumerate : mg "enumerate" = none
  n_range : mg "range" = none
structure spCounts (vs : List V) (H : Hp) (Q : VK) (E : XK) : Prop where
  ex : ∃ (l : Addr) (fs : List Int), vs = [.ref l] ∧ H l = some (.lst (fs.map V.int)) ∧ fs.length ≤ 45 ∧ ∀ r H', Same H H' → H r = none → H' r = some (.lst ((cts fs).map V.int)) → Q (.ref r) H'
theorem len_or (s : Stp) : s.vs.length = 3 ∨ s.vs.length = 4 := by cases s <;> simp [Stp.vs, Stp.ns]
theorem len_in (s : Stp) : inV (V.int ((s.vs.length : Nat) : Int)) [V.int 3, V.int 4] = true := by
  rcases len_or s with e | e <;> rw [e] <;> decide +kernel
theorem bl_of {b c : Bool} (h : b = c) : V.bl b = V.bl c := by rw [h]
section
variable {P : Program} {w : World} {K : PySem.W.Frag} {mg : Str → Option Value} {base : Heap}
theorem ok_counts {f : Addr} {fd : FuncData} {k : Nat} (F : Fun K "_law_counts" "_law_counts" s_law_counts f fd) (T : TxtU mg) : FnOk P w K mg base CX0 (k + 1) f fd ["factors"] spCounts := by
  refine F.ok sc_law_counts (fun vs H Q E h => ?_) (fun cdv A outer s H vs Q E hr h => ?_)
  · obtain ⟨l, fs, rfl, _⟩ := h
    rfl
  · obtain ⟨l, fs, rfl, el, l45, q⟩ := h
    refine ⟨_, (pss_one (ps_ret (pe_slice sl_list (pe_op op_cat (pe_callTy call_list_of (by rfl) T.n_list (by decide +kernel) (pa_cons (pv 0) pa_nil)) (pe_op op_rep (pe_lst (pa_cons pe_int pa_nil)) pe_int)) po_none (po_some pe_int)))), ?_⟩
    refine ⟨_, rfl, l, _, rfl, .inl (.inl (.inl el)), fun c nc => ?_⟩
    have s1 := same_upd (o := .lst (fs.map V.int)) nc
    have e1 : (upd H c (.lst (fs.map V.int))) c = some (.lst (fs.map V.int)) := upd_same
    generalize upd H c (.lst (fs.map V.int)) = H1 at s1 e1 ⊢
    refine ⟨by show 1 ≤ sizeLine; decide, fun z nz => ⟨z, 45, _, rfl, rfl, upd_same, by decide, by decide, by show 1 * 45 ≤ sizeLine; decide, fun y ny => ?_⟩⟩
    have s2 := same_upd (o := .lst [V.int 0]) nz
    have s3 := same_upd (o := .lst (List.replicate (Int.toNat 45) [V.int 0]).flatten) ny
    have s23 := s2.trans s3
    refine ⟨c, y, _, _, rfl, rfl, s23 _ _ e1, upd_same, Nat.le_of_lt (small1000 (by rw [List.length_map]; show fs.length + 45 ≤ 1000; omega)), fun p np => ?_⟩
    have s4 := same_upd (o := .lst (fs.map V.int ++ (List.replicate (Int.toNat 45) [V.int 0]).flatten)) np
    refine ⟨_, rfl, p, _, rfl, .inl (.inl upd_same), fun r nr => ?_⟩
    have s5 := same_upd (o := .lst (cutV (fs.map V.int ++ (List.replicate (Int.toNat 45) [V.int 0]).flatten) none (some 45))) nr
    refine q r _ (((s1.trans s23).trans s4).trans s5) (((s1.trans s23).trans s4).free nr) ?_
    rw [upd_same, show (45 : Int) = ((45 : Nat) : Int) from rfl, cutV_take]
    unfold cts
    rw [List.map_take, List.map_append, List.map_replicate]
    rfl
theorem ok_is_form {f : Addr} {fd : FuncData} {k : Nat} (F : Fun K "_law_is_form" "_law_is_form" s_law_is_form f fd) (T : TxtU mg) : FnOk P w K mg base CX0 (k + 1) f fd ["step"] spHasForm := by
  refine F.ok sc_law_is_form (fun vs H Q E h => ?_) (fun cdv A outer s H vs Q E hr h => ?_)
  · obtain ⟨v, st, rfl, _⟩ := h
    rfl
  · obtain ⟨v, st, rfl, ⟨r, rfl, er⟩, q⟩ := h
    refine ⟨_, (pss_cons (ps_if (PW.pt (pw_or (pt_not (pt_val (pe_callB call_isi (by rfl) T.n_isinstance (by decide +kernel) (pa_cons (pv 0) (pa_cons (pe_bltn (v := .ty "tuple") (by rfl) T.n_tuple (by decide +kernel) rfl) pa_nil))))) (pw_or (pt_cmpR op_notIn_seq (pe_callB call_len_seq (by rfl) T.n_len (by decide +kernel) (pa_cons (pv 0) pa_nil)) (pe_tup (pa_cons pe_int (pa_cons pe_int pa_nil))) rfl) (pw_or1 (pt_not (pt_val (pe_callB call_isi (by rfl) T.n_isinstance (by decide +kernel) (pa_cons (pe_ix ix_tup (pv 0) pe_int (fun _ _ => rfl)) (pa_cons (pe_bltn (v := .ty "str") (by rfl) T.n_str (by decide +kernel) rfl) pa_nil)))))))))
   (pss_one (ps_ret pe_bl))
   pss_nil)
  (pss_cons (ps_if (pt_cmpR (op_neD hr.units) (pe_lc (own := [("one", 1)]) (g := gName 1) rfl sc_law_is_form.nd (pi_tup (pe_slice sl_X (pv 0) (po_some pe_int) po_none)) (blkOk_by (own := [("one", 1)]) (N := ["step", "one"]) (sc := defScope s_law_is_form) (by decide +kernel)) (fun _ _ _ _ _ => (pg_name (i := 1) sc_law_is_form.nd rfl (.inl rfl))) (fun _ _ _ _ _ => (pts_one (PW.pt (pw_or (pt_not (pt_val (pe_callB (call_isiQ (K := K) rfl) (by rfl) T.n_isinstance (by decide +kernel) (pa_cons (pv 1) (pa_cons (pe_bltn (v := .ty "int") (by rfl) T.n_int (by decide +kernel) rfl) pa_nil))))) (pw_or (pt_val (pe_callB (call_isiQ (K := K) rfl) (by rfl) T.n_isinstance (by decide +kernel) (pa_cons (pv 1) (pa_cons (pe_bltn (v := .ty "bool") (by rfl) T.n_bool (by decide +kernel) rfl) pa_nil)))) (pw_or1 (pt_cmpR op_lt (pv 1) pe_int (nomark _)))))))) (fun _ _ _ _ _ => (pv 1))) (pe_lst pa_nil) (nomark _))
   (pss_one (ps_ret pe_bl))
   pss_nil)
  (pss_one (ps_ret (pe_ifExp (pt_cmpR op_in_seq (pe_ix ix_tup (pv 0) pe_int (fun _ _ => rfl)) (pe_tup (pa_cons pe_str (pa_cons pe_str pa_nil))) rfl) (pe_cmpR op_eq (pe_callB call_len_seq (by rfl) T.n_len (by decide +kernel) (pa_cons (pv 0) pa_nil)) pe_int (nomark _)) (pe_and (pe_cmpR op_eq (pe_callB call_len_seq (by rfl) T.n_len (by decide +kernel) (pa_cons (pv 0) pa_nil)) pe_int (nomark _)) (pe_one (pe_cmpR op_in_seq (pe_ix ix_tup (pv 0) pe_int (fun _ _ => rfl)) (pe_tup (pa_cons pe_str (pa_cons pe_str pa_nil))) rfl)))))))), ?_⟩
    refine ⟨_, rfl, _, _, _, _, true, rfl, .ty "tuple", rd_ty er, kit_ty (kit_tup (.tuple [])), _, rfl, iteF ?_⟩
    refine ⟨_, rfl, r, _, rfl, .inr (.inl er), by show 2 ≤ sizeLine; decide, fun t nt => ⟨t, _, rfl, .inr (.inl (.inl upd_same)), rfl, rfl, false, bl_of (show (!inV (V.int ((st.vs.length : Nat) : Int)) [V.int 3, V.int 4]) = false by rw [len_in]; rfl), iteF ?_⟩⟩
    have s1 := same_upd (o := .tup [V.int 3, V.int 4]) nt
    generalize upd H t (.tup [V.int 3, V.int 4]) = H1 at s1 ⊢
    have er1 := rd_same er s1
    refine ⟨_, rfl, r, _, _, .str st.word, rfl, rfl, .inl er1, atI_nat (j := 0) rfl, _, _, _, _, true, rfl, .ty "str", strV_ty _, kit_ty (kit_str (.str st.word)), _, rfl, iteF ?_⟩
    refine ⟨_, rfl, _, rfl, r, _, rfl, er1, fun t2 H2 s2 et => ?_⟩
    rw [show (1 : Int) = ((1 : Nat) : Int) from rfl, cutV_drop, show st.vs.drop 1 = st.ns.map intV from rfl] at et
    refine ⟨t2, rfl, ⟨_, .inl et⟩, fun D nD => ?_⟩
    refine lc_it (walk_tup (xs := st.ns.map intV)) (fun i H5 => Same H2 H5 ∧ H5 D = some (.lst [])) ⟨same_upd nD, upd_same⟩ (fun i H5 _ h => .inl (rd_same et h.1)) ?_ ?_
    · rintro i x H5 H6 hi ⟨s5, eD⟩ ⟨rfl, ex⟩
      rw [List.getElem?_map] at ex
      rw [List.length_map] at hi
      rw [List.getElem?_eq_getElem hi] at ex
      obtain rfl : intV st.ns[i] = x := Option.some.inj ex
      refine ⟨rfl, ?_⟩
      refine ⟨_, rfl, _, _, _, _, true, rfl, .ty "int", intV_ty _, kit_ty (kit_int (.int 0)), _, rfl, ?_⟩
      dsimp only
      refine iteF ?_
      refine ⟨_, rfl, _, _, _, _, false, rfl, .ty "bool", intV_ty _, kit_ty (kit_bool (.int 0)), _, rfl, iteF ?_⟩
      refine ⟨_, rfl, _, _, rfl, rfl, _, rfl, ?_⟩
      rw [decide_eq_false (show ¬ ((st.ns[i] : Nat) : Int) < 0 by omega)]
      dsimp only
      rw [if_neg Bool.false_ne_true]
      exact ⟨s5, eD⟩
    · rintro H5 ⟨s5, eD⟩
      refine ⟨by show 0 ≤ sizeLine; decide, fun z nz => ?_⟩
      have sz := same_upd (o := .lst []) nz
      refine ⟨.list [], .list [], .lst (.inl (.inl (sz _ _ eD))) .nil, .lst (.inl (.inl upd_same)) .nil, by decide +kernel, by decide +kernel, ?_⟩
      rw [show PyData.eqv (.list []) (.list []) = true by simp [PyData.eqv, PyData.eqvAll]]
      refine ⟨_, rfl, iteF ?_⟩
      have s6 := ((s1.trans s2).trans s5).trans sz
      generalize upd H5 z (.lst []) = H6 at s6 ⊢
      have er6 := rd_same er s6
      clear sz nz eD s5 s2 et er1 s1 nt nD
      refine ⟨_, rfl, r, _, _, .str st.word, rfl, rfl, .inl er6, atI_nat (j := 0) rfl, by show 2 ≤ sizeLine; decide, fun t3 n3 => ?_⟩
      have s7 := same_upd (o := .tup [V.str (Str.ofString "open"), V.str (Str.ofString "close")]) n3
      have s67 := s6.trans s7
      have er7 := rd_same er6 s7
      refine ⟨t3, _, rfl, .inr (.inl (.inl upd_same)), rfl, rfl, ?_⟩
      generalize upd H6 t3 (.tup [V.str (Str.ofString "open"), V.str (Str.ofString "close")]) = H7 at s67 er7 ⊢
      clear s7 n3 er6 s6
      cases st with
      | op kk n =>
        refine ⟨true, bl_of i_oc_open, iteT ?_⟩
        refine ⟨_, rfl, r, _, rfl, .inr (.inl er7), rfl, ?_⟩
        rw [eqI, decide_eq_true (show (((Stp.op kk n).vs.length : Nat) : Int) = 3 from rfl)]
        exact q _ s67
      | cl kk n =>
        refine ⟨true, bl_of i_oc_close, iteT ?_⟩
        refine ⟨_, rfl, r, _, rfl, .inr (.inl er7), rfl, ?_⟩
        rw [eqI, decide_eq_true (show (((Stp.cl kk n).vs.length : Nat) : Int) = 3 from rfl)]
        exact q _ s67
      | mv kk aa n =>
        refine ⟨false, bl_of i_oc_move, iteF ?_⟩
        refine ⟨_, rfl, r, _, rfl, .inr (.inl er7), rfl, true, (eqI _ _).trans (bl_of (decide_eq_true rfl)), iteT ?_⟩
        refine ⟨_, rfl, r, _, _, .str (Str.ofString "move"), rfl, rfl, .inl er7, atI_nat (j := 0) rfl, by show 2 ≤ sizeLine; decide, fun t4 n4 => ⟨t4, _, rfl, .inr (.inl (.inl upd_same)), rfl, rfl, ?_⟩⟩
        show Q (V.bl (inV _ _)) _
        rw [i_mt_move]
        exact q _ (s67.trans (same_upd n4))
      | tu kk n j =>
        refine ⟨false, bl_of i_oc_turn, iteF ?_⟩
        refine ⟨_, rfl, r, _, rfl, .inr (.inl er7), rfl, true, (eqI _ _).trans (bl_of (decide_eq_true rfl)), iteT ?_⟩
        refine ⟨_, rfl, r, _, _, .str (Str.ofString "turn"), rfl, rfl, .inl er7, atI_nat (j := 0) rfl, by show 2 ≤ sizeLine; decide, fun t4 n4 => ⟨t4, _, rfl, .inr (.inl (.inl upd_same)), rfl, rfl, ?_⟩⟩
        show Q (V.bl (inV _ _)) _
        rw [i_mt_turn]
        exact q _ (s67.trans (same_upd n4))
end
end My

namespace My
open PySem PySem.Spec PyProof.Rows L2
open Kn (KindAt Prs Most)
abbrev s_law_behind : Stmt := topS 42
theorem sc_law_behind : FnScope ["kind", "counts", "step", "k", "some", "n", "is_right", "sign", "tag", "parts", "one"] ["kind", "counts", "step"] (defScope s_law_behind) := ⟨rfl, rfl, rfl, by decide +kernel, rfl, by decide +kernel, by decide +kernel⟩
def Stp.n : Stp → Nat
  | .op _ n => n
  | .cl _ n => n
  | .mv _ _ n => n
  | .tu _ n _ => n
theorem vs1 (s : Stp) : s.vs[1]? = some (intV s.k) := by cases s <;> rfl
theorem n_few {s : Stp} (h : s.few) : s.n ≤ 1000000000 := by cases s <;> exact h _ (by simp [Stp.ns, Stp.n])
/-- so far counted -/
def cT (ks : List (Str × Int)) (i p : Nat) : Int := cN (ks.take i) p
theorem cT_next {ks : List (Str × Int)} {i : Nat} {q : Str × Int} (e : ks[i]? = some q) (p : Nat) : cT ks (i + 1) p = cT ks i p + if q.2 = ((p : Nat) : Int) then 1 else 0 := by
  unfold cT cN
  rw [List.take_add_one, e, List.map_append, List.count_append]
  show (((_ : Nat) + (List.count ((p : Nat) : Int) [q.2] : Nat) : Nat) : Int) = _
  rw [List.count_singleton]
  by_cases z : q.2 = ((p : Nat) : Int)
  · rw [if_pos z, z]
    simp
  · rw [if_neg z]
    have : (q.2 == ((p : Nat) : Int)) = false := by simpa using z
    rw [this]
    simp
structure spBehind (vs : List V) (H : Hp) (Q : VK) (E : XK) : Prop where
  ex : ∃ (a l : Addr) (v : V) (s : Stp) (ks : List (Str × Int)) (m : Nat) (fs : List Int), vs = [.ref a, .ref l, v] ∧ KindAt H a ks ∧ KdOk ks m ∧ H l = some (.lst (fs.map V.int)) ∧ fs.length = 45 ∧ (∀ j, 0 ≤ fs.getD j 0) ∧ (∀ j, 41 ≤ j → fs.getD j 0 = 0) ∧ StepAt H v s ∧ s.few ∧ s.k ≤ 20 ∧
    (¬ isS ks fs s → ∀ H', Same H H' → Q .non H') ∧ (isS ks fs s → ∀ (r : Addr) (M : List Int) (H' : Hp), Same H H' → H r = none → H' r = some (.lst (M.map V.int)) → M.length = 45 → (∀ j, M.getD j 0 = chF ks fs s j) → Q (.ref r) H')
theorem cl_le {ks : List (Str × Int)} {m : Nat} (hM : KdOk ks m) {ns : List Int} (h : ∀ j, 0 ≤ ns.getD j 0) {k n : Nat} (hs : isS ks ns (.cl k n)) (j : Nat) : (n : Int) * shC ks k j ≤ ns.getD j 0 := by
  obtain ⟨h1, _, h3⟩ := hs
  unfold shC
  by_cases z : k ≤ j + 1
  · rw [if_pos z]
    by_cases y : j + 1 - k < 5
    · have := h3 _ y
      rw [show k - 1 + (j + 1 - k) = j by omega] at this
      exact this
    · rw [hM.out (by have := hM.m4; omega), Int.mul_zero]
      exact h j
  · rw [if_neg z, Int.mul_zero]
    exact h j
theorem zero_tail {K : PySem.W.Frag} {o0 o1 o2 o3 o5 o6 o7 o8 o9 o10 : Option V} {H : Hp} {S : Addr} {M : List Int} {R : Bool → Hp → Prop} (eS : H S = some (.lst (M.map V.int))) (z : ∀ j, 41 ≤ j → M.getD j 0 = 0) (q : ∀ H', Same H H' → R false H') :
    tTest (tOp (rNeD K) (tLc (iList K (tSl (rSlL K) (tVar 4) (tPart (tC (V.int 41))) tNoPart)) (gName 10) (tTest (tOp rNe (tVar 10) (tC (V.int 0)))) (tVar 10) [10]) (tLst tNil)) [o0, o1, o2, o3, some (.ref S), o5, o6, o7, o8, o9, o10] H R := by
  refine ⟨_, rfl, _, rfl, S, _, rfl, .inl (.inl eS), fun c nc => ?_⟩
  have s1 := same_upd (o := .lst (cutV (M.map V.int) (some 41) none)) nc
  have e1 : (upd H c (.lst (cutV (M.map V.int) (some 41) none))) c = some (.lst (cutV (M.map V.int) (some 41) none)) := upd_same
  generalize upd H c (.lst (cutV (M.map V.int) (some 41) none)) = H1 at s1 e1 ⊢
  rw [show (41 : Int) = ((41 : Nat) : Int) from rfl, cutV_drop] at e1
  refine ⟨c, rfl, ⟨_, .inl (.inl e1)⟩, fun D nD => ?_⟩
  refine lc_it (walk_list (xs := (M.map V.int).drop 41)) (fun i H5 => Same H1 H5 ∧ H5 D = some (.lst [])) ⟨same_upd nD, upd_same⟩ (fun i H5 _ h => .inl (.inl (h.1 _ _ e1))) ?_ ?_
  · rintro i x H5 H6 hi ⟨s5, eD⟩ ⟨rfl, ex⟩
    rw [List.getElem?_drop, List.getElem?_map] at ex
    have zi := z (41 + i) (by omega)
    rw [List.getD_eq_getElem?_getD] at zi
    cases hm : M[41 + i]? with
    | none =>
      rw [hm] at ex
      cases ex
    | some v =>
      rw [hm] at ex zi
      obtain rfl : V.int v = x := Option.some.inj ex
      obtain rfl : v = 0 := zi
      refine ⟨rfl, ?_⟩
      refine ⟨_, rfl, rfl, _, bl_int, ?_⟩
      rw [decide_eq_true rfl]
      dsimp only
      rw [if_neg (by decide)]
      exact ⟨s5, eD⟩
  · rintro H5 ⟨s5, eD⟩
    refine ⟨by show 0 ≤ sizeLine; decide, fun y ny => ?_⟩
    have sz := same_upd (o := .lst []) ny
    refine ⟨.list [], .list [], .lst (.inl (.inl (sz _ _ eD))) .nil, .lst (.inl (.inl upd_same)) .nil, by decide +kernel, by decide +kernel, ?_⟩
    rw [show PyData.eqv (.list []) (.list []) = true by simp [PyData.eqv, PyData.eqvAll]]
    exact ⟨_, rfl, q _ ((s1.trans s5).trans sz)⟩
section
variable {P : Program} {w : World} {K : PySem.W.Frag} {mg : Str → Option Value} {base : Heap}
theorem ok_behind {f f1 : Addr} {fd fd1 : FuncData} {k : Nat} (F : Fun K "_law_behind" "_law_behind" s_law_behind f fd) (T : TxtU mg) (F__law_is_form : Fun K "_law_is_form" "_law_is_form" s_law_is_form f1 fd1) (b__law_is_form : Binds K fd1 ["step"] []) (g__law_is_form : mg "_law_is_form" = some (.ref f1)) (G__law_is_form : FnOk P w K mg base CX0 1 f1 fd1 ["step"] spHasForm) :
    FnOk P w K mg base CX0 (k + 2) f fd ["kind", "counts", "step"] spBehind := by
  refine F.ok sc_law_behind (fun vs H Q E h => ?_) (fun cdv A outer s H vs Q E hr h => ?_)
  · obtain ⟨a, l, v, st, ks, m, fs, rfl, _⟩ := h
    rfl
  · obtain ⟨a, l, v, st, ks, m, fs, rfl, hk, hM, el, l45, fpos, f41, hs, hf, k20, qn, qs⟩ := h
    refine ⟨_, (pss_cons (ps_if (PW.pt (pw_or (pt_not (pt_val (pe_call G__law_is_form (hr.mono (by omega)) (by rfl) g__law_is_form F__law_is_form.kp b__law_is_form .nil pass0 (pa_cons (pv 2) pa_nil)))) (pw_or1 (pt_cmpR op_gt (pe_ix ix_tup (pv 2) pe_int (fun _ _ => rfl)) pe_int (nomark _)))))
   (pss_one (ps_ret pe_non))
   pss_nil)
  (pss_cons (ps_par (i := 3) (j := 4) (by rfl) sc_law_behind.nd rfl rfl (by decide) rfl rfl (pa_cons (pe_ix ix_tup (pv 2) pe_int (fun _ _ => rfl)) (pa_cons (pe_callTy call_list_of (by rfl) T.n_list (by decide +kernel) (pa_cons (pv 1) pa_nil)) pa_nil)) (by rfl))
  (C8.pss_cut (ps_set (i := 5) sc_law_behind.nd rfl (.inl rfl) (pe_ifExp (pt_cmpR op_eq (pe_ix ix_tup (pv 2) pe_int (fun _ _ => rfl)) pe_str (nomark _)) (pe_ix ix_tup (pv 2) pe_int (fun _ _ => rfl)) (pe_ix ix_tup (pv 2) pe_int (fun _ _ => rfl))))
  (C8.pss_cut (ps_if (pt_cmpR op_in_seq (pe_ix ix_tup (pv 2) pe_int (fun _ _ => rfl)) (pe_tup (pa_cons pe_str (pa_cons pe_str pa_nil))) rfl)
   (pss_cons (ps_set (i := 6) sc_law_behind.nd rfl (.inl rfl) (pe_ifExp (pt_cmpR op_eq (pe_ix ix_tup (pv 2) pe_int (fun _ _ => rfl)) pe_str (nomark _)) (pe_cmpR op_le (pe_op op_add (pe_ix ix_tup (pv 2) pe_int (fun _ _ => rfl)) (pv 5)) (pe_ix ix_list (pv 1) (pv 3) (fun _ _ => rfl)) (nomark _)) (pe_and (pe_cmpR op_le (pv 5) (pe_ix ix_list (pv 1) (pv 3) (fun _ _ => rfl)) (nomark _)) (pe_one (pe_chain op_le op_le pe_int (pe_ix ix_tup (pv 2) pe_int (fun _ _ => rfl)) (pv 3))))))
  (pss_one (ps_ret (pe_ifExp (PW.pt (pw_and (pt_val (pv 6)) (pw_and1 (pt_cmpR op_gt (pv 5) pe_int (nomark _))))) (pv 4) pe_non))))
   pss_nil)
  (C8.pss_cut (ps_set (i := 7) sc_law_behind.nd rfl (.inl rfl) (pe_ifExp (pt_cmpR op_eq (pe_ix ix_tup (pv 2) pe_int (fun _ _ => rfl)) pe_str (nomark _)) pe_int (pe_op op_sub pe_int pe_int)))
  (C8.pss_cut (ps_if (PW.pt (pw_or (pt_cmpR op_lt (pv 5) pe_int (nomark _)) (pw_or1 (pt_cmpR op_lt (pv 3) pe_int (nomark _)))))
   (pss_one (ps_ret pe_non))
   pss_nil)
  (pss_cons (ps_for PassesOwn.never rfl (pi_tup (pv 0)) (pg_tup rfl (pgs_cons (pg_name (i := 8) sc_law_behind.nd rfl (.inl rfl)) (pgs_cons (pg_name (i := 9) sc_law_behind.nd rfl (.inl rfl)) pgs_nil)))
   (pss_one (ps_asg (pe_op op_add (pe_ix ix_list (pv 4) (pe_op op_add (pe_op op_sub (pv 3) pe_int) (pv 9)) (fun _ _ => rfl)) (pe_op op_mul (pv 7) (pv 5))) (pg_sub (pv 4) (pe_op op_add (pe_op op_sub (pv 3) pe_int) (pv 9)) set_list))))
  (C8.pss_cut (ps_if (PW.pt (pw_and (pt_cmpR op_eq (pe_ix ix_tup (pv 2) pe_int (fun _ _ => rfl)) pe_str (nomark _)) (pw_and1 (pt_cmpR op_lt (pe_callB (cr_min (by rfl)) (by rfl) T.n_min (by decide +kernel) (pa_cons (pv 4) pa_nil)) pe_int (nomark _)))))
   (pss_one (ps_ret pe_non))
   pss_nil)
  (pss_cons (ps_asg (pe_op op_sub (pe_ix ix_list (pv 4) (pv 3) (fun _ _ => rfl)) (pe_op op_mul (pv 7) (pv 5))) (pg_sub (pv 4) (pv 3) set_list))
  (pss_cons (ps_if (PW.pt (pw_or (PW.pt (pw_and (pt_cmpR op_eq (pe_ix ix_tup (pv 2) pe_int (fun _ _ => rfl)) pe_str (nomark _)) (pw_and1 (pt_cmpR op_lt (pe_ix ix_list (pv 1) (pv 3) (fun _ _ => rfl)) (pv 5) (nomark _))))) (pw_or1 (pt_cmpR (op_neD hr.units) (pe_lc (own := [("one", 10)]) (g := gName 10) rfl sc_law_behind.nd (pi_list (pe_slice sl_list (pv 4) (po_some pe_int) po_none)) (blkOk_by (own := [("one", 10)]) (N := ["kind", "counts", "step", "k", "some", "n", "is_right", "sign", "tag", "parts", "one"]) (sc := defScope s_law_behind) (by decide +kernel)) (fun _ _ _ _ _ => (pg_name (i := 10) sc_law_behind.nd rfl (.inl rfl))) (fun _ _ _ _ _ => (pts_one (pt_cmpR op_ne (pv 10) pe_int (nomark _)))) (fun _ _ _ _ _ => (pv 10))) (pe_lst pa_nil) (nomark _)))))
   (pss_one (ps_ret pe_non))
   pss_nil)
  (pss_one (ps_ret (pv 4))))))))))))), ?_⟩
    clear G__law_is_form
    refine ⟨_, rfl, ⟨v, st, rfl, hs, fun H1 s1 => ⟨_, rfl, iteF ?_⟩⟩⟩
    obtain ⟨r, rfl, er⟩ := hs
    have er1 := rd_same er s1
    refine ⟨_, rfl, r, _, _, intV st.k, rfl, rfl, .inl er1, atI_nat (j := 1) (vs1 st), _, _, rfl, rfl, _, rfl, ?_⟩
    rw [decide_eq_false (show ¬ ((st.k : Nat) : Int) > 40 by omega)]
    refine iteF ?_
    refine ⟨_, rfl, r, _, _, intV st.k, rfl, rfl, .inl er1, atI_nat (j := 1) (vs1 st), _, rfl, l, _, rfl, .inl (.inl (.inl (s1 _ _ el))), fun S nS => ⟨_, _, rfl, ?_⟩⟩
    have sS := same_upd (o := .lst (fs.map V.int)) nS
    have s2 := s1.trans sS
    have eS : (upd H1 S (.lst (fs.map V.int))) S = some (.lst (fs.map V.int)) := upd_same
    have nSH := s1.free nS
    generalize upd H1 S (.lst (fs.map V.int)) = H2 at sS s2 eS ⊢
    -- n
    refine ⟨fun σ' H' => H' = H2 ∧ σ' = [some (.ref a), some (.ref l), some (.ref r), some (intV st.k), some (.ref S), some (intV st.n), none, none, none, none, none], ?_, ?_⟩
    · have er2 := rd_same er s2
      cases st with
      | op kk n => exact ⟨_, rfl, r, _, _, .str (Str.ofString "open"), rfl, rfl, .inl er2, atI_nat (j := 0) rfl, rfl, false, eq_no w_open_move, iteF ⟨_, rfl, r, _, _, intV n, rfl, rfl, .inl er2, atI_nat (j := 2) rfl, rfl, rfl⟩⟩
      | cl kk n => exact ⟨_, rfl, r, _, _, .str (Str.ofString "close"), rfl, rfl, .inl er2, atI_nat (j := 0) rfl, rfl, false, eq_no w_close_move, iteF ⟨_, rfl, r, _, _, intV n, rfl, rfl, .inl er2, atI_nat (j := 2) rfl, rfl, rfl⟩⟩
      | mv kk aa n => exact ⟨_, rfl, r, _, _, .str (Str.ofString "move"), rfl, rfl, .inl er2, atI_nat (j := 0) rfl, rfl, true, eq_yes w_move_move, iteT ⟨_, rfl, r, _, _, intV n, rfl, rfl, .inl er2, atI_nat (j := 3) rfl, rfl, rfl⟩⟩
      | tu kk n j => exact ⟨_, rfl, r, _, _, .str (Str.ofString "turn"), rfl, rfl, .inl er2, atI_nat (j := 0) rfl, rfl, false, eq_no w_turn_move, iteF ⟨_, rfl, r, _, _, intV n, rfl, rfl, .inl er2, atI_nat (j := 2) rfl, rfl, rfl⟩⟩
    rintro σ1 H3 ⟨rfl, rfl⟩
    -- move, turn
    refine ⟨fun σ' H' => Same H H' ∧ Same H3 H' ∧ σ' = [some (.ref a), some (.ref l), some (.ref r), some (intV st.k), some (.ref S), some (intV st.n), none, none, none, none, none] ∧ ((∃ n, st = .op st.k n) ∨ (∃ n, st = .cl st.k n)), ?_, ?_⟩
    · have er2 := rd_same er s2
      have el2 := s2 _ _ el
      refine ⟨_, rfl, r, _, _, .str st.word, rfl, rfl, .inl er2, atI_nat (j := 0) rfl, by show 2 ≤ sizeLine; decide, fun t nt => ⟨t, _, rfl, .inr (.inl (.inl upd_same)), rfl, rfl, ?_⟩⟩
      have st2 := same_upd (o := .tup [V.str (Str.ofString "move"), V.str (Str.ofString "turn")]) nt
      have s4 := s2.trans st2
      have er4 := rd_same er2 st2
      have el4 := st2 _ _ el2
      have eS4 := st2 _ _ eS
      generalize upd H3 t (.tup [V.str (Str.ofString "move"), V.str (Str.ofString "turn")]) = H4 at st2 s4 er4 el4 eS4 ⊢
      cases st with
      | op kk n => exact ⟨false, bl_of i_mt_open, iteF ⟨s4, st2, rfl, .inl ⟨n, rfl⟩⟩⟩
      | cl kk n => exact ⟨false, bl_of i_mt_close, iteF ⟨s4, st2, rfl, .inr ⟨n, rfl⟩⟩⟩
      | mv kk aa n =>
        refine ⟨true, bl_of i_mt_move, iteT ?_⟩
        have kl : kk < fs.length := by
          have : kk ≤ 20 := k20
          omega
        refine ⟨_, rfl, r, _, _, .str (Str.ofString "move"), rfl, rfl, .inl er4, atI_nat (j := 0) rfl, rfl, true, eq_yes w_move_move, iteT ?_⟩
        refine ⟨_, rfl, r, _, _, intV aa, rfl, rfl, .inl er4, atI_nat (j := 2) rfl, _, rfl, _, _, rfl, rfl, _, rfl, _, rfl, l, _, _, _, rfl, rfl, .inl (.inl el4), get_nat kl, _, _, rfl, rfl, ?_⟩
        have fin : ∀ b : Bool, (b = true ↔ ((aa : Nat) : Int) + ((n : Nat) : Int) ≤ fs.getD kk 0) → tIf (tAnd (tB (tVar 6)) (tTest (tOp (rI0 fun i j => V.bl (decide (j < i))) (tVar 5) (tC (V.int 0))))) (tVar 4) (tC V.non) [some (.ref a), some (.ref l), some (.ref r), some (intV kk), some (.ref S), some (intV n), some (.bl b), none, none, none, none] H4 Q := by
          intro b hb
          refine ⟨_, rfl, _, rfl, ?_⟩
          cases b with
          | false => exact iteF (iteF (qn (fun z => nomatch hb.mpr z.2) _ s4))
          | true =>
            refine iteT ?_
            have c1 := hb.mp rfl
            refine ⟨_, rfl, _, _, rfl, rfl, _, rfl, ?_⟩
            by_cases n1 : ((n : Nat) : Int) > 0
            · rw [decide_eq_true n1]
              refine iteT ⟨_, rfl, ?_⟩
              exact qs ⟨by omega, c1⟩ S fs H4 s4 nSH eS4 l45 fun j => rfl
            · rw [decide_eq_false n1]
              exact iteF (qn (fun z => n1 (by have := z.1; omega)) _ s4)
        exact fin _ decide_eq_true_iff
      | tu kk n j =>
        refine ⟨true, bl_of i_mt_turn, iteT ?_⟩
        have kl : kk < fs.length := by
          have : kk ≤ 20 := k20
          omega
        refine ⟨_, rfl, r, _, _, .str (Str.ofString "turn"), rfl, rfl, .inl er4, atI_nat (j := 0) rfl, rfl, false, eq_no w_turn_move, iteF ?_⟩
        have fin : ∀ b : Bool, (b = true ↔ ((n : Nat) : Int) ≤ fs.getD kk 0 ∧ 2 ≤ j ∧ j ≤ kk) → tIf (tAnd (tB (tVar 6)) (tTest (tOp (rI0 fun i j => V.bl (decide (j < i))) (tVar 5) (tC (V.int 0))))) (tVar 4) (tC V.non) [some (.ref a), some (.ref l), some (.ref r), some (intV kk), some (.ref S), some (intV n), some (.bl b), none, none, none, none] H4 Q := by
          intro b hb
          refine ⟨_, rfl, _, rfl, ?_⟩
          cases b with
          | false => exact iteF (iteF (qn (fun z => nomatch hb.mpr ⟨z.2.2.1, z.2.2.2⟩) _ s4))
          | true =>
            refine iteT ?_
            obtain ⟨c1, c2, c3⟩ := hb.mp rfl
            refine ⟨_, rfl, _, _, rfl, rfl, _, rfl, ?_⟩
            by_cases n1 : ((n : Nat) : Int) > 0
            · rw [decide_eq_true n1]
              refine iteT ⟨_, rfl, ?_⟩
              exact qs ⟨by omega, by omega, c1, c2, c3⟩ S fs H4 s4 nSH eS4 l45 fun j => rfl
            · rw [decide_eq_false n1]
              exact iteF (qn (fun z => n1 (by have := z.2.1; omega)) _ s4)
        refine ⟨_, rfl, _, rfl, _, rfl, l, _, _, _, rfl, rfl, .inl (.inl el4), get_nat kl, _, _, rfl, rfl, _, rfl, ?_⟩
        by_cases c : ((n : Nat) : Int) ≤ fs.getD kk 0
        · rw [show decide ((((Stp.tu kk n j).n : Nat) : Int) ≤ fs.getD (Stp.tu kk n j).k 0) = true from decide_eq_true c]
          refine iteT ?_
          refine ⟨_, rfl, r, _, _, intV j, rfl, rfl, .inl er4, atI_nat (j := 3) rfl, _, _, rfl, rfl, _, rfl, ?_⟩
          by_cases j2 : (2 : Int) ≤ ((j : Nat) : Int)
          · rw [decide_eq_true j2]
            refine iteT ?_
            refine ⟨_, rfl, _, _, rfl, rfl, ?_⟩
            exact fin _ (decide_eq_true_iff.trans ⟨fun z => ⟨c, by omega, by have z : ((j : Nat) : Int) ≤ ((kk : Nat) : Int) := z; omega⟩, fun z => by have := z.2.2; show ((j : Nat) : Int) ≤ ((kk : Nat) : Int); omega⟩)
          · rw [decide_eq_false j2]
            exact iteF (fin false ⟨(fun z => nomatch z), fun z => absurd z.2.1 (by omega)⟩)
        · rw [show decide ((((Stp.tu kk n j).n : Nat) : Int) ≤ fs.getD (Stp.tu kk n j).k 0) = false from decide_eq_false c]
          exact iteF (fin false ⟨(fun z => nomatch z), fun z => absurd z.1 c⟩)
    rintro σ1 H5 ⟨s05, s35, rfl, hw⟩
    have eS5 := s35 _ _ eS
    have er5 := rd_same er s05
    have el5 := s05 _ _ el
    -- the sign
    refine ⟨fun σ' H' => H' = H5 ∧ ∃ sg : Int, σ' = [some (.ref a), some (.ref l), some (.ref r), some (intV st.k), some (.ref S), some (intV st.n), none, some (.int sg), none, none, none] ∧ ((st = .op st.k st.n ∧ sg = 1) ∨ (st = .cl st.k st.n ∧ sg = -1)), ?_, ?_⟩
    · cases st with
      | op kk n => exact ⟨_, rfl, r, _, _, .str (Str.ofString "open"), rfl, rfl, .inl er5, atI_nat (j := 0) rfl, rfl, true, eq_yes w_open_open, iteT ⟨rfl, 1, rfl, .inl ⟨rfl, rfl⟩⟩⟩
      | cl kk n => exact ⟨_, rfl, r, _, _, .str (Str.ofString "close"), rfl, rfl, .inl er5, atI_nat (j := 0) rfl, rfl, false, eq_no w_close_open, iteF ⟨_, _, rfl, rfl, rfl, -1, rfl, .inr ⟨rfl, rfl⟩⟩⟩
      | mv kk aa n => rcases hw with ⟨_, z⟩ | ⟨_, z⟩ <;> cases z
      | tu kk n j => rcases hw with ⟨_, z⟩ | ⟨_, z⟩ <;> cases z
    rintro σ1 H6 ⟨rfl, sg, rfl, hw2⟩
    generalize hkk : st.k = kk at hw2 k20 ⊢
    generalize hnn : st.n = nn at hw2 ⊢
    have nn9 : nn ≤ 1000000000 := hnn ▸ n_few hf
    -- from 1 on
    refine ⟨fun σ' H' => H' = H6 ∧ 1 ≤ kk ∧ 1 ≤ nn ∧ σ' = [some (.ref a), some (.ref l), some (.ref r), some (intV kk), some (.ref S), some (intV nn), none, some (.int sg), none, none, none], ?_, ?_⟩
    · have no : ¬ (1 ≤ kk ∧ 1 ≤ nn) → ¬ isS ks fs st := fun z y => by
        rcases hw2 with ⟨e, _⟩ | ⟨e, _⟩ <;> rw [e] at y <;> exact z ⟨y.1, y.2.1⟩
      refine ⟨_, rfl, _, _, rfl, rfl, _, rfl, ?_⟩
      by_cases n1 : ((nn : Nat) : Int) < 1
      · rw [decide_eq_true n1]
        exact iteT (iteT (qn (no (by omega)) _ s05))
      rw [decide_eq_false n1]
      refine iteF ?_
      refine ⟨_, rfl, _, _, rfl, rfl, _, rfl, ?_⟩
      by_cases k1 : ((kk : Nat) : Int) < 1
      · rw [decide_eq_true k1]
        exact iteT (qn (no (by omega)) _ s05)
      rw [decide_eq_false k1]
      exact iteF ⟨rfl, by omega, by omega, rfl⟩
    rintro σ1 H7 ⟨rfl, k1, n1, rfl⟩
    obtain ⟨rs, ea, pr⟩ := hk
    have lr := pr.length
    have s35b := s35
    refine ⟨_, rfl, a, rfl, ⟨_, .inl (rd_same ea s05)⟩, ?_⟩
    refine for_it (walk_tup (xs := rs.map V.ref)) (fun i σ H8 => Same H H8 ∧ ∃ (M : List Int) (u8 u9 : Option V), H8 S = some (.lst (M.map V.int)) ∧ M.length = 45 ∧ (∀ j, M.getD j 0 = fs.getD j 0 + sg * nn * (if kk ≤ j + 1 then cT ks i (j + 1 - kk) else 0)) ∧ σ = [some (.ref a), some (.ref l), some (.ref r), some (intV kk), some (.ref S), some (intV nn), none, some (.int sg), u8, u9, none]) ⟨s05, fs, _, _, eS5, l45, fun j => ?_, rfl⟩ (fun i σ H8 _ h => .inl (rd_same ea h.1)) ?_ ?_
    · rw [show (if kk ≤ j + 1 then cT ks 0 (j + 1 - kk) else 0) = 0 by split <;> rfl, Int.mul_zero, Int.add_zero]
    · rintro i x σ H8 H9 hi ⟨s8, M, u8, u9, eM, lM, gM, rfl⟩ ⟨rfl, ex⟩
      obtain ⟨r2, pp, rfl, hpp, hr2⟩ := pr.item ex
      have pm : pp.2 ∈ ks.map (·.2) := List.mem_map.mpr ⟨pp, List.mem_of_getElem? hpp, rfl⟩
      obtain ⟨p0, p4⟩ := hM.most.2 _ pm
      have m4 := hM.m4
      obtain ⟨p, hp⟩ : ∃ p : Nat, pp.2 = (p : Int) := ⟨pp.2.toNat, by omega⟩
      refine ⟨r2, _, rfl, .inl (rd_same hr2 s8), rfl, _, _, rfl, _, _, rfl, rfl, ?_⟩
      rw [hp]
      have ei : ((kk : Nat) : Int) - 1 + ((p : Nat) : Int) = ((kk - 1 + p : Nat) : Int) := by omega
      have iN : kk - 1 + p < M.length := by omega
      have sg1 : sg = 1 ∨ sg = -1 := hw2.elim (fun z => .inl z.2) fun z => .inr z.2
      refine ⟨_, rfl, _, rfl, _, _, rfl, rfl, _, rfl, _, _, rfl, rfl, S, _, _, V.int (M.getD (kk - 1 + p) 0), rfl, rfl, .inl (.inl eM), by rw [ei]; exact get_nat iN, _, rfl, _, rfl, _, _, rfl, rfl, .inl ⟨by omega, by omega⟩, _, _, rfl, rfl, ?_⟩
      refine ⟨_, rfl, _, rfl, _, _, rfl, rfl, _, rfl, _, _, rfl, rfl, S, _, _, kk - 1 + p, rfl, rfl, eM, by rw [ei, List.length_map]; exact ix_nat iN, ?_⟩
      rw [← List.map_set]
      dsimp only
      refine ⟨same_at s8 nSH, M.set (kk - 1 + p) (M.getD (kk - 1 + p) 0 + sg * nn), _, _, upd_same, by rw [List.length_set]; exact lM, fun j => ?_, rfl⟩
      rw [getD_set, gM, gM]
      by_cases z : kk - 1 + p = j
      · subst z
        rw [if_pos ⟨rfl, iN⟩, if_pos (show kk ≤ kk - 1 + p + 1 by omega), if_pos (show kk ≤ kk - 1 + p + 1 by omega), cT_next hpp, show kk - 1 + p + 1 - kk = p by omega, if_pos hp, Int.mul_add, Int.mul_one]
        omega
      · rw [if_neg (fun y => z y.1)]
        by_cases y : kk ≤ j + 1
        · rw [if_pos y, if_pos y, cT_next hpp, if_neg (show ¬ pp.2 = ((j + 1 - kk : Nat) : Int) by omega), Int.add_zero]
        · rw [if_neg y, if_neg y]
    rintro σ H8 ⟨s8, M, u8, u9, eM, lM, gM, rfl⟩
    have gM : ∀ j, M.getD j 0 = fs.getD j 0 + sg * nn * shC ks kk j := fun j => by
      rw [gM, List.length_map, lr]
      unfold shC cT
      rw [List.take_length]
    have er8 := rd_same er s8
    have el8 := s8 _ _ el
    have m4 := hM.m4
    refine ⟨fun σ' H' => H' = H8 ∧ (sg = -1 → isS ks fs st) ∧ σ' = [some (.ref a), some (.ref l), some (.ref r), some (intV kk), some (.ref S), some (intV nn), none, some (.int sg), u8, u9, none], ?_, ?_⟩
    · rcases hw2 with ⟨e, esg⟩ | ⟨e, esg⟩
      · exact ⟨_, rfl, r, _, _, .str st.word, rfl, rfl, .inl er8, atI_nat (j := 0) rfl, rfl, false, eq_no (by rw [e]; exact w_open_close), iteF (iteF ⟨rfl, fun z => by omega, rfl⟩)⟩
      · refine ⟨_, rfl, r, _, _, .str st.word, rfl, rfl, .inl er8, atI_nat (j := 0) rfl, rfl, true, eq_yes (by rw [e]; exact w_close_close), iteT ?_⟩
        refine ⟨_, rfl, S, M, rfl, .inl (.inl eM), by omega, fun mn hm hle => ?_⟩
        refine ⟨_, _, rfl, rfl, _, rfl, ?_⟩
        by_cases neg : mn < 0
        · rw [decide_eq_true neg]
          refine iteT (qn (fun hS => ?_) _ s8)
          obtain ⟨j, hj, rfl⟩ := List.getElem_of_mem hm
          have h1 := gM j
          rw [List.getD_eq_getElem?_getD, List.getElem?_eq_getElem hj] at h1
          have h1 : M[j] = fs.getD j 0 + sg * nn * shC ks kk j := h1
          rw [e] at hS
          have h2 := cl_le hM fpos hS j
          rw [esg, Int.neg_mul, Int.one_mul, Int.neg_mul] at h1
          omega
        · rw [decide_eq_false neg]
          refine iteF ⟨rfl, fun _ => ?_, rfl⟩
          rw [e]
          refine ⟨k1, n1, fun p hp => ?_⟩
          have h1 := gM (kk - 1 + p)
          have iN : kk - 1 + p < M.length := by omega
          have h3 : 0 ≤ M.getD (kk - 1 + p) 0 := by
            rw [List.getD_eq_getElem?_getD, List.getElem?_eq_getElem iN]
            have := hle _ (List.getElem_mem iN)
            show 0 ≤ M[kk - 1 + p]
            omega
          unfold shC at h1
          rw [if_pos (show kk ≤ kk - 1 + p + 1 by omega), show kk - 1 + p + 1 - kk = p by omega, esg, Int.neg_mul, Int.one_mul, Int.neg_mul] at h1
          omega
    rintro σ1 H9 ⟨rfl, hcl, rfl⟩
    have kl : kk < M.length := by omega
    have sg1 : sg = 1 ∨ sg = -1 := hw2.elim (fun z => .inl z.2) fun z => .inr z.2
    refine ⟨_, rfl, _, rfl, S, _, _, V.int (M.getD kk 0), rfl, rfl, .inl (.inl eM), get_nat kl, _, rfl, _, rfl, _, _, rfl, rfl, .inl ⟨by omega, by omega⟩, _, _, rfl, rfl, ?_⟩
    refine ⟨_, rfl, _, rfl, S, _, _, kk, rfl, rfl, eM, by rw [List.length_map]; exact ix_nat kl, ?_⟩
    rw [← List.map_set]
    dsimp only
    obtain ⟨M2, hM2⟩ : ∃ M2, M2 = M.set kk (M.getD kk 0 - sg * nn) := ⟨_, rfl⟩
    rw [← hM2]
    have lM2 : M2.length = 45 := by rw [hM2, List.length_set, lM]
    have g2 : ∀ j, M2.getD j 0 = chF ks fs st j := fun j => by
      rw [hM2, getD_set, gM, gM]
      rcases hw2 with ⟨e, esg⟩ | ⟨e, esg⟩
      · rw [e, esg, Int.one_mul]
        show _ = fs.getD j 0 - (if j = kk then (nn : Int) else 0) + nn * shC ks kk j
        by_cases z : kk = j
        · subst z
          rw [if_pos ⟨rfl, kl⟩, if_pos rfl]
          omega
        · rw [if_neg (fun y => z y.1), if_neg (fun y => z y.symm)]
          omega
      · rw [e, esg, Int.neg_mul, Int.one_mul, Int.neg_mul]
        show _ = fs.getD j 0 + (if j = kk then (nn : Int) else 0) - nn * shC ks kk j
        by_cases z : kk = j
        · subst z
          rw [if_pos ⟨rfl, kl⟩, if_pos rfl]
          omega
        · rw [if_neg (fun y => z y.1), if_neg (fun y => z y.symm), Int.neg_mul]
          omega
    have z41 : ∀ j, 41 ≤ j → M2.getD j 0 = 0 := fun j hj => by
      rw [hM2, getD_set, if_neg (fun y => by have := y.1; omega), gM, f41 j hj]
      unfold shC
      split
      · rw [hM.out (by omega), Int.mul_zero]
        rfl
      · rw [Int.mul_zero]
        rfl
    have sA : Same H (upd H9 S (.lst (M2.map V.int))) := same_at s8 nSH
    have eA : (upd H9 S (.lst (M2.map V.int))) S = some (.lst (M2.map V.int)) := upd_same
    generalize upd H9 S (.lst (M2.map V.int)) = HA at sA eA ⊢
    have erA := rd_same er sA
    have elA := sA _ _ el
    have done : isS ks fs st → ∀ H', Same HA H' → Q (.ref S) H' := fun hS H' s => qs hS S M2 H' (sA.trans s) nSH (s _ _ eA) lM2 g2
    rcases hw2 with ⟨e, esg⟩ | ⟨e, esg⟩
    · refine ⟨_, rfl, r, _, _, .str st.word, rfl, rfl, .inl erA, atI_nat (j := 0) rfl, rfl, true, eq_yes (by rw [e]; exact w_open_open), iteT ?_⟩
      refine ⟨_, rfl, _, rfl, l, _, _, V.int (fs.getD kk 0), rfl, rfl, .inl (.inl elA), get_nat (by omega), _, rfl, _, _, rfl, rfl, _, rfl, ?_⟩
      by_cases c : fs.getD kk 0 < ((nn : Nat) : Int)
      · rw [decide_eq_true c]
        refine iteT (iteT (qn (fun z => ?_) _ sA))
        rw [e] at z
        have := z.2.2
        omega
      · rw [decide_eq_false c]
        refine iteF ?_
        have hS : isS ks fs st := by
          rw [e]
          exact ⟨k1, n1, by omega⟩
        exact zero_tail eA z41 fun H' s => iteF ⟨_, rfl, done hS H' s⟩
    · refine ⟨_, rfl, r, _, _, .str st.word, rfl, rfl, .inl erA, atI_nat (j := 0) rfl, rfl, false, eq_no (by rw [e]; exact w_close_open), iteF (iteF ?_)⟩
      exact zero_tail eA z41 fun H' s => iteF ⟨_, rfl, done (hcl esg) H' s⟩
end
end My

namespace My
open PySem PySem.Spec PyProof.Rows L2
open Kn (KindAt Prs Most)
abbrev s_law_some_step : Stmt := topS 43
theorem sc_law_some_step : FnScope ["pot", "kind", "counts", "spots", "k", "n", "way", "spot", "count"] ["pot", "kind", "counts"] (defScope s_law_some_step) := ⟨rfl, rfl, rfl, by decide +kernel, rfl, by decide +kernel, by decide +kernel⟩
abbrev s_law_wild : Stmt := topS 45
theorem sc_law_wild : FnScope ["pot", "words", "word", "many", "number"] ["pot"] (defScope s_law_wild) := ⟨rfl, rfl, rfl, by decide +kernel, rfl, by decide +kernel, by decide +kernel⟩
theorem Pot.p {H : Hp} {p c : Addr} (h : Pot H p c) : ∃ xs, H p = some (.lst xs) := by
  obtain ⟨ns, pl, am, sz, h1, h2, h3⟩ := h
  exact ⟨_, h1⟩
theorem Pot.c {H : Hp} {p c : Addr} (h : Pot H p c) : ∃ xs, H c = some (.lst xs) := by
  obtain ⟨ns, pl, am, sz, h1, h2, h3⟩ := h
  exact ⟨_, h2⟩
theorem Pot.ne {H : Hp} {p c D : Addr} (h : Pot H p c) (n : H D = none) : p ≠ D ∧ c ≠ D := by
  obtain ⟨xs, e⟩ := h.p
  obtain ⟨ys, g⟩ := h.c
  exact ⟨ne_of_none e n, ne_of_none g n⟩
theorem Pot.but0 {H : Hp} {p c : Addr} (h : Pot H p c) : But p H H := by
  obtain ⟨xs, e⟩ := h.p
  exact .of e (same_rfl H)
theorem Pot.but1 {H H' : Hp} {p c : Addr} (h : Pot H p c) (s : Same H H') : But p H H' := by
  obtain ⟨xs, e⟩ := h.p
  exact .of (s _ _ e) s
theorem StepAt.but {p c : Addr} {H H' : Hp} {v : V} {s : Stp} (h : StepAt H v s) (hP : Pot H p c) (b : But p H H') : StepAt H' v s := by
  obtain ⟨r, e, g⟩ := h
  obtain ⟨xs, ep⟩ := hP.p
  refine ⟨r, e, ?_⟩
  rcases g with g | ⟨o, g⟩
  · exact .inl (b.1 _ _ g fun z => by rw [z, ep] at g; cases g)
  · exact .inr ⟨o, b.1 _ _ g fun z => by rw [z, ep] at g; cases g⟩
/-- a step with small numbers -/
structure StpOk (s : Stp) : Prop where
  few : s.few
  k20 : s.k ≤ 20
structure spSomeStep (vs : List V) (H : Hp) (Q : VK) (E : XK) : Prop where
  ex : ∃ (p c : Addr) (x : V) (l : Addr) (fs : List Int), vs = [.ref p, x, .ref l] ∧ Pot H p c ∧ H l = some (.lst (fs.map V.int)) ∧ l ≠ p ∧ fs.length = 45 ∧ (∀ j, 0 ≤ fs.getD j 0 ∧ fs.getD j 0 ≤ 1000000) ∧ (∀ j, 20 ≤ j → fs.getD j 0 = 0) ∧
    ∀ v s H', But p H H' → Pot H' p c → StepAt H' v s → StpOk s → Q v H'
structure spWild (vs : List V) (H : Hp) (Q : VK) (E : XK) : Prop where
  ex : ∃ (p c : Addr), vs = [.ref p] ∧ Pot H p c ∧ ∀ v s H', But p H H' → Pot H' p c → StepAt H' v s → StpOk s → Q v H'
section
variable {P : Program} {w : World} {K : PySem.W.Frag} {mg : Str → Option Value} {base : Heap}
theorem ok_some_step {f fb fp : Addr} {fd fdb fdp : FuncData} {k : Nat} (F : Fun K "_law_some_step" "_law_some_step" s_law_some_step f fd) (T : TxtU mg) (F__law_below : Fun K "_law_below" "_law_below" s_law_below fb fdb) (b__law_below : Binds K fdb ["pot", "bound"] []) (g__law_below : mg "_law_below" = some (.ref fb))
    (G__law_below : FnOk P w K mg base CX0 2 fb fdb ["pot", "bound"] spBelow) (F__law_pick : Fun K "_law_pick" "_law_pick" s_law_pick fp fdp) (b__law_pick : Binds K fdp ["pot", "items"] []) (g__law_pick : mg "_law_pick" = some (.ref fp))
    (G__law_pick : FnOk P w K mg base CX0 3 fp fdp ["pot", "items"] (spPick K)) : FnOk P w K mg base CX0 (k + 4) f fd ["pot", "kind", "counts"] spSomeStep := by
  refine F.ok sc_law_some_step (fun vs H Q E h => ?_) (fun cdv A outer s H vs Q E hr h => ?_)
  · obtain ⟨p, c, x, l, fs, rfl, _⟩ := h
    rfl
  · obtain ⟨p, c, x, l, fs, rfl, hP, el, nlp, l45, fb2, f20, q⟩ := h
    refine ⟨_, (pss_cons (ps_setLc (i := 3) (own := [("spot", 7), ("count", 8)]) (g := gTup K 2 (gCons (gName 7) (gCons (gName 8) gNil))) rfl sc_law_some_step.nd rfl rfl (sw_true rfl rfl rfl (by decide +kernel)) (pi_enum (by rfl) T.n_enumerate (pa_cons (pv 2) pa_nil)) (blkOk_by (own := [("spot", 7), ("count", 8)]) (N := ["pot", "kind", "counts", "spots", "k", "n", "way", "spot", "count"]) (sc := defScope s_law_some_step) (by decide +kernel)) (fun _ _ _ _ _ => (pg_tup rfl (pgs_cons (pg_name (i := 7) sc_law_some_step.nd rfl (.inl rfl)) (pgs_cons (pg_name (i := 8) sc_law_some_step.nd rfl (.inl rfl)) pgs_nil)))) (fun _ _ _ _ _ => (pts_one (PW.pt (pw_and (pt_cmpR op_gt (pv 7) pe_int (nomark _)) (pw_and1 (pt_cmpR op_gt (pv 8) pe_int (nomark _))))))) (fun _ _ _ _ _ => (pv 7)))
  (C8.pss_cut (ps_set (i := 4) sc_law_some_step.nd rfl (.inl rfl) (pe_ifExp (pt_cmpR (op_neD hr.units) (pv 3) (pe_lst pa_nil) (nomark _)) (pe_call G__law_pick (hr.mono (by omega)) (by rfl) g__law_pick F__law_pick.kp b__law_pick .nil pass0 (pa_cons (pv 0) (pa_cons (pv 3) pa_nil))) pe_int))
  (pss_cons (ps_par (i := 5) (j := 6) (by rfl) sc_law_some_step.nd rfl rfl (by decide) rfl rfl (pa_cons (pe_op op_add pe_int (pe_call G__law_below (hr.mono (by omega)) (by rfl) g__law_below F__law_below.kp b__law_below .nil pass0 (pa_cons (pv 0) (pa_cons (pe_callB (call_max2 (by rfl)) (by rfl) T.n_max (by decide +kernel) (pa_cons pe_int (pa_cons (pe_ix ix_list (pv 2) (pv 4) (fun _ _ => rfl)) pa_nil))) pa_nil)))) (pa_cons (pe_call G__law_below (hr.mono (by omega)) (by rfl) g__law_below F__law_below.kp b__law_below .nil pass0 (pa_cons (pv 0) (pa_cons pe_int pa_nil))) pa_nil)) (by rfl))
  (pss_cons (ps_if (pt_cmpR op_eq (pv 6) pe_int (nomark _))
   (pss_one (ps_ret (pe_tup (pa_cons pe_str (pa_cons (pv 4) (pa_cons (pe_call G__law_below (hr.mono (by omega)) (by rfl) g__law_below F__law_below.kp b__law_below .nil pass0 (pa_cons (pv 0) (pa_cons (pe_callB (call_max2 (by rfl)) (by rfl) T.n_max (by decide +kernel) (pa_cons pe_int (pa_cons (pe_op op_add (pe_op op_sub (pe_ix ix_list (pv 2) (pv 4) (fun _ _ => rfl)) (pv 5)) pe_int) pa_nil))) pa_nil))) (pa_cons (pv 5) pa_nil)))))))
   pss_nil)
  (C8.pss_cut (ps_if (PW.pt (pw_and (pt_cmpR op_eq (pv 6) pe_int (nomark _)) (pw_and1 (pt_cmpR op_gt (pv 4) pe_int (nomark _)))))
   (pss_one (ps_ret (pe_tup (pa_cons pe_str (pa_cons (pv 4) (pa_cons (pv 5) (pa_cons (pe_op op_add pe_int (pe_call G__law_below (hr.mono (by omega)) (by rfl) g__law_below F__law_below.kp b__law_below .nil pass0 (pa_cons (pv 0) (pa_cons (pe_op op_sub (pv 4) pe_int) pa_nil)))) pa_nil)))))))
   pss_nil)
  (pss_cons (ps_if (pt_cmpR op_eq (pv 6) pe_int (nomark _))
   (pss_one (ps_ret (pe_tup (pa_cons pe_str (pa_cons (pe_op op_add pe_int (pe_call G__law_below (hr.mono (by omega)) (by rfl) g__law_below F__law_below.kp b__law_below .nil pass0 (pa_cons (pv 0) (pa_cons pe_int pa_nil)))) (pa_cons pe_int pa_nil))))))
   pss_nil)
  (pss_one (ps_ret (pe_tup (pa_cons pe_str (pa_cons (pv 4) (pa_cons (pv 5) pa_nil)))))))))))), ?_⟩
    clear G__law_below G__law_pick
    refine ⟨_, rfl, l, _, rfl, .inl (.inl el), fun D nD => ?_⟩
    refine lc_it (walk_enum (xs := fs.map V.int)) (fun i H5 => Same H H5 ∧ ∃ js : List Nat, H5 D = some (.lst (js.map intV)) ∧ js.length ≤ i ∧ (∀ j ∈ js, 1 ≤ j ∧ 0 < fs.getD j 0)) ⟨same_upd nD, [], upd_same, Nat.le_refl _, fun _ z => (nomatch z)⟩ (fun i H5 _ h => .inl (.inl (h.1 _ _ el))) ?_ ?_
    · rintro i x5 H5 H6 hi ⟨s5, js, eD, lj, hj⟩ ⟨T5, x6, y6, rfl, nT, rfl, ex, ey⟩
      rw [List.length_map] at hi
      have ey : (fs.map V.int)[i]? = some y6 := ey
      rw [List.getElem?_map, List.getElem?_eq_getElem hi] at ey
      obtain rfl : V.int fs[i] = y6 := Option.some.inj ey
      obtain rfl : V.int (i : Nat) = x6 := Option.some.inj ex
      have gi : fs.getD i 0 = fs[i] := by rw [List.getD_eq_getElem?_getD, List.getElem?_eq_getElem hi]; rfl
      have sT := s5.trans (same_upd (o := .tup [V.int (i : Nat), V.int fs[i]]) nT)
      have eDT := (same_upd (o := .tup [V.int (i : Nat), V.int fs[i]]) nT) _ _ eD
      refine ⟨T5, _, rfl, .inl (.inl upd_same), rfl, _, _, rfl, _, _, rfl, rfl, rfl, ?_⟩
      generalize upd H5 T5 (.tup [V.int (i : Nat), V.int fs[i]]) = H7 at sT eDT ⊢
      refine ⟨_, rfl, _, _, rfl, rfl, _, rfl, ?_⟩
      by_cases i0 : ((i : Nat) : Int) > 0
      · rw [decide_eq_true i0]
        refine iteT ?_
        refine ⟨_, rfl, _, _, rfl, rfl, _, rfl, ?_⟩
        by_cases z : fs[i] > 0
        · rw [decide_eq_true z]
          refine iteT ?_
          refine ⟨_, rfl, _, eDT, small1000 (by rw [List.length_map]; omega), same_at sT nD, js ++ [i], ?_, ?_, ?_⟩
          · rw [upd_same, List.map_append]
            rfl
          · rw [List.length_append]
            exact Nat.succ_le_succ lj
          · intro m hm
            rcases List.mem_append.mp hm with hm | hm
            · exact hj m hm
            · rw [List.mem_singleton.mp hm, gi]
              exact ⟨by omega, z⟩
        · rw [decide_eq_false z]
          exact iteF ⟨sT, js, eDT, by omega, hj⟩
      · rw [decide_eq_false i0]
        exact iteF (iteF ⟨sT, js, eDT, by omega, hj⟩)
    rintro H5 ⟨s5, js, eD, lj, hj⟩
    rw [List.length_map] at lj
    have hP5 := hP.same s5
    have el5 := s5 _ _ el
    have b5 := hP.but1 s5
    refine ⟨fun σ' H' => Pot H' p c ∧ But p H H' ∧ ∃ kk : Nat, 1 ≤ kk ∧ kk ≤ 20 ∧ σ' = [some (.ref p), some x, some (.ref l), some (.ref D), some (intV kk), none, none, none, none], ?_, ?_⟩
    · refine ⟨_, rfl, by show 0 ≤ sizeLine; decide, fun z nz => ?_⟩
      have sz := same_upd (o := .lst []) nz
      have eI : js.map intV = (js.map fun j => ((j : Nat) : Int)).map V.int := by rw [List.map_map]; rfl
      rw [eI] at eD
      refine ⟨_, _, .lst (.inl (.inl (sz _ _ eD))) (dp_ints _), .lst (.inl (.inl upd_same)) .nil, sh_ints _, sh_nil, _, rfl, ?_⟩
      rw [eqv_nil]
      have b6 := hP.but1 (s5.trans sz)
      have hP6 := hP5.same sz
      have eD6 := sz _ _ eD
      obtain ⟨npD, _⟩ := hP.ne nD
      cases js with
      | nil =>
        rw [show decide ((([] : List Nat).map fun j => ((j : Nat) : Int)).map PyData.int = []) = true from rfl]
        exact iteF ⟨hP6, b6, 1, Nat.le_refl _, by decide, rfl⟩
      | cons j0 jr =>
        rw [show decide (((j0 :: jr).map fun j => ((j : Nat) : Int)).map PyData.int = []) = false from rfl]
        refine iteT ?_
        refine ⟨_, rfl, _, rfl, p, c, D, _, rfl, hP6, .inl (.inl eD6), (fun z => nomatch z), by rw [List.length_map, List.length_map]; omega, fun H' hb => .inl (.inl (hb.1 _ _ eD6 (Ne.symm npD))), fun v H7 hv hP7 b7 => ?_⟩
        rw [← eI] at hv
        obtain ⟨j, hjm, rfl⟩ := List.mem_map.mp hv
        obtain ⟨j1, jp⟩ := hj j hjm
        have j20 : j ≤ 20 := by
          rcases Nat.lt_or_ge j 20 with z | z
          · omega
          · rw [f20 j z] at jp
            exact absurd jp (by decide)
        exact ⟨hP7, b6.trans b7, j, j1, j20, rfl⟩
    rintro σ1 H6 ⟨hP6, b6, kk, k1, k20, rfl⟩
    have el6 := b6.1 _ _ el nlp
    have fk := fb2 kk
    have kl : kk < fs.length := by omega
    refine ⟨_, rfl, _, rfl, _, rfl, l, _, _, V.int (fs.getD kk 0), rfl, rfl, .inl (.inl el6), get_nat kl, _, _, rfl, p, c, _, rfl, hP6, by split <;> omega, by split <;> omega, fun v H7 v0 v1 hP7 b7 => ⟨_, _, rfl, rfl, ?_⟩⟩
    have v2 : v < 1000001 := by
      revert v1
      split <;> omega
    obtain ⟨nn, hn⟩ : ∃ nn : Nat, 1 + v = (nn : Int) := ⟨(1 + v).toNat, by omega⟩
    dsimp only
    rw [hn]
    refine ⟨_, rfl, p, c, _, rfl, hP7, by decide, by decide, fun wv H8 w0 w1 hP8 b8 => ⟨_, _, rfl, ?_⟩⟩
    have b68 := (b6.trans b7).trans b8
    have el8 := b68.1 _ _ el nlp
    have n1 : 1 ≤ nn := by omega
    have n6 : nn ≤ 1000001 := by omega
    clear v1 w1 el6
    refine ⟨_, rfl, rfl, decide (wv = 0), eqI _ 0, ?_⟩
    by_cases z0 : wv = 0
    · rw [decide_eq_true z0]
      refine iteT ?_
      refine ⟨_, rfl, _, rfl, _, rfl, _, rfl, l, _, _, V.int (fs.getD kk 0), rfl, rfl, .inl (.inl el8), get_nat kl, _, rfl, _, _, rfl, rfl, _, _, rfl, rfl, _, _, rfl, p, c, _, rfl, hP8, ?_, ?_, fun av H9 a0 a1 hP9 b9 => ?_⟩
      · split <;> omega
      · split <;> omega
      have a2 : av < 1000001 := by
        revert a1
        split <;> omega
      obtain ⟨aa, rfl⟩ : ∃ aa : Nat, av = (aa : Int) := ⟨av.toNat, by omega⟩
      refine ⟨_, rfl, by show 4 ≤ sizeLine; decide, fun t nt => ?_⟩
      refine q (.ref t) (.mv kk aa nn) _ ((b68.trans b9).same (same_upd nt)) (hP9.same (same_upd nt)) ⟨t, rfl, .inl upd_same⟩ ⟨fun n hn => ?_, k20⟩
      simp only [Stp.ns, List.mem_cons, List.not_mem_nil, or_false] at hn
      omega
    rw [decide_eq_false z0]
    refine iteF ?_
    refine ⟨fun σ' H' => H' = H8 ∧ σ' = [some (.ref p), some x, some (.ref l), some (.ref D), some (intV kk), some (intV nn), some (.int wv), none, none], ?_, ?_⟩
    · refine ⟨_, rfl, rfl, decide (wv = 1), eqI _ 1, ?_⟩
      by_cases z1 : wv = 1
      · rw [decide_eq_true z1]
        refine iteT ?_
        refine ⟨_, rfl, _, _, rfl, rfl, _, rfl, ?_⟩
        by_cases k2 : ((kk : Nat) : Int) > 1
        · rw [decide_eq_true k2]
          refine iteT ?_
          refine ⟨_, rfl, _, rfl, _, rfl, _, rfl, _, _, rfl, rfl, p, c, _, rfl, hP8, by omega, by omega, fun jv H9 j0 j1 hP9 b9 => ⟨_, _, rfl, rfl, by show 4 ≤ sizeLine; decide, fun t nt => ?_⟩⟩
          dsimp only
          obtain ⟨jj, hj⟩ : ∃ jj : Nat, 2 + jv = (jj : Int) := ⟨(2 + jv).toNat, by omega⟩
          rw [hj]
          refine q (.ref t) (.tu kk nn jj) _ ((b68.trans b9).same (same_upd nt)) (hP9.same (same_upd nt)) ⟨t, rfl, .inl upd_same⟩ ⟨fun n hn => ?_, k20⟩
          simp only [Stp.ns, List.mem_cons, List.not_mem_nil, or_false] at hn
          omega
        · rw [decide_eq_false k2]
          exact iteF ⟨rfl, rfl⟩
      · rw [decide_eq_false z1]
        exact iteF (iteF ⟨rfl, rfl⟩)
    rintro σ1 H7 ⟨rfl, rfl⟩
    refine ⟨_, rfl, rfl, decide (wv = 2), eqI _ 2, ?_⟩
    by_cases z2 : wv = 2
    · rw [decide_eq_true z2]
      refine iteT ?_
      refine ⟨_, rfl, p, c, _, rfl, hP8, by decide, by decide, fun jv H9 j0 j1 hP9 b9 => ⟨_, _, rfl, rfl, by show 3 ≤ sizeLine; decide, fun t nt => ?_⟩⟩
      dsimp only
      obtain ⟨jj, hj⟩ : ∃ jj : Nat, 1 + jv = (jj : Int) := ⟨(1 + jv).toNat, by omega⟩
      rw [hj]
      refine q (.ref t) (.cl jj 1) _ ((b68.trans b9).same (same_upd nt)) (hP9.same (same_upd nt)) ⟨t, rfl, .inl upd_same⟩ ⟨fun n hn => ?_, by show jj ≤ 20; omega⟩
      simp only [Stp.ns, List.mem_cons, List.not_mem_nil, or_false] at hn
      omega
    · rw [decide_eq_false z2]
      refine iteF ?_
      refine ⟨_, rfl, _, rfl, by show 3 ≤ sizeLine; decide, fun t nt => ?_⟩
      refine q (.ref t) (.op kk nn) _ (b68.same (same_upd nt)) (hP8.same (same_upd nt)) ⟨t, rfl, .inl upd_same⟩ ⟨fun n hn => ?_, k20⟩
      simp only [Stp.ns, List.mem_cons, List.not_mem_nil, or_false] at hn
      omega
theorem ok_wild {f fb fp : Addr} {fd fdb fdp : FuncData} {k : Nat} (F : Fun K "_law_wild" "_law_wild" s_law_wild f fd) (T : TxtU mg) (F__law_below : Fun K "_law_below" "_law_below" s_law_below fb fdb) (b__law_below : Binds K fdb ["pot", "bound"] []) (g__law_below : mg "_law_below" = some (.ref fb))
    (G__law_below : FnOk P w K mg base CX0 2 fb fdb ["pot", "bound"] spBelow) (F__law_pick : Fun K "_law_pick" "_law_pick" s_law_pick fp fdp) (b__law_pick : Binds K fdp ["pot", "items"] []) (g__law_pick : mg "_law_pick" = some (.ref fp))
    (G__law_pick : FnOk P w K mg base CX0 3 fp fdp ["pot", "items"] (spPick K)) : FnOk P w K mg base CX0 (k + 4) f fd ["pot"] spWild := by
  refine F.ok sc_law_wild (fun vs H Q E h => ?_) (fun cdv A outer s H vs Q E hr h => ?_)
  · obtain ⟨p, c, rfl, _⟩ := h
    rfl
  · obtain ⟨p, c, rfl, hP, q⟩ := h
    refine ⟨_, (pss_cons (ps_set (i := 1) sc_law_wild.nd rfl (.inl rfl) (pe_lst (pa_cons (pe_tup (pa_cons pe_str (pa_cons pe_int pa_nil))) (pa_cons (pe_tup (pa_cons pe_str (pa_cons pe_int pa_nil))) (pa_cons (pe_tup (pa_cons pe_str (pa_cons pe_int pa_nil))) (pa_cons (pe_tup (pa_cons pe_str (pa_cons pe_int pa_nil))) pa_nil))))))
  (pss_cons (ps_asg (pe_call G__law_pick (hr.mono (by omega)) (by rfl) g__law_pick F__law_pick.kp b__law_pick .nil pass0 (pa_cons (pv 0) (pa_cons (pv 1) pa_nil))) (pg_tup rfl (pgs_cons (pg_name (i := 2) sc_law_wild.nd rfl (.inl rfl)) (pgs_cons (pg_name (i := 3) sc_law_wild.nd rfl (.inl rfl)) pgs_nil))))
  (pss_one (ps_ret (pe_op op_catX (pe_tup (pa_cons (pv 2) pa_nil)) (pe_callTy call_tuple_of (by rfl) T.n_tuple (by decide +kernel) (pa_cons (pe_lc (own := [("number", 4)]) (g := gName 4) rfl sc_law_wild.nd (pi_range1 (by rfl) T.n_range (pa_cons (pv 3) pa_nil)) (blkOk_by (own := [("number", 4)]) (N := ["pot", "words", "word", "many", "number"]) (sc := defScope s_law_wild) (by decide +kernel)) (fun _ _ _ _ _ => (pg_name (i := 4) sc_law_wild.nd rfl (.inl rfl))) (fun _ _ _ _ _ => pts_nil) (fun _ _ _ _ _ => (pe_call G__law_below (hr.mono (by omega)) (by rfl) g__law_below F__law_below.kp b__law_below .nil pass0 (pa_cons (pv 0) (pa_cons pe_int pa_nil))))) pa_nil))))))), ?_⟩
    clear G__law_below G__law_pick
    refine ⟨by show 2 ≤ sizeLine; decide, fun t1 n1 => ⟨by show 2 ≤ sizeLine; decide, fun t2 n2 => ⟨by show 2 ≤ sizeLine; decide, fun t3 n3 => ⟨by show 2 ≤ sizeLine; decide, fun t4 n4 => ⟨by show 4 ≤ sizeLine; decide, fun L nL => ?_⟩⟩⟩⟩⟩
    have u1 := same_upd (o := .tup [V.str (Str.ofString "open"), V.int 2]) n1
    have u2 := same_upd (o := .tup [V.str (Str.ofString "close"), V.int 2]) n2
    have u3 := same_upd (o := .tup [V.str (Str.ofString "move"), V.int 3]) n3
    have u4 := same_upd (o := .tup [V.str (Str.ofString "turn"), V.int 3]) n4
    have u5 := same_upd (o := .lst [V.ref t1, V.ref t2, V.ref t3, V.ref t4]) nL
    have f1 := (((u2.trans u3).trans u4).trans u5) t1 _ upd_same
    have f2 := ((u3.trans u4).trans u5) t2 _ upd_same
    have f3 := (u4.trans u5) t3 _ upd_same
    have f4 := u5 t4 _ upd_same
    have eL := @upd_same (upd (upd (upd (upd H t1 (.tup [V.str (Str.ofString "open"), V.int 2])) t2 (.tup [V.str (Str.ofString "close"), V.int 2])) t3 (.tup [V.str (Str.ofString "move"), V.int 3])) t4 (.tup [V.str (Str.ofString "turn"), V.int 3])) L (.lst [V.ref t1, V.ref t2, V.ref t3, V.ref t4])
    have tt := (((u1.trans u2).trans u3).trans u4).trans u5
    obtain ⟨npL, _⟩ := (((((hP.same u1).same u2).same u3).same u4)).ne nL
    generalize upd (upd (upd (upd (upd H t1 (.tup [V.str (Str.ofString "open"), V.int 2])) t2 (.tup [V.str (Str.ofString "close"), V.int 2])) t3 (.tup [V.str (Str.ofString "move"), V.int 3])) t4 (.tup [V.str (Str.ofString "turn"), V.int 3])) L (.lst [V.ref t1, V.ref t2, V.ref t3, V.ref t4]) = H5 at f1 f2 f3 f4 eL tt ⊢
    have g1 := (hP.ne n1).1
    have g2 := ((hP.same u1).ne n2).1
    have g3 := (((hP.same u1).same u2).ne n3).1
    have g4 := ((((hP.same u1).same u2).same u3).ne n4).1
    have hP5 := hP.same tt
    refine ⟨_, rfl, _, rfl, p, c, L, _, rfl, hP5, .inl (.inl eL), (fun z => nomatch z), by show 4 < 1073741824; decide, fun H' hb => .inl (.inl (hb.1 _ _ eL (Ne.symm npL))), fun v H6 hv hP6 b6 => ?_⟩
    have b06 := (hP.but1 tt).trans b6
    have fin : ∃ (t : Addr) (w : Str) (m : Nat), v = .ref t ∧ H6 t = some (.tup [.str w, .int ((m : Nat) : Int)]) ∧ (((w = Str.ofString "open" ∨ w = Str.ofString "close") ∧ m = 2) ∨ ((w = Str.ofString "move" ∨ w = Str.ofString "turn") ∧ m = 3)) := by
      simp only [List.mem_cons, List.not_mem_nil, or_false] at hv
      rcases hv with rfl | rfl | rfl | rfl
      · exact ⟨t1, _, 2, rfl, b6.1 _ _ f1 (Ne.symm g1), .inl ⟨.inl rfl, rfl⟩⟩
      · exact ⟨t2, _, 2, rfl, b6.1 _ _ f2 (Ne.symm g2), .inl ⟨.inr rfl, rfl⟩⟩
      · exact ⟨t3, _, 3, rfl, b6.1 _ _ f3 (Ne.symm g3), .inr ⟨.inl rfl, rfl⟩⟩
      · exact ⟨t4, _, 3, rfl, b6.1 _ _ f4 (Ne.symm g4), .inr ⟨.inr rfl, rfl⟩⟩
    obtain ⟨t, wd, m, rfl, et, hw⟩ := fin
    have m3 : m ≤ 3 := by rcases hw with ⟨_, z⟩ | ⟨_, z⟩ <;> omega
    clear f1 f2 f3 f4 eL tt npL g1 g2 g3 g4 hv b6 hP5 u1 u2 u3 u4 u5 n1 n2 n3 n4 nL
    refine ⟨t, _, rfl, .inl (.inl et), rfl, _, _, rfl, _, _, rfl, rfl, ?_⟩
    refine ⟨_, rfl, by show 1 ≤ sizeLine; decide, fun w1 nw => ?_⟩
    have sw := same_upd (o := .tup [V.str wd]) nw
    have ew : (upd H6 w1 (.tup [V.str wd])) w1 = some (.tup [V.str wd]) := upd_same
    have hP7 := hP6.same sw
    have b07 := b06.same sw
    obtain ⟨npw, _⟩ := hP6.ne nw
    generalize upd H6 w1 (.tup [V.str wd]) = H7 at sw ew hP7 b07 ⊢
    refine ⟨_, rfl, ((m : Nat) : Int), rfl, by omega, by omega, fun D nD => ?_⟩
    obtain ⟨npD, ncD⟩ := hP7.ne nD
    refine lc_range (n := Int.toNat ((m : Nat) : Int)) (fun j H9 => Pot H9 p c ∧ But p H7 H9 ∧ ∃ ns : List Nat, H9 D = some (.lst (ns.map intV)) ∧ ns.length = j ∧ ∀ n ∈ ns, n ≤ 4) ⟨hP7.same (same_upd nD), hP7.but1 (same_upd nD), [], upd_same, rfl, fun _ z => nomatch z⟩ ?_ ?_
    · rintro j H9 hj ⟨hP9, b9, ns, eD, ln, hn⟩
      refine ⟨rfl, ?_⟩
      unfold tYes
      dsimp only
      rw [if_pos rfl]
      refine ⟨_, rfl, p, c, _, rfl, hP9, by decide, by decide, fun y HA y0 y1 hPA bA => ?_⟩
      obtain ⟨yn, rfl⟩ : ∃ n : Nat, y = (n : Int) := ⟨y.toNat, by omega⟩
      have yn4 : yn ≤ 4 := by omega
      refine ⟨_, bA.1 _ _ eD (Ne.symm npD), small1000 (by rw [List.length_map]; omega), hPA.upd npD ncD, (b9.trans bA).set nD, ns ++ [yn], ?_, ?_, ?_⟩
      · rw [upd_same, List.map_append]
        rfl
      · rw [List.length_append, ln]
        rfl
      · intro n hm
        rcases List.mem_append.mp hm with hm | hm
        · exact hn n hm
        · rw [List.mem_singleton.mp hm]
          exact yn4
    rintro H9 ⟨hP9, b9, ns, eD, ln, hn⟩
    rw [Int.toNat_natCast] at ln
    refine ⟨D, _, rfl, .inl ⟨.inl (.inl eD), fun t5 n5 => ?_⟩⟩
    have s5 := same_upd (o := .tup (ns.map intV)) n5
    have ew9 := b9.1 _ _ ew (Ne.symm npw)
    refine ⟨w1, t5, _, _, rfl, rfl, .inl (s5 _ _ ew9), .inl upd_same, Nat.le_of_lt (small1000 (by rw [List.length_map]; show 1 + ns.length ≤ 1000; omega)), fun r HB sB er => ?_⟩
    have bB := ((b07.trans b9).same s5).same sB
    have hPB := (hP9.same s5).same sB
    rcases hw with ⟨hw, m2⟩ | ⟨hw, m2⟩
    · obtain ⟨k1, k2, rfl⟩ : ∃ k1 k2, ns = [k1, k2] := by
        match ns, ln.trans m2 with
        | [a, b], _ => exact ⟨a, b, rfl⟩
      have h1 := hn k1 (by simp)
      have h2 := hn k2 (by simp)
      rcases hw with rfl | rfl
      · exact q (.ref r) (.op k1 k2) _ bB hPB ⟨r, rfl, er⟩ ⟨fun n hm => by simp only [Stp.ns, List.mem_cons, List.not_mem_nil, or_false] at hm; omega, by show k1 ≤ 20; omega⟩
      · exact q (.ref r) (.cl k1 k2) _ bB hPB ⟨r, rfl, er⟩ ⟨fun n hm => by simp only [Stp.ns, List.mem_cons, List.not_mem_nil, or_false] at hm; omega, by show k1 ≤ 20; omega⟩
    · obtain ⟨k1, k2, k3, rfl⟩ : ∃ k1 k2 k3, ns = [k1, k2, k3] := by
        match ns, ln.trans m2 with
        | [a, b, d], _ => exact ⟨a, b, d, rfl⟩
      have h1 := hn k1 (by simp)
      have h2 := hn k2 (by simp)
      have h3 := hn k3 (by simp)
      rcases hw with rfl | rfl
      · exact q (.ref r) (.mv k1 k2 k3) _ bB hPB ⟨r, rfl, er⟩ ⟨fun n hm => by simp only [Stp.ns, List.mem_cons, List.not_mem_nil, or_false] at hm; omega, by show k1 ≤ 20; omega⟩
      · exact q (.ref r) (.tu k1 k2 k3) _ bB hPB ⟨r, rfl, er⟩ ⟨fun n hm => by simp only [Stp.ns, List.mem_cons, List.not_mem_nil, or_false] at hm; omega, by show k1 ≤ 20; omega⟩
end
end My

namespace My
open PySem PySem.Spec PyProof.Rows L2
structure Def (P : Program) (w : World) (K : PySem.W.Frag) (mg : Str → Option Value) (base : Heap) (x : Str) (st : Stmt) (ps : List Str) (k : Nat) (sp : Sp) (f : Addr) (fd : FuncData) : Prop where
  F : Fun K x x st f fd
  b : Binds K fd ps []
  g : mg x = some (.ref f)
  G : FnOk P w K mg base CX0 k f fd ps sp
theorem go_nox {P : Program} {w : World} {K : PySem.W.Frag} {mg : Str → Option Value} {base : Heap} {k : Nat} {f : Addr} {fd : FuncData} {ps N : List Str} {sp : Sp} {x qual : Str} {st : Stmt} (F : Fun K x qual st f fd) (S : FnScope N ps (defScope st)) (many : ∀ vs H Q E, sp vs H Q E → vs.length = ps.length)
    (hb : ∀ (cdv : Value) (A : Around) (outer : List Env) (s : Shared) (H : Hp) (vs : List V) (Q : VK) (E : XK), Room k (A.deeper (envOfC qual (defScope st) s.heap.objs.size f cdv)) → (A.deeper (envOfC qual (defScope st) s.heap.objs.size f cdv)).guards = some [] →
      sp vs H Q E → ∃ t, PSs (cxOf CX0 P w K mg base N qual (defScope st) f cdv A outer s H E).nox (defBody st) t ∧ t { nx := fun _ H' => Q .non H', rt := Q } (L2.start N vs) H) : FnG P w K mg base CX0 (k + 1) f fd ps sp :=
  go_of F S many fun cdv A outer s H vs Q E hr quiet h => by
    obtain ⟨t, ht, q⟩ := hb cdv A outer s H vs Q E hr quiet h
    exact ⟨t, ht.nox, q⟩
def spLaw (K : PySem.W.Frag) : Sp := fun vs H Q _ => ∃ (a : Addr) (ns : List Int), vs = [.ref a] ∧ SqL K H a (ns.map V.int) ∧ ns.length ≤ 63 ∧ ∀ H', Q (.bl true) H'
end My

namespace My
open PySem PySem.Spec PyProof.Rows L2
open Kn (KindAt Prs Most)
abbrev s_Layouteq : Stmt := inClass (topS 25) 12
theorem sc_Layouteq : FnScope ["self", "other"] ["self", "other"] (defScope s_Layouteq) := ⟨rfl, rfl, rfl, by decide +kernel, rfl, by decide +kernel, by decide +kernel⟩
abbrev s_law : Stmt := topS 46
theorem sc_law : FnScope ["script", "pot", "turn", "kind", "factors", "more", "layout", "extra", "steps", "step", "behind", "found", "lap"] ["script"] (defScope s_law) := ⟨rfl, rfl, rfl, by decide +kernel, rfl, by decide +kernel, by decide +kernel⟩
theorem eqvAll_intsS : ∀ ns : List Int, PyData.eqvAll (ns.map PyData.int) (ns.map PyData.int) = true
  | [] => by simp [PyData.eqvAll]
  | n :: r => by
    rw [List.map_cons]
    simp [PyData.eqvAll, PyData.eqv, eqvAll_intsS r]
theorem eqvT_intsS (ns : List Int) : PyData.eqv (.tuple (ns.map PyData.int)) (.tuple (ns.map PyData.int)) = true := by
  rw [PyData.eqv]
  exact eqvAll_intsS ns
theorem shT_intsS (ns : List Int) : SeqAt.shaped (.tuple (ns.map PyData.int)) = true := by
  have h := dep_ints ns
  exact sh_of (by simp only [PyData.canLay0]; exact lay_ints ns) (by simp only [PyData.depth]; omega)
/-- layouts that are one -/
structure spLayEq (C : Addr) (vs : List V) (H : Hp) (Q : VK) (E : XK) : Prop where
  ex : ∃ a b ns, vs = [.ref a, .ref b] ∧ LayAt C H a ns ∧ LayAt C H b ns ∧ Q (.bl true) H
theorem trim_le {as bs : List Int} (e : ∀ k, as.getD k 0 = bs.getD k 0) : (trimN bs).length ≤ (trimN as).length := by
  rcases Nat.lt_or_ge (trimN as).length (trimN bs).length with g | g
  · have z := trim_end (ns := bs) (fun y => by rw [y] at g; simp at g)
    rw [getD_trim, ← e, ← getD_trim, List.getD_eq_getElem?_getD, List.getElem?_eq_none (by omega)] at z
    exact absurd rfl z
  · exact g
theorem trim_ext {as bs : List Int} (e : ∀ k, as.getD k 0 = bs.getD k 0) : trimN as = trimN bs := by
  have l1 := trim_le e
  have l2 := trim_le fun k => (e k).symm
  refine List.ext_getElem (by omega) fun k h1 h2 => ?_
  have ek := e k
  rw [← getD_trim as, ← getD_trim bs, List.getD_eq_getElem?_getD, List.getD_eq_getElem?_getD, List.getElem?_eq_getElem h1, List.getElem?_eq_getElem h2] at ek
  exact ek
theorem trim_short {as : List Int} {n : Nat} (z : ∀ j, n ≤ j → as.getD j 0 = 0) : (trimN as).length ≤ n := by
  rcases Nat.lt_or_ge n (trimN as).length with g | g
  · have y := trim_end (ns := as) (fun y => by rw [y] at g; simp at g)
    rw [getD_trim, z _ (by omega)] at y
    exact absurd rfl y
  · exact g
theorem addL_get (as bs : List Int) (k : Nat) : (addL as bs).getD k 0 = as.getD k 0 + bs.getD k 0 := by
  unfold addL
  rw [List.getD_eq_getElem?_getD, List.getElem?_map]
  by_cases h : k < max as.length bs.length
  · rw [List.getElem?_range h]
    rfl
  · rw [List.getElem?_eq_none (by rw [List.length_range]; omega), List.getD_eq_getElem?_getD, List.getD_eq_getElem?_getD, List.getElem?_eq_none (by omega), List.getElem?_eq_none (by omega)]
    rfl
theorem isS_ext {ks : List (Str × Int)} {as bs : List Int} (e : ∀ k, as.getD k 0 = bs.getD k 0) (s : Stp) : isS ks as s ↔ isS ks bs s := by
  cases s <;> simp only [isS, e]
theorem chF_ext {ks : List (Str × Int)} {as bs : List Int} (e : ∀ k, as.getD k 0 = bs.getD k 0) (s : Stp) (j : Nat) : chF ks as s j = chF ks bs s j := by
  cases s <;> simp only [chF, e]
theorem isS_more {ks : List (Str × Int)} {as bs : List Int} (e : ∀ k, as.getD k 0 ≤ bs.getD k 0) {s : Stp} (h : isS ks as s) : isS ks bs s := by
  cases s with
  | op k n => exact ⟨h.1, h.2.1, Int.le_trans h.2.2 (e k)⟩
  | cl k n => exact ⟨h.1, h.2.1, fun p hp => Int.le_trans (h.2.2 p hp) (e _)⟩
  | mv k a n => exact ⟨h.1, Int.le_trans h.2 (e k)⟩
  | tu k n j => exact ⟨h.1, h.2.1, Int.le_trans h.2.2.1 (e k), h.2.2.2⟩
theorem chF_add {ks : List (Str × Int)} {as bs cs : List Int} (e : ∀ k, cs.getD k 0 = as.getD k 0 + bs.getD k 0) (s : Stp) (j : Nat) : chF ks cs s j = chF ks as s j + bs.getD j 0 := by
  cases s <;> simp only [chF, e] <;> omega
theorem chF_zero {ks : List (Str × Int)} {m : Nat} (hM : KdOk ks m) {as : List Int} {s : Stp} (k20 : s.k ≤ 20) {j : Nat} (hj : 30 ≤ j) (z : as.getD j 0 = 0) : chF ks as s j = 0 := by
  have sh : ∀ k, k ≤ 20 → shC ks k j = 0 := fun k hk => by
    unfold shC
    split
    · exact hM.out (by have := hM.m4; omega)
    · rfl
  cases s with
  | op k n =>
    have hk : k ≤ 20 := k20
    simp only [chF]
    rw [z, sh k hk, if_neg (by omega), Int.mul_zero]
    rfl
  | cl k n =>
    have hk : k ≤ 20 := k20
    simp only [chF]
    rw [z, sh k hk, if_neg (by omega), Int.mul_zero]
    rfl
  | mv k a n => exact z
  | tu k n i => exact z
theorem most_of : ∀ l : List Int, l ≠ [] → (∀ n ∈ l, 0 ≤ n ∧ n ≤ 4) → ∃ m : Nat, m ≤ 4 ∧ Most l m
  | [], h, _ => absurd rfl h
  | [n], _, h => by
    have := h n (by simp)
    refine ⟨n.toNat, by omega, ?_, fun x hx => ?_⟩
    · rw [Int.toNat_of_nonneg this.1]
      exact List.mem_singleton.mpr rfl
    · rw [List.mem_singleton.mp hx]
      omega
  | n :: y :: r, _, h => by
    have hn := h n (by simp)
    obtain ⟨m, m4, hm, hr⟩ := most_of (y :: r) (by simp) fun x hx => h x (List.mem_cons_of_mem _ hx)
    by_cases z : n ≤ (m : Int)
    · refine ⟨m, m4, List.mem_cons_of_mem _ hm, fun x hx => ?_⟩
      rcases List.mem_cons.mp hx with rfl | hx
      · exact ⟨hn.1, z⟩
      · exact hr x hx
    · refine ⟨n.toNat, by omega, ?_, fun x hx => ?_⟩
      · rw [Int.toNat_of_nonneg hn.1]
        exact List.mem_cons_self
      · rcases List.mem_cons.mp hx with rfl | hx
        · omega
        · have := hr x hx
          omega
theorem right_kd {ks : List (Str × Int)} (h : Kn.Right ks) : ∃ m, KdOk ks m := by
  obtain ⟨⟨l2, l8⟩, _, hq⟩ := h
  obtain ⟨m, m4, hm⟩ := most_of (ks.map (·.2)) (fun z => by
    have := congrArg List.length z
    rw [List.length_map] at this
    simp at this
    rw [this] at l2
    simp at l2) fun n hn => by
      obtain ⟨q, h1, rfl⟩ := List.mem_map.mp hn
      exact ⟨(hq q h1).2.1, (hq q h1).2.2⟩
  exact ⟨m, l8, hm, m4⟩
theorem rd_but2 {U a : Addr} {H H' : Hp} {us xs : List V} (b : But U H H') (e : H U = some (.lst us)) (h : Rd H a (.tup xs)) : Rd H' a (.tup xs) := by
  rcases h with h | ⟨o, h⟩
  · exact .inl (b.1 _ _ h fun z => by rw [z, e] at h; cases h)
  · exact .inr ⟨o, b.1 _ _ h fun z => by rw [z, e] at h; cases h⟩
theorem prs_but2 {U : Addr} {H H' : Hp} {us : List V} (b : But U H H') (e : H U = some (.lst us)) {rs : List Addr} {ks : List (Str × Int)} (h : Prs H rs ks) : Prs H' rs ks := by
  induction h with
  | nil => exact .nil
  | cons x _ ih => exact .cons (rd_but2 b e x) ih
/-- what a turn of the law stands on -/
structure Trn (C p c a lf o1 o2 : Addr) (ks : List (Str × Int)) (fs gs : List Int) (H : Hp) : Prop where
  pot : Pot H p c
  kd : KindAt H a ks
  ef : H lf = some (.lst (fs.map V.int))
  nf : lf ≠ p
  a1 : LayAt C H o1 (trimN fs)
  a2 : LayAt C H o2 (trimN gs)
theorem LayAt.but2 {C a U : Addr} {H H' : Hp} {ns : List Int} {us : List V} (h : LayAt C H a ns) (e : H U = some (.lst us)) (b : But U H H') : LayAt C H' a ns := by
  obtain ⟨dx, r, h1, h2, h3⟩ := h
  exact ⟨dx, r, b.1 _ _ h1 (fun z => by rw [z, e] at h1; cases h1), rd_but2 b e h2, h3⟩
theorem Trn.same {C p c a lf o1 o2 : Addr} {ks : List (Str × Int)} {fs gs : List Int} {H H' : Hp} (h : Trn C p c a lf o1 o2 ks fs gs H) (s : Same H H') : Trn C p c a lf o1 o2 ks fs gs H' := ⟨h.pot.same s, h.kd.same s, s _ _ h.ef, h.nf, h.a1.same s, h.a2.same s⟩
theorem Trn.but {C p c a lf o1 o2 : Addr} {ks : List (Str × Int)} {fs gs : List Int} {H H' : Hp} (h : Trn C p c a lf o1 o2 ks fs gs H) (hP : Pot H' p c) (b : But p H H') : Trn C p c a lf o1 o2 ks fs gs H' := by
  obtain ⟨xs, e⟩ := h.pot.p
  obtain ⟨rs, ea, pr⟩ := h.kd
  exact ⟨hP, ⟨rs, rd_but2 b e ea, prs_but2 b e pr⟩, b.1 _ _ h.ef h.nf, h.nf, h.a1.but2 e b, h.a2.but2 e b⟩
theorem Trn.upd {C p c a lf o1 o2 D : Addr} {ks : List (Str × Int)} {fs gs : List Int} {H : Hp} {xs : List V} {o : HO} (h : Trn C p c a lf o1 o2 ks fs gs H) (e : H D = some (.lst xs)) (n1 : p ≠ D) (n2 : c ≠ D) (n3 : lf ≠ D) : Trn C p c a lf o1 o2 ks fs gs (L2.upd H D o) := by
  obtain ⟨rs, ea, pr⟩ := h.kd
  have b : But D H (L2.upd H D o) := but_upd
  exact ⟨h.pot.upd n1 n2, ⟨rs, rd_but2 b e ea, prs_but2 b e pr⟩, b.1 _ _ h.ef n3, h.nf, h.a1.but2 e b, h.a2.but2 e b⟩
theorem StepAt.upd {H : Hp} {D : Addr} {xs : List V} {o : HO} {v : V} {s : Stp} (h : StepAt H v s) (e : H D = some (.lst xs)) : StepAt (L2.upd H D o) v s := by
  obtain ⟨r, z, g⟩ := h
  refine ⟨r, z, ?_⟩
  rcases g with g | ⟨ob, g⟩
  · exact .inl (by rw [upd_ne fun y => by rw [y, e] at g; cases g]; exact g)
  · exact .inr ⟨ob, by rw [upd_ne fun y => by rw [y, e] at g; cases g]; exact g⟩
section
variable {P : Program} {w : World} {K : PySem.W.Frag} {mg : Str → Option Value} {base : Heap}
theorem lay_ty {d : LayD} {mc : Value} {H : Hp} {b : Addr} {ms : List Int} (lb : LayAt d.lay H b ms) (D : LayF P K mg d) (LG : LayG K d.lay mc) : TyX K H (.ref b) (.ref d.lay) := by
  obtain ⟨dy, r2, hb, _⟩ := lb
  exact .base (.ins hb D.lay LG.ca LG.cn LG.ct LG.cm)
theorem ok_layeq {d : LayD} {mc : Value} {f : Addr} {fd : FuncData} {k : Nat} (F : Fun K "__eq__" "Layout.__eq__" s_Layouteq f fd) (T : TxtL mg) (D : LayF P K mg d) (LG : LayG K d.lay mc) : FnOk P w K mg base CX0 (k + 1) f fd ["self", "other"] (spLayEq d.lay) := by
  refine F.ok sc_Layouteq (fun vs H Q E h => ?_) (fun cdv A outer s H vs Q E hr h => ?_)
  · obtain ⟨a, b, ns, rfl, _⟩ := h
    rfl
  · obtain ⟨a, b, ns, rfl, ⟨dx, r, ha, hr', h3, h4⟩, lb, q⟩ := h
    refine ⟨_, (pss_one (ps_ret (pe_and (pe_callB call_isi (by rfl) T.n_isinstance (by decide +kernel) (pa_cons (pv 1) (pa_cons (pe_glob (v := .ref d.lay) (by rfl) D.gLay rfl) pa_nil))) (pe_one (pe_cmpR (op_eqD hr.units) (pe_fld (pv 0) rfl) (pe_fld (pv 1) rfl) (nomark _)))))), ?_⟩
    have tb := lay_ty lb D LG
    obtain ⟨dy, r2, hb, hr2, _⟩ := lb
    refine ⟨_, rfl, _, _, _, _, true, rfl, .own _, tb, LG.isL, _, rfl, ?_⟩
    refine iteT ?_
    refine ⟨_, rfl, a, d.lay, dx, _, .ref r, rfl, ha, D.lay, D.naF, rfl, _, rfl, b, d.lay, dy, _, .ref r2, rfl, hb, D.lay, D.naF, rfl, _, _, .tup (.inl hr') (dp_ints ns), .tup (.inl hr2) (dp_ints ns), shT_intsS ns, shT_intsS ns, ?_⟩
    rw [eqvT_intsS]
    exact q
theorem go_law {d : LayD} {mc : Value} {f f1 f2 f3 f4 f5 f6 f7 f8 f9 fL ga gE : Addr} {fd fd1 fd2 fd3 fd4 fd5 fd6 fd7 fd8 fd9 : FuncData} (F : Fun K "law" "law" s_law f fd) (T : TxtU mg) (D : LayF P K mg d) (LG : LayG K d.lay mc)
    (D1 : Def P w K mg base "_law_pot_of" s_law_pot_of ["script"] 1 (spPotOf K) f1 fd1) (D2 : Def P w K mg base "_law_some_kind" Kn.s_law_some_kind ["pot"] 5 Kn.spKind f2 fd2) (D3 : Def P w K mg base "_law_some_factors" s_law_some_factors ["pot", "many", "most"] 4 spSome f3 fd3)
    (D4 : Def P w K mg base "_law_counts" s_law_counts ["factors"] 1 spCounts f4 fd4) (D5 : Def P w K mg base "_law_some_step" s_law_some_step ["pot", "kind", "counts"] 4 spSomeStep f5 fd5) (D6 : Def P w K mg base "_law_wild" s_law_wild ["pot"] 4 spWild f6 fd6)
    (D7 : Def P w K mg base "_law_behind" s_law_behind ["kind", "counts", "step"] 2 spBehind f7 fd7) (D8 : Def P w K mg base "is_step" s_is_step ["kind", "layout", "thing"] 3 (spIsStep d.lay) f8 fd8) (D9 : Def P w K mg base "layout_behind" s_layout_behind ["kind", "layout", "step"] 6 (spChanged d.lay) f9 fd9)
    (M_Layout : Mk K d.lay fL) (R_Layout : FnR P w K mg base (L2.CX P w) 3 fL (spMk d.lay)) (M_add : OwnM K d.lay "__add__" ga) (R_add : FnR P w K mg base CX0 5 ga (spAdd d.lay)) (M_eq : OwnM K d.lay "__eq__" gE) (R_eq : FnR P w K mg base CX0 1 gE (spLayEq d.lay)) (hne : PySem.W.findIn K (.ref d.lay) "__ne__" = some (some (.builtin "object.__ne__"))) :
    FnG P w K mg base CX0 10 f fd ["script"] (spLaw K) := by
  have ⟨F__law_pot_of, b__law_pot_of, g__law_pot_of, G__law_pot_of⟩ := D1
  have ⟨F__law_some_kind, b__law_some_kind, g__law_some_kind, G__law_some_kind⟩ := D2
  have ⟨F__law_some_factors, b__law_some_factors, g__law_some_factors, G__law_some_factors⟩ := D3
  have ⟨F__law_counts, b__law_counts, g__law_counts, G__law_counts⟩ := D4
  have ⟨F__law_some_step, b__law_some_step, g__law_some_step, G__law_some_step⟩ := D5
  have ⟨F__law_wild, b__law_wild, g__law_wild, G__law_wild⟩ := D6
  have ⟨F__law_behind, b__law_behind, g__law_behind, G__law_behind⟩ := D7
  have ⟨F_is_step, b_is_step, g_is_step, G_is_step⟩ := D8
  have ⟨F_layout_behind, b_layout_behind, g_layout_behind, G_layout_behind⟩ := D9
  refine go_nox F sc_law (fun vs H Q E h => ?_) (fun cdv A outer s H vs Q E hr quiet h => ?_)
  · obtain ⟨a, ns, rfl, _⟩ := h
    rfl
  · obtain ⟨a, ns, rfl, hS, hl, q⟩ := h
    refine ⟨_, (pss_cons (ps_set (i := 1) sc_law.nd rfl (.inr rfl) (pe_call G__law_pot_of (hr.mono (by omega)) (by rfl) g__law_pot_of F__law_pot_of.kp b__law_pot_of .nil pass0 (pa_cons (pv 0) pa_nil)))
  (pss_cons (ps_for PassesOwn.never rfl (pi_range1 (by rfl) T.n_range (pa_cons pe_int pa_nil)) (pg_name (i := 2) sc_law.nd rfl (.inl rfl))
   (pss_cons (ps_set (i := 3) sc_law.nd rfl (.inr rfl) (pe_call G__law_some_kind (hr.mono (by omega)) (by rfl) g__law_some_kind F__law_some_kind.kp b__law_some_kind .nil pass0 (pa_cons (pv 1) pa_nil)))
  (pss_cons (ps_asg (pe_tup (pa_cons (pe_call G__law_some_factors (hr.mono (by omega)) (by rfl) g__law_some_factors F__law_some_factors.kp b__law_some_factors .nil pass0 (pa_cons (pv 1) (pa_cons pe_int (pa_cons pe_int pa_nil)))) (pa_cons (pe_call G__law_some_factors (hr.mono (by omega)) (by rfl) g__law_some_factors F__law_some_factors.kp b__law_some_factors .nil pass0 (pa_cons (pv 1) (pa_cons pe_int (pa_cons (pe_op op_pow pe_int pe_int) pa_nil)))) pa_nil))) (pg_tup rfl (pgs_cons (pg_name (i := 4) sc_law.nd rfl (.inr rfl)) (pgs_cons (pg_name (i := 5) sc_law.nd rfl (.inl rfl)) pgs_nil))))
  (pss_cons (ps_par (i := 6) (j := 7) (by rfl) sc_law.nd rfl rfl (by decide) rfl rfl (pa_cons (pe_makeI M_Layout R_Layout (hr.mono (by omega)) (by rfl) D.gLay (pa_cons (pv 4) pa_nil)) (pa_cons (pe_makeI M_Layout R_Layout (hr.mono (by omega)) (by rfl) D.gLay (pa_cons (pv 5) pa_nil)) pa_nil)) (by rfl))
  (pss_cons (ps_setLc (i := 8) (own := [("lap", 12)]) (g := gName 12) rfl sc_law.nd rfl rfl (sw_true rfl rfl rfl (by decide +kernel)) (pi_range1 (by rfl) T.n_range (pa_cons pe_int pa_nil)) (blkOk_by (own := [("lap", 12)]) (N := ["script", "pot", "turn", "kind", "factors", "more", "layout", "extra", "steps", "step", "behind", "found", "lap"]) (sc := defScope s_law) (by decide +kernel)) (fun _ _ _ _ _ => (pg_name (i := 12) sc_law.nd rfl (.inl rfl))) (fun _ _ _ _ _ => pts_nil) (fun _ _ _ _ _ => (pe_call G__law_some_step (hr.mono (by omega)) (by rfl) g__law_some_step F__law_some_step.kp b__law_some_step .nil pass0 (pa_cons (pv 1) (pa_cons (pv 3) (pa_cons (pe_call G__law_counts (hr.mono (by omega)) (by rfl) g__law_counts F__law_counts.kp b__law_counts .nil pass0 (pa_cons (pv 4) pa_nil)) pa_nil))))))
  (pss_one (ps_for PassesOwn.never rfl (pi_list (pe_op op_cat (pv 8) (pe_lst (pa_cons (pe_call G__law_wild (hr.mono (by omega)) (by rfl) g__law_wild F__law_wild.kp b__law_wild .nil pass0 (pa_cons (pv 1) pa_nil)) (pa_cons (pe_call G__law_wild (hr.mono (by omega)) (by rfl) g__law_wild F__law_wild.kp b__law_wild .nil pass0 (pa_cons (pv 1) pa_nil)) pa_nil))))) (pg_name (i := 9) sc_law.nd rfl (.inl rfl))
   (pss_cons (ps_set (i := 10) sc_law.nd rfl (.inl rfl) (pe_call G__law_behind (hr.mono (by omega)) (by rfl) g__law_behind F__law_behind.kp b__law_behind .nil pass0 (pa_cons (pv 3) (pa_cons (pe_call G__law_counts (hr.mono (by omega)) (by rfl) g__law_counts F__law_counts.kp b__law_counts .nil pass0 (pa_cons (pv 4) pa_nil)) (pa_cons (pv 9) pa_nil)))))
  (pss_cons (ps_if (pt_cmpR op_ne (pe_call G_is_step (hr.mono (by omega)) (by rfl) g_is_step F_is_step.kp b_is_step .nil pass0 (pa_cons (pv 3) (pa_cons (pv 6) (pa_cons (pv 9) pa_nil)))) (pe_cmpR op_notN (pv 10) pe_non (nomark _)) (nomark _))
   (pss_one (ps_ret pe_bl))
   pss_nil)
  (pss_cons (ps_if (PW.pt (pw_and (pt_cmpR op_notN (pv 10) pe_non (nomark _)) (pw_and1 (pt_not (pt_val (pe_call G_is_step (hr.mono (by omega)) (by rfl) g_is_step F_is_step.kp b_is_step .nil pass0 (pa_cons (pv 3) (pa_cons (pe_op (op_binO (by rfl) LG.first M_add R_add (hr.mono (by omega)) pass0) (pv 6) (pv 7)) (pa_cons (pv 9) pa_nil)))))))))
   (pss_one (ps_ret pe_bl))
   pss_nil)
  (pss_one (ps_if (pt_cmpR op_notN (pv 10) pe_non (nomark _))
   (pss_cons (ps_set (i := 11) sc_law.nd rfl (.inl rfl) (pe_call G_layout_behind (hr.mono (by omega)) (by rfl) g_layout_behind F_layout_behind.kp b_layout_behind .nil pass0 (pa_cons (pv 3) (pa_cons (pe_op (op_binO (by rfl) LG.first M_add R_add (hr.mono (by omega)) pass0) (pv 6) (pv 7)) (pa_cons (pv 9) pa_nil)))))
  (pss_one (ps_if (PW.pt (pw_or (pt_cmpR (op_neO M_eq hne LG.cm R_eq (hr.mono (by omega)) pass0) (pv 11) (pe_op (op_binO (by rfl) LG.first M_add R_add (hr.mono (by omega)) pass0) (pe_call G_layout_behind (hr.mono (by omega)) (by rfl) g_layout_behind F_layout_behind.kp b_layout_behind .nil pass0 (pa_cons (pv 3) (pa_cons (pv 6) (pa_cons (pv 9) pa_nil)))) (pv 7)) (nomark _)) (pw_or1 (pt_cmpR (op_neO M_eq hne LG.cm R_eq (hr.mono (by omega)) pass0) (pv 11) (pe_op (op_binO (by rfl) LG.first M_add R_add (hr.mono (by omega)) pass0) (pe_makeI M_Layout R_Layout (hr.mono (by omega)) (by rfl) D.gLay (pa_cons (pv 10) pa_nil)) (pv 7)) (nomark _)))))
   (pss_one (ps_ret pe_bl))
   pss_nil)))
   pss_nil))))))))))))
  (pss_one (ps_ret pe_bl)))), ?_⟩
    clear G__law_pot_of G__law_some_kind G__law_some_factors G__law_counts G__law_some_step G__law_wild G__law_behind G_is_step G_layout_behind D1 D2 D3 D4 D5 D6 D7 D8 D9 R_Layout R_add R_eq
    refine ⟨_, rfl, a, ns, rfl, hS, hl, fun p c H1 s1 np nc hP1 => ?_⟩
    clear hS s1
    refine ⟨6, rfl, by decide, by decide, for_range (n := 6) (fun i σ H => Pot H p c ∧ ∃ u2 u3 u4 u5 u6 u7 u8 u9 ua ub : Option V, σ = [some (.ref a), some (.ref p), u2, u3, u4, u5, u6, u7, u8, u9, ua, ub, none]) ⟨hP1, none, none, none, none, none, none, none, none, none, none, rfl⟩ ?_ ?_⟩
    · rintro i σ H2 hi ⟨hP2, u2, u3, u4, u5, u6, u7, u8, u9, ua, ub, rfl⟩
      clear hP1 np nc H1
      refine ⟨_, rfl, p, c, rfl, hP2, fun ka ks H3 b3 hP3 nka hka hR => ?_⟩
      obtain ⟨m, hM⟩ := right_kd hR
      refine ⟨_, rfl, ⟨p, c, 6, 5, rfl, hP3, by decide, by decide, by decide, fun lf fs H4 nlf hP4 b4 ef lenf bf => ?_⟩⟩
      refine ⟨_, rfl, _, _, rfl, rfl, ⟨by decide, by decide, by decide⟩, ⟨p, c, 9, 10 ^ 6, rfl, hP4, by decide, by decide, by decide, fun lg gs H5 nlg hP5 b5 eg leng bg => ?_⟩⟩
      have nf : lf ≠ p := (hP3.ne nlf).1.symm
      obtain ⟨xp4, ep4⟩ := hP4.p
      obtain ⟨xp3, ep3⟩ := hP3.p
      have hk3 := hka.at
      have hk5 : KindAt H5 ka ks := by
        obtain ⟨rs, ea, pr⟩ := hk3
        exact ⟨rs, rd_but2 b5 ep4 (rd_but2 b4 ep3 ea), prs_but2 b5 ep4 (prs_but2 b4 ep3 pr)⟩
      have ef5 := b5.1 _ _ ef nf
      clear hka hk3 ep4 ep3 b3 b4 b5 nlf nlg nka hP2 hP3 hP4 ef
      refine ⟨by show 2 ≤ sizeLine; decide, fun t nt => ?_⟩
      refine ⟨t, _, rfl, .inl (.inl upd_same), rfl, _, _, rfl, _, _, rfl, rfl, ?_⟩
      have s6 := same_upd (o := .tup [V.ref lf, V.ref lg]) nt
      have hP6 := hP5.same s6
      have hk6 := hk5.same s6
      have ef6 := s6 _ _ ef5
      have eg6 := s6 _ _ eg
      generalize upd H5 t (.tup [V.ref lf, V.ref lg]) = H6 at s6 hP6 hk6 ef6 eg6 ⊢
      clear hk5 ef5 eg hP5 nt s6
      have bg : ∀ n ∈ gs, 0 ≤ n ∧ n ≤ 1000000 := bg
      refine ⟨_, rfl, lf, fs, rfl, .inl ef6, by omega, fun n hn => (bf n hn).1, by have := trimN_len fs; omega, fun o1 H7 s7 no1 a1 => ?_⟩
      refine ⟨_, rfl, lg, gs, rfl, .inl (s7 _ _ eg6), by omega, fun n hn => (bg n hn).1, by have := trimN_len gs; omega, fun o2 H8 s8 no2 a2 => ?_⟩
      refine ⟨_, _, rfl, ?_⟩
      have h8 : Trn d.lay p c ka lf o1 o2 ks fs gs H8 := ⟨(hP6.same s7).same s8, (hk6.same s7).same s8, s8 _ _ (s7 _ _ ef6), nf, a1.same s8, a2⟩
      clear a1 a2 no1 no2 s7 s8 hP6 hk6 ef6 eg6 nf hR H6 H7
      have fpos : ∀ j, 0 ≤ fs.getD j 0 := getD_pos fun n hn => (bf n hn).1
      have gpos : ∀ j, 0 ≤ gs.getD j 0 := getD_pos fun n hn => (bg n hn).1
      have ctg := cts_get (fs := fs) (by omega)
      have c20 : ∀ j, 20 ≤ j → (cts fs).getD j 0 = 0 := fun j hj => by
        rw [ctg, List.getD_eq_getElem?_getD, List.getElem?_eq_none (by omega)]
        rfl
      have cb : ∀ j, 0 ≤ (cts fs).getD j 0 ∧ (cts fs).getD j 0 ≤ 1000000 := fun j => by
        rw [ctg]
        refine ⟨fpos j, ?_⟩
        rw [List.getD_eq_getElem?_getD]
        by_cases z : j < fs.length
        · rw [List.getElem?_eq_getElem z]
          have := (bf _ (List.getElem_mem z)).2
          show fs[j] ≤ 1000000
          omega
        · rw [List.getElem?_eq_none (by omega)]
          decide
      -- the steps
      refine ⟨_, rfl, by decide, by decide, fun D1 nD1 => ?_⟩
      obtain ⟨npD, ncD⟩ := h8.pot.ne nD1
      have nfD : lf ≠ D1 := ne_of_none h8.ef nD1
      refine lc_range (n := Int.toNat 3) (fun i H9 => Trn d.lay p c ka lf o1 o2 ks fs gs H9 ∧ ∃ vs, H9 D1 = some (.lst vs) ∧ vs.length = i ∧ ∀ v ∈ vs, ∃ st, StepAt H9 v st ∧ StpOk st) ⟨h8.same (same_upd nD1), [], upd_same, rfl, fun _ z => nomatch z⟩ ?_ ?_
      · rintro i H9 hi ⟨h9, vs, eD, lv, hv⟩
        refine ⟨rfl, ?_⟩
        unfold tYes
        dsimp only
        rw [if_pos rfl]
        refine ⟨_, rfl, _, rfl, _, rfl, ⟨lf, fs, rfl, h9.ef, by omega, fun r HA sA nr er => ?_⟩⟩
        have hA := h9.same sA
        refine ⟨p, c, _, r, cts fs, rfl, hA.pot, er, (h9.pot.ne nr).1.symm, cts_len fs, cb, c20, fun v st HB bB hPB hs ok => ?_⟩
        have hB := hA.but hPB bB
        have eDB := bB.1 _ _ (sA _ _ eD) (Ne.symm npD)
        have i3 : i < 3 := hi
        refine ⟨vs, eDB, small1000 (by omega), hB.upd eDB npD ncD nfD, vs ++ [v], upd_same, by rw [List.length_append, lv]; rfl, fun y hy => ?_⟩
        rcases List.mem_append.mp hy with hy | hy
        · obtain ⟨st2, hs2, ok2⟩ := hv y hy
          exact ⟨st2, ((hs2.same sA).but hA.pot bB).upd eDB, ok2⟩
        · rw [List.mem_singleton.mp hy]
          exact ⟨st, hs.upd eDB, ok⟩
      rintro H9 ⟨h9, vs, eD, lv, hv⟩
      have lv : vs.length = 3 := lv
      refine ⟨_, rfl, _, rfl, ⟨p, c, rfl, h9.pot, fun v1 t1 HA bA hPA hs1 ok1 => ⟨_, rfl, ⟨p, c, rfl, hPA, fun v2 t2 HB bB hPB hs2 ok2 => ⟨by show 2 ≤ sizeLine; decide, fun W nW => ⟨D1, W, vs, [v1, v2], rfl, rfl, ?_, upd_same, ?_, fun Z nZ => ?_⟩⟩⟩⟩⟩⟩
      · exact (same_upd nW) _ _ (bB.1 _ _ (bA.1 _ _ eD (Ne.symm npD)) (Ne.symm npD))
      · show vs.length + 2 ≤ sizeLine
        exact Nat.le_of_lt (small1000 (by omega))
      have hB := (h9.but hPA bA).but hPB bB
      have sW := same_upd (o := .lst [v1, v2]) nW
      have sZ := same_upd (o := .lst (vs ++ [v1, v2])) nZ
      have sWZ := sW.trans sZ
      have hZ := hB.same sWZ
      have eZ : (upd (upd HB W (.lst [v1, v2])) Z (.lst (vs ++ [v1, v2]))) Z = some (.lst (vs ++ [v1, v2])) := upd_same
      have allS : ∀ v ∈ vs ++ [v1, v2], ∃ st, StepAt (upd (upd HB W (.lst [v1, v2])) Z (.lst (vs ++ [v1, v2]))) v st ∧ StpOk st := by
        intro v hm
        rcases List.mem_append.mp hm with hm | hm
        · obtain ⟨st, hs, ok⟩ := hv v hm
          exact ⟨st, ((hs.but h9.pot bA).but hPA bB).same sWZ, ok⟩
        · simp only [List.mem_cons, List.not_mem_nil, or_false] at hm
          rcases hm with rfl | rfl
          · exact ⟨t1, (hs1.but hPA bB).same sWZ, ok1⟩
          · exact ⟨t2, hs2.same sWZ, ok2⟩
      generalize upd (upd HB W (.lst [v1, v2])) Z (.lst (vs ++ [v1, v2])) = HC at hZ eZ allS ⊢
      generalize vs ++ [v1, v2] = ws at eZ allS ⊢
      clear sW sZ sWZ nW nZ hB hs1 hs2 hPA hPB bA bB hv eD h9 lv h8 nD1
      refine ⟨Z, rfl, ⟨_, .inl (.inl eZ)⟩, ?_⟩
      refine for_it (walk_list (xs := ws)) (fun t σ HD => Same HC HD ∧ ∃ u9 ua ub : Option V, σ = [some (.ref a), some (.ref p), some (.int (i : Nat)), some (.ref ka), some (.ref lf), some (.ref lg), some (.ref o1), some (.ref o2), some (.ref D1), u9, ua, ub, none]) ⟨same_rfl _, _, _, _, by rw [Int.zero_add]; rfl⟩ (fun t σ HD _ h => .inl (.inl (h.1 _ _ eZ))) ?_ ?_
      · rintro t v σ HD HE ht ⟨sD, u9, ua, ub, rfl⟩ ⟨rfl, ev⟩
        obtain ⟨st, hs, ok⟩ := allS v (List.mem_of_getElem? ev)
        have hD := hZ.same sD
        have hsD := hs.same sD
        refine ⟨_, rfl, _, rfl, ⟨lf, fs, rfl, hD.ef, by omega, fun r HF sF nr er => ?_⟩⟩
        have hF := hD.same sF
        have sCF := sD.trans sF
        refine ⟨_, rfl, ⟨ka, r, v, st, ks, m, cts fs, rfl, hF.kd, hM, er, cts_len fs, fun j => (cb j).1, fun j hj => c20 j (by omega), hsD.same sF, ok.few, ok.k20, fun hn HG sG => ?_, fun hS b M HG sG nb eb lM gM => ?_⟩⟩
        · have sCG := sCF.trans sG
          have hG := hF.same sG
          have hn2 : ¬ isS ks (trimN fs) st := fun z => hn ((isS_ext (fun k => by rw [getD_trim, ctg]) st).mp z)
          refine ⟨_, rfl, _, rfl, _, rfl, ⟨ka, o1, v, st, ks, m, trimN fs, rfl, hG.kd, hM, hG.a1, hs.same sCG, ok.few, fun HH sH => ?_⟩⟩
          rw [decide_eq_false hn2]
          refine ⟨_, rfl, rfl, rfl, false, bl_of (by simp), iteF ?_⟩
          refine ⟨_, rfl, rfl, false, bl_of (by simp), iteF (iteF ?_)⟩
          exact ⟨_, rfl, rfl, false, bl_of (by simp), iteF ⟨sCG.trans sH, _, _, _, rfl⟩⟩
        · have sCG := sCF.trans sG
          have hG := hF.same sG
          have hS2 : isS ks (trimN fs) st := (isS_ext (fun k => by rw [getD_trim, ctg]) st).mpr hS
          have nfL : PySem.W.notFirst K d.lay (.ref d.lay) = true := Bool.or_eq_true_iff.mpr (.inl (beq_self_eq_true _))
          refine ⟨_, rfl, _, rfl, _, rfl, ⟨ka, o1, v, st, ks, m, trimN fs, rfl, hG.kd, hM, hG.a1, hs.same sCG, ok.few, fun HH sH => ?_⟩⟩
          rw [decide_eq_true hS2]
          refine ⟨_, rfl, rfl, rfl, false, bl_of (by simp), iteF ?_⟩
          have sCH := sCG.trans sH
          have hH := hG.same sH
          have ebH := sH _ _ eb
          have L2 := trim_trim (addL (trimN fs) (trimN gs))
          have gL : ∀ j, (trimN (addL (trimN fs) (trimN gs))).getD j 0 = fs.getD j 0 + gs.getD j 0 := fun j => by rw [getD_trim, addL_get, getD_trim, getD_trim]
          have lL : (trimN (addL (trimN fs) (trimN gs))).length ≤ 20 := by
            have h1 := trimN_len (addL (trimN fs) (trimN gs))
            have h2 := trimN_len fs
            have h3 := trimN_len gs
            rw [addL_len] at h1
            omega
          have hSL : isS ks (trimN (addL (trimN fs) (trimN gs))) st := isS_more (fun k => by rw [gL, getD_trim]; have := gpos k; omega) hS2
          obtain ⟨LL, hLL⟩ : ∃ LL, LL = trimN (addL (trimN fs) (trimN gs)) := ⟨_, rfl⟩
          rw [← hLL] at L2 gL lL hSL
          have add : ∀ {H' : Hp} {Q' : VK}, Trn d.lay p c ka lf o1 o2 ks fs gs H' → (∀ x H'', Same H' H'' → LayAt d.lay H'' x LL → Q' (.ref x) H'') → rBinO d.lay (spAdd d.lay) E0 (.ref o1) (.ref o2) H' Q' := fun h k => by
            obtain ⟨dx, rx, ho, _⟩ := id h.a1
            obtain ⟨dy, ry, ho2, _⟩ := id h.a2
            refine ⟨o1, dx, _, o2, dy, _, rfl, ho, rfl, ho2, ⟨o1, trimN fs, .ref o2, trimN gs, rfl, h.a1, .inl ⟨o2, rfl, h.a2⟩, fun x H'' z nx ax => k x H'' z ?_⟩⟩
            rw [hLL]
            exact ax
          have add2 : ∀ {H' : Hp} {Q' : VK} {g : Addr} {M2 : List Int}, Trn d.lay p c ka lf o1 o2 ks fs gs H' → LayAt d.lay H' g (trimN M2) → (∀ x H'', Same H' H'' → LayAt d.lay H'' x (trimN (addL (trimN M2) (trimN gs))) → Q' (.ref x) H'') → rBinO d.lay (spAdd d.lay) E0 (.ref g) (.ref o2) H' Q' := fun {H' Q' g M2} h ag k => by
            obtain ⟨dx, rx, ho, _⟩ := id ag
            obtain ⟨dy, ry, ho2, _⟩ := id h.a2
            exact ⟨g, dx, _, o2, dy, _, rfl, ho, rfl, ho2, ⟨g, trimN M2, .ref o2, trimN gs, rfl, ag, .inl ⟨o2, rfl, h.a2⟩, fun x H'' z nx ax => k x H'' z ax⟩⟩
          have neq : ∀ {H' : Hp} {Q' : VK} {f y : Addr} {us ws : List Int}, LayAt d.lay H' f us → LayAt d.lay H' y ws → us = ws → Q' (.bl false) H' → rNeO K d.lay (spLayEq d.lay) E0 (.ref f) (.ref y) H' Q' := fun {H' Q' f y us ws} lf' ly e z => by
            subst e
            obtain ⟨dx, rx, ho, _⟩ := id lf'
            exact ⟨f, dx, _, _, rfl, ho, lay_ty ly D LG, nfL, ⟨f, y, us, rfl, lf', ly, true, rfl, z⟩⟩
          refine ⟨_, rfl, rfl, true, bl_of (by simp), iteT ?_⟩
          refine ⟨_, rfl, _, rfl, _, rfl, add hH fun x HI sI ax => ⟨_, rfl, ⟨ka, x, v, st, ks, m, LL, rfl, (hH.same sI).kd, hM, ax, hs.same (sCH.trans sI), ok.few, fun HJ sJ => ?_⟩⟩⟩
          rw [decide_eq_true hSL]
          refine ⟨_, rfl, iteF ?_⟩
          have hJ := (hH.same sI).same sJ
          have sCJ := (sCH.trans sI).trans sJ
          have ebJ := sJ _ _ (sI _ _ ebH)
          refine ⟨_, rfl, rfl, true, bl_of (by simp), iteT ?_⟩
          refine ⟨_, rfl, _, rfl, _, rfl, add hJ fun x2 HK sK ax2 => ⟨_, rfl, ⟨ka, x2, v, st, ks, m, LL, rfl, (hJ.same sK).kd, hM, ax2, L2, lL, hs.same (sCJ.trans sK), ok.few, ok.k20, hSL, fun f1 M1 HL sL af gM1 => ?_⟩⟩⟩
          have hL := (hJ.same sK).same sL
          have sCL := (sCJ.trans sK).trans sL
          have ebL := sL _ _ (sK _ _ ebJ)
          refine ⟨_, rfl, _, rfl, _, rfl, _, rfl, ⟨ka, o1, v, st, ks, m, trimN fs, rfl, hL.kd, hM, hL.a1, trim_trim fs, by have := trimN_len fs; omega, hs.same sCL, ok.few, ok.k20, hS2, fun g1 M2 HM sM ag gM2 => ?_⟩⟩
          have hM' := hL.same sM
          have e1 : ∀ j, M1.getD j 0 = M2.getD j 0 + gs.getD j 0 := fun j => by
            rw [gM1, gM2]
            exact chF_add (fun k => by rw [gL, getD_trim]) st j
          refine ⟨_, rfl, add2 hM' ag fun y1 HN sN ay => neq ((af.same sM).same sN) ay (trim_ext fun j => ?_) ⟨_, rfl, iteF ?_⟩⟩
          · rw [addL_get, getD_trim, getD_trim, e1]
          have hN := hM'.same sN
          have ebN := sN _ _ (sM _ _ ebL)
          have m40 : (trimN M).length ≤ 41 := trim_short fun j hj => by
            rw [gM]
            exact chF_zero hM ok.k20 (by omega) (c20 j (by omega))
          have pM : ∀ n ∈ M, 0 ≤ n := fun n hn => by
            obtain ⟨j, hj, rfl⟩ := List.getElem_of_mem hn
            have h1 := chF_pos hM (fun j => (cb j).1) hS j
            rw [← gM, List.getD_eq_getElem?_getD, List.getElem?_eq_getElem hj] at h1
            exact h1
          refine ⟨_, rfl, _, rfl, b, M, rfl, .inl ebN, by omega, pM, m40, fun z1 HO sO nz az => ?_⟩
          have hO := hN.same sO
          refine ⟨_, rfl, add2 hO az fun y2 HQ sQ ay2 => neq ((((af.same sM).same sN).same sO).same sQ) ay2 (trim_ext fun j => ?_) ⟨_, rfl, iteF ?_⟩⟩
          · rw [addL_get, getD_trim, getD_trim, e1, gM2, gM]
            exact congrArg (· + _) (chF_ext (fun k => by rw [getD_trim, ctg]) st j)
          exact ⟨(((sCL.trans sM).trans sN).trans sO).trans sQ, _, _, _, rfl⟩
      · rintro σ HD ⟨sD, u9, ua, ub, rfl⟩
        exact ⟨hZ.pot.same sD, _, _, _, _, _, _, _, _, _, _, rfl⟩
    · rintro σ H2 ⟨hP2, u2, u3, u4, u5, u6, u7, u8, u9, ua, ub, rfl⟩
      exact q H2
end
end My

namespace My
open PySem PySem.Spec PyProof.Rows L2
/-! ### the facts of the text -/
abbrev mroVE (C LE : Addr) : List Value := [.ref C, .ref LE, .type "ValueError", .type "Exception", .type "BaseException", .type "object"]
/-- what stands of each of the sixteen classes -/
structure CK (K : PySem.W.Frag) (C LE : Addr) : Prop where
  m : ∃ cd, PySem.W.clsIn K C = some cd ∧ cd.mro = mroVE C LE
  t : PySem.W.typeIn K (.ref C) = some (.type "type")
  k : PySem.W.keepIn K (.ref C) = true
  hg : PySem.W.findIn K (.ref C) "__getattribute__" = some (some (.builtin "BaseException.__getattribute__"))
  hk : PySem.W.findIn K (.ref C) "__getattr__" = some none
  hd : PySem.W.hasDictIn K C = true
  ha : PySem.W.findIn K (.ref C) "__class__" = some (some (.builtin "object.__class__"))
theorem ck_mk {K : PySem.W.Frag} {C LE : Addr} {cd : ClassData} (m : PySem.W.clsIn K C = some cd) (r : cd.mro = mroVE C LE) (t : PySem.W.typeIn K (.ref C) = some (.type "type")) (k : PySem.W.keepIn K (.ref C) = true)
    (hg : PySem.W.findIn K (.ref C) "__getattribute__" = some (some (.builtin "BaseException.__getattribute__"))) (hk : PySem.W.findIn K (.ref C) "__getattr__" = some none) (hd : PySem.W.hasDictIn K C = true) (ha : PySem.W.findIn K (.ref C) "__class__" = some (some (.builtin "object.__class__"))) : CK K C LE := ⟨⟨cd, m, r⟩, t, k, hg, hk, hd, ha⟩
theorem some_cls {K : PySem.W.Frag} {C : Addr} {cd : ClassData} (m : PySem.W.clsIn K C = some cd) : ∃ cd, PySem.W.clsIn K C = some cd := ⟨cd, m⟩
theorem CK.mro {K : PySem.W.Frag} {C LE : Addr} (h : CK K C LE) (v : Value) : PySem.W.mroIn K C v = some ((mroVE C LE).contains v) := by
  obtain ⟨cd, e, r⟩ := h.m
  unfold PySem.W.mroIn
  rw [e, Option.bind_some, r]
  rfl
theorem CK.exc {K : PySem.W.Frag} {C LE : Addr} (h : CK K C LE) (hn : PySem.W.specialIn K (.builtin "object.__class__") "__get__" = some (some (.builtin "getset_descriptor.__get__"))) (ht : PySem.W.takesIn K (.builtin "object.__class__") = some true) : ExcC K C :=
  ⟨h.hg, h.hk, (h.mro _).trans (by rw [show (mroVE C LE).contains (.type "BaseException") = true by simp]), h.hd, h.ha, hn, ht, (h.mro _).trans (by rw [show (mroVE C LE).contains (.type "object") = true by simp])⟩
theorem exm_to {K : PySem.W.Frag} {C D LE : Addr} (hC : CK K C LE) (hD : CK K D LE) : PySem.W.exmOne K (.ref C) (.ref D) = some ((mroVE C LE).contains (.ref D)) := by
  obtain ⟨cd, e, r⟩ := hD.m
  have b1 : (PySem.W.subIn K (.ref D) (.type "BaseException") == some true) = true := by
    rw [show PySem.W.subIn K (.ref D) (.type "BaseException") = PySem.W.mroIn K D (.type "BaseException") from rfl, hD.mro]
    simp
  have b2 : ((PySem.W.clsIn K D).isSome && PySem.W.typeIn K (.ref D) == some (.type "type")) = true := by
    rw [e, hD.t]
    exact (show (true && (some (Value.type "type") == some (Value.type "type"))) = true by decide +kernel)
  show (if (PySem.W.subIn K (.ref D) (.type "BaseException") == some true) = true then (if ((PySem.W.clsIn K D).isSome && PySem.W.typeIn K (.ref D) == some (.type "type")) = true then PySem.W.subIn K (.ref C) (.ref D) else none) else none) = _
  rw [if_pos b1, if_pos b2]
  exact hC.mro _
theorem CK.xf {K : PySem.W.Frag} {C LE : Addr} (h : CK K C LE) : XfC K C := ⟨h.hg, h.hk, (h.mro _).trans (by rw [show (mroVE C LE).contains (.type "BaseException") = true by simp]), h.hd⟩
section
variable {P : Program} {w : World} {K : PySem.W.Frag} {mg : Str → Option Value} {base : Heap}
theorem sup_mk {h : Heap} {x qual : Str} {st : Stmt} {C LE fI cc cda : Addr} {oc doc pm ct : Value} {od an : Option Addr} {osl : Array (Option Value)} {nm q : Str} {N : Addr} {bs bm : List Value} {sn : List Str} {sub : List Value} {ab : Bool} {col : Option Bool} {dd : Option Addr} {k0 k1 k2 k3 k5 : Option Value}
    {ccl : Value} {cdd : Option Addr} {vs : Array Value} {ccs : Array (Option Value)} {file : Str} {tf : Tok} {cl : Value} {cld : Option Addr} {csl : Array (Option Value)} (X : K.In h) (G : h.Ns mainGlobals mg) (c : CK K C LE)
    (gC : PySem.W.nsIn K mainGlobals x = some (some (.ref C))) (lC : K.lookup C = some (excClassObj nm q C N bs bm true sn sub ab col dd k0 k1 k2 k3 k5 "ValueError.__new__")) (rv : PySem.HandSPX.refsVE bm = true)
    (sa : PySem.W.findIn K (.ref C) "__setattr__" = some (some (.builtin "object.__setattr__"))) (iC : PySem.W.findIn K (.ref C) "__init__" = some (some (.ref fI))) (tI : PySem.W.typeIn K (.ref fI) = some (.type "function"))
    (lI : K.lookup fI = some ⟨oc, od, .func (PySem.W.ksFn "__init__" qual (defArgs st) (defBody st) (defScope st) .none .none doc pm an (.ref cda) ct cc), osl⟩) (cdq : PySem.W.codeIn K (.ref cda) qual = true) (lc : K.lookup cda = some ⟨ccl, cdd, .fields vs, ccs⟩) (hv : vs[2]? = some (.str file tf)) (hf : ((P.main.file : Str) == file) = true)
    (lcc : K.lookup cc = some ⟨cl, cld, .cell (some (.ref C)), csl⟩) (noS : PySem.W.nsIn K mainGlobals "super" = some none) (anyC : PySem.W.nsIn K cStatics "thirdparty.any" = some none) (supI : PySem.W.ks_superIn K C C "__init__" = some (some (.builtin "ValueError.__init__"))) (noTop : (P.main.scope.names.lookup ("super" : Str)).isSome = false) :
    SupCls P K mg x qual st C fI cc cda (PySem.W.ksFn "__init__" qual (defArgs st) (defBody st) (defScope st) .none .none doc pm an (.ref cda) ct cc) where
  gC := PySem.W.mg_of X G gC
  ox := ⟨⟨nm, q, N, bs, bm, sn, sub, ab, col, dd, k0, k1, k2, k3, k5, lC, rv⟩, sa, (c.mro _).trans (by rw [show (mroVE C LE).contains (.type "BaseException") = true by simp]), c.t, c.k⟩
  iC := iC
  tI := tI
  fn := ⟨oc, od, doc, pm, an, ct, osl, rfl, lI⟩
  cdq := cdq
  code := ⟨ccl, cdd, vs, ccs, file, tf, lc, hv, hf⟩
  cell := ⟨cl, cld, csl, lcc⟩
  sub := (c.mro _).trans (by rw [show (mroVE C LE).contains (.ref C) = true by simp])
  noS := PySem.W.mg_none_of X G noS
  anyC := anyC
  supI := supI
  subV := (c.mro _).trans (by rw [show (mroVE C LE).contains (.type "ValueError") = true by simp])
  noTop := noTop
theorem plain_mk {h : Heap} {x : Str} {C LE : Addr} (X : K.In h) (G : h.Ns mainGlobals mg) (c : CK K C LE) (gC : PySem.W.nsIn K mainGlobals x = some (some (.ref C))) (q : PySem.W.excIn K C [.type "ValueError", .type "Exception", .type "BaseException", .type "object"] "ValueError.__new__" = true) : PlainCls K mg x C := ⟨PySem.W.mg_of X G gC, q, c.k⟩
/-- a def as the top has written it -/
structure DefK (K : PySem.W.Frag) (mg : Str → Option Value) (x : Str) (st : Stmt) (f : Addr) (fd : FuncData) : Prop where
  g : mg x = some (.ref f)
  F : Fun K x x st f fd
theorem def_mk {h : Heap} {x : Str} {st : Stmt} {f : Addr} {oc : Value} {od an : Option Addr} {osl : Array (Option Value)} {kV doc pm cdv ct : Value} (X : K.In h) (G : h.Ns mainGlobals mg) (g : PySem.W.nsIn K mainGlobals x = some (some (.ref f)))
    (l : K.lookup f = some ⟨oc, od, .func (PySem.W.fnOf x x (defArgs st) (defBody st) (defScope st) .none kV doc pm an cdv ct), osl⟩) (c : PySem.W.codeIn K cdv x = true) (k : PySem.W.keepIn K (.ref f) = true) : DefK K mg x st f (PySem.W.fnOf x x (defArgs st) (defBody st) (defScope st) .none kV doc pm an cdv ct) := ⟨PySem.W.mg_of X G g, fun_mk l c k⟩
structure MethK (K : PySem.W.Frag) (C : Addr) (x qual : Str) (st : Stmt) (f : Addr) (fd : FuncData) : Prop where
  i : PySem.W.findIn K (.ref C) x = some (some (.ref f))
  fn : PySem.W.isFn K (.ref f) = true
  F : Fun K x qual st f fd
theorem meth_mk {x qual : Str} {st : Stmt} {C f : Addr} {oc : Value} {od an : Option Addr} {osl : Array (Option Value)} {kV doc pm cdv ct : Value} (i : PySem.W.findIn K (.ref C) x = some (some (.ref f))) (n : PySem.W.isFn K (.ref f) = true)
    (l : K.lookup f = some ⟨oc, od, .func (PySem.W.fnOf x qual (defArgs st) (defBody st) (defScope st) .none kV doc pm an cdv ct), osl⟩) (c : PySem.W.codeIn K cdv qual = true) (k : PySem.W.keepIn K (.ref f) = true) : MethK K C x qual st f (PySem.W.fnOf x qual (defArgs st) (defBody st) (defScope st) .none kV doc pm an cdv ct) := ⟨i, n, fun_mk l c k⟩
structure MethO (K : PySem.W.Frag) (C : Addr) (x qual : Str) (st : Stmt) (f : Addr) (fd : FuncData) : Prop where
  M : OwnM K C x f
  F : Fun K x qual st f fd
theorem metho_mk {x qual : Str} {st : Stmt} {C f : Addr} {oc : Value} {od an : Option Addr} {osl : Array (Option Value)} {kV doc pm cdv ct : Value} (i : PySem.W.findIn K (.ref C) x = some (some (.ref f))) (n : PySem.W.isFn K (.ref f) = true) (fi : PySem.W.fnIn K f = true)
    (l : K.lookup f = some ⟨oc, od, .func (PySem.W.fnOf x qual (defArgs st) (defBody st) (defScope st) .none kV doc pm an cdv ct), osl⟩) (c : PySem.W.codeIn K cdv qual = true) (k : PySem.W.keepIn K (.ref f) = true) : MethO K C x qual st f (PySem.W.fnOf x qual (defArgs st) (defBody st) (defScope st) .none kV doc pm an cdv ct) := ⟨⟨i, n, fi, k⟩, fun_mk l c k⟩
structure PropK (K : PySem.W.Frag) (C : Addr) (x qual : Str) (st : Stmt) (p f : Addr) (fd : FuncData) : Prop where
  M : PropOf K C x p f
  F : Fun K x qual st f fd
theorem propk_mk {x qual : Str} {st : Stmt} {C p f : Addr} {rest : List Value} {oc : Value} {od an : Option Addr} {osl : Array (Option Value)} {kV doc pm cdv ct : Value} (i : PySem.W.findIn K (.ref C) x = some (some (.ref p))) (g : PySem.W.specialIn K (.ref p) "__get__" = some (some (.builtin "property.__get__"))) (t : PySem.W.takesIn K (.ref p) = some true) (r : PySem.W.recIn K p "property" = some (.ref f :: rest))
    (l : K.lookup f = some ⟨oc, od, .func (PySem.W.fnOf x qual (defArgs st) (defBody st) (defScope st) .none kV doc pm an cdv ct), osl⟩) (c : PySem.W.codeIn K cdv qual = true) (k : PySem.W.keepIn K (.ref f) = true) : PropK K C x qual st p f (PySem.W.fnOf x qual (defArgs st) (defBody st) (defScope st) .none kV doc pm an cdv ct) := ⟨⟨i, g, t, ⟨rest, r⟩⟩, fun_mk l c k⟩
structure StatK (K : PySem.W.Frag) (C : Addr) (x qual : Str) (st : Stmt) (p f : Addr) (fd : FuncData) : Prop where
  M : SMet K C (.type "type") x p f
  F : Fun K x qual st f fd
theorem statk_mk {x qual : Str} {st : Stmt} {C p f : Addr} {rest : List Value} {oc : Value} {od an : Option Addr} {osl : Array (Option Value)} {kV doc pm cdv ct : Value} (i : PySem.W.findCls K (.ref C) (.type "type") x = some (.get (.builtin "staticmethod.__get__") (.ref p) .none (.ref C))) (r : PySem.W.recIn K p "staticmethod" = some (.ref f :: rest))
    (l : K.lookup f = some ⟨oc, od, .func (PySem.W.fnOf x qual (defArgs st) (defBody st) (defScope st) .none kV doc pm an cdv ct), osl⟩) (c : PySem.W.codeIn K cdv qual = true) (k : PySem.W.keepIn K (.ref f) = true) : StatK K C x qual st p f (PySem.W.fnOf x qual (defArgs st) (defBody st) (defScope st) .none kV doc pm an cdv ct) := ⟨⟨i, ⟨rest, r⟩, k⟩, fun_mk l c k⟩
theorem kit_self {K : PySem.W.Frag} (C : Addr) : PySem.W.kitOne K (.ref C) (.ref C) = some true := by
  unfold PySem.W.kitOne
  rw [if_pos (by simp)]
theorem kit_int_own {K : PySem.W.Frag} {C : Addr} {T : String} (c : PySem.W.isClsIn K C = true) (t : PySem.W.typeIn K (.ref C) = some (.type "type")) (s : PySem.W.subIn K (.type T) (.ref C) = some false) : PySem.W.kitOne K (.type T) (.ref C) = some false := by
  unfold PySem.W.kitOne
  rw [if_neg (by simp)]
  show (if ((PySem.W.clsIn K C).isSome && PySem.W.typeIn K (.ref C) == some (.type "type")) = true then PySem.W.subIn K (.type T) (.ref C) else none) = _
  rw [if_pos (by rw [t, show (PySem.W.clsIn K C).isSome = true from c]; decide +kernel)]
  exact s
theorem all_mk {h : Heap} {C_TooMany fI cc cda C_No C_Lay LE f_Layoutinit f_law_kneaded f_law_pot_of f_law_below f_law_pick f_is_integer f_polynomial f_trimmed f_factor_at f_added f_are_factors f_is_from_zero f_factors_beside f_has_form f_is_step f_changed f_layout_behind f_law_some_names f_law_some_kind f_law_some_factors f_law_counts f_law_is_form f_law_behind f_law_some_step f_law_wild f_law fm_getitem fm_add fm_eq : Addr} {fd_TooMany fd_Layoutinit fd_law_kneaded fd_law_pot_of fd_law_below fd_law_pick fd_is_integer fd_polynomial fd_trimmed fd_factor_at fd_added fd_are_factors fd_is_from_zero fd_factors_beside fd_has_form fd_is_step fd_changed fd_layout_behind fd_law_some_names fd_law_some_kind fd_law_some_factors fd_law_counts fd_law_is_form fd_law_behind fd_law_some_step fd_law_wild fd_law fdm_getitem fdm_add fdm_eq : FuncData} {tD : Tok} {fa : Addr} {g_radd : Addr} {fo ro : Option Value} {C_len : Addr} {tP t_op t_cl t_mv t_tu : Tok} (X : K.In h) (G : h.Ns mainGlobals mg) (hfa : mg "law" = some (.ref fa))
    (k_TooMany : CK K C_TooMany LE) (k_No : CK K C_No LE) (s_TooMany : CK K C_TooMany LE → SupCls P K mg "TooMany" "TooMany.__init__" i_TooMany C_TooMany fI cc cda fd_TooMany) (no_limit : PySem.W.findIn K (.ref C_TooMany) "limit" = some none)
    (p_No : CK K C_No LE → PlainCls K mg "NoLayout" C_No) (nd : C_No ≠ C_TooMany ∧ C_No ≠ LE)
    (gLay : PySem.W.nsIn K mainGlobals "Layout" = some (some (.ref C_Lay))) (pg : PySem.W.plainGet K C_Lay Str.empty = true) (hd : PySem.W.hasDictIn K C_Lay = true) (po : PySem.W.plainOver K C_Lay = true) (sa : PySem.W.findIn K (.ref C_Lay) "__setattr__" = some (some (.builtin "object.__setattr__")))
    (naF : PySem.W.findIn K (.ref C_Lay) "factors" = some none) (naD : PySem.W.findIn K (.ref C_Lay) "degree" = some none) (mk : PySem.W.makesIn K C_Lay = true) (kp : PySem.W.keepIn K (.ref C_Lay) = true)
    (m_init : MethK K C_Lay "__init__" "Layout.__init__" s_Layoutinit f_Layoutinit fd_Layoutinit) (b_Layoutinit : Binds K fd_Layoutinit ["self", "factors"] [])
    (g_MOST : PySem.W.nsIn K mainGlobals "MOST_DEGREE" = some (some (.int 40 tD)))
    (tyC : PySem.W.typeIn K (.ref C_Lay) = some (.type "type"))
    (clsC : PySem.W.isClsIn K C_Lay = true)
    (ca : PySem.W.findIn K (.ref C_Lay) "__class__" = some (some (.builtin "object.__class__")))
    (cn : PySem.W.specialIn K (.builtin "object.__class__") "__get__" = some (some (.builtin "getset_descriptor.__get__")))
    (ct : PySem.W.takesIn K (.builtin "object.__class__") = some true)
    (cm : PySem.W.mroIn K C_Lay (.type "object") = some true)
    (rdI : PySem.W.readsIn K C_Lay (.type "type") = true)
    (rdG : PySem.W.specialIn K (.ref C_Lay) "__getattribute__" = some (some (.builtin "type.__getattribute__")))
    (fst : PySem.W.selfFirst K C_Lay = true)
    (raR : PySem.W.findIn K (.ref C_Lay) "__radd__" = some (some (.ref g_radd)))
    (raF : PySem.W.findIn K (.type "int") "__add__" = some fo)
    (raO : PySem.W.findIn K (.type "int") "__radd__" = some ro)
    (raS : PySem.W.subIn K (.type "int") (.ref C_Lay) = some false)
    (neC : PySem.W.findIn K (.ref C_Lay) "__ne__" = some (some (.builtin "object.__ne__")))
    (g_MOST_PARTS : PySem.W.nsIn K mainGlobals "MOST_PARTS" = some (some (.int 4 tP)))
    (g_LENG : PySem.W.nsIn K mainGlobals "LENGTHS" = some (some (.ref C_len)))
    (tabL : He.dicW K C_len = some (He.keysIn w.params ["open", "close", "move", "turn"]))
    (l_op : PySem.W.nsIn K C_len "open" = some (some (.int 3 t_op)))
    (l_cl : PySem.W.nsIn K C_len "close" = some (some (.int 3 t_cl)))
    (l_mv : PySem.W.nsIn K C_len "move" = some (some (.int 4 t_mv)))
    (l_tu : PySem.W.nsIn K C_len "turn" = some (some (.int 4 t_tu)))
    (m_getitem : MethO K C_Lay "__getitem__" "Layout.__getitem__" s_Layoutgetitem fm_getitem fdm_getitem) (bm_getitem : Binds K fdm_getitem ["self", "at"] [])
    (m_add : MethO K C_Lay "__add__" "Layout.__add__" s_Layoutadd fm_add fdm_add) (bm_add : Binds K fdm_add ["self", "other"] [])
    (m_eq : MethO K C_Lay "__eq__" "Layout.__eq__" s_Layouteq fm_eq fdm_eq) (bm_eq : Binds K fdm_eq ["self", "other"] [])
    (d_law_kneaded : DefK K mg "_law_kneaded" s_law_kneaded f_law_kneaded fd_law_kneaded)
    (d_law_pot_of : DefK K mg "_law_pot_of" s_law_pot_of f_law_pot_of fd_law_pot_of)
    (d_law_below : DefK K mg "_law_below" s_law_below f_law_below fd_law_below)
    (d_law_pick : DefK K mg "_law_pick" s_law_pick f_law_pick fd_law_pick)
    (d_is_integer : DefK K mg "is_integer" s_is_integer f_is_integer fd_is_integer)
    (d_polynomial : DefK K mg "polynomial" Kn.s_polynomial f_polynomial fd_polynomial)
    (d_trimmed : DefK K mg "trimmed" s_trimmed f_trimmed fd_trimmed)
    (d_factor_at : DefK K mg "factor_at" s_factor_at f_factor_at fd_factor_at)
    (d_added : DefK K mg "added" s_added f_added fd_added)
    (d_are_factors : DefK K mg "are_factors" s_are_factors f_are_factors fd_are_factors)
    (d_is_from_zero : DefK K mg "is_from_zero" s_is_from_zero f_is_from_zero fd_is_from_zero)
    (d_factors_beside : DefK K mg "factors_beside" s_factors_beside f_factors_beside fd_factors_beside)
    (d_has_form : DefK K mg "has_form" s_has_form f_has_form fd_has_form)
    (d_is_step : DefK K mg "is_step" s_is_step f_is_step fd_is_step)
    (d_changed : DefK K mg "changed" s_changed f_changed fd_changed)
    (d_layout_behind : DefK K mg "layout_behind" s_layout_behind f_layout_behind fd_layout_behind)
    (d_law_some_names : DefK K mg "_law_some_names" Kn.s_law_some_names f_law_some_names fd_law_some_names)
    (d_law_some_kind : DefK K mg "_law_some_kind" Kn.s_law_some_kind f_law_some_kind fd_law_some_kind)
    (d_law_some_factors : DefK K mg "_law_some_factors" s_law_some_factors f_law_some_factors fd_law_some_factors)
    (d_law_counts : DefK K mg "_law_counts" s_law_counts f_law_counts fd_law_counts)
    (d_law_is_form : DefK K mg "_law_is_form" s_law_is_form f_law_is_form fd_law_is_form)
    (d_law_behind : DefK K mg "_law_behind" s_law_behind f_law_behind fd_law_behind)
    (d_law_some_step : DefK K mg "_law_some_step" s_law_some_step f_law_some_step fd_law_some_step)
    (d_law_wild : DefK K mg "_law_wild" s_law_wild f_law_wild fd_law_wild)
    (d_law : DefK K mg "law" s_law f_law fd_law)
    (b_law_kneaded : Binds K fd_law_kneaded ["seed", "lap"] [])
    (b_law_pot_of : Binds K fd_law_pot_of ["script"] [])
    (b_law_below : Binds K fd_law_below ["pot", "bound"] [])
    (b_law_pick : Binds K fd_law_pick ["pot", "items"] [])
    (b_is_integer : Binds K fd_is_integer ["thing"] [])
    (b_polynomial : Binds K fd_polynomial ["kind"] [])
    (b_trimmed : Binds K fd_trimmed ["factors"] [])
    (b_factor_at : Binds K fd_factor_at ["factors", "k"] [])
    (b_added : Binds K fd_added ["one", "other"] [])
    (b_are_factors : Binds K fd_are_factors ["thing"] [])
    (b_is_from_zero : Binds K fd_is_from_zero ["thing"] [])
    (b_factors_beside : Binds K fd_factors_beside ["thing"] [])
    (b_has_form : Binds K fd_has_form ["thing"] [])
    (b_is_step : Binds K fd_is_step ["kind", "layout", "thing"] [])
    (b_changed : Binds K fd_changed ["kind", "layout", "step"] [])
    (b_layout_behind : Binds K fd_layout_behind ["kind", "layout", "step"] [])
    (b_law_some_names : Binds K fd_law_some_names ["pot", "many"] [])
    (b_law_some_kind : Binds K fd_law_some_kind ["pot"] [])
    (b_law_some_factors : Binds K fd_law_some_factors ["pot", "many", "most"] [])
    (b_law_counts : Binds K fd_law_counts ["factors"] [])
    (b_law_is_form : Binds K fd_law_is_form ["step"] [])
    (b_law_behind : Binds K fd_law_behind ["kind", "counts", "step"] [])
    (b_law_some_step : Binds K fd_law_some_step ["pot", "kind", "counts"] [])
    (b_law_wild : Binds K fd_law_wild ["pot"] [])
    (b_law : Binds K fd_law ["script"] [])
    (n_int : PySem.W.nsIn K mainGlobals "int" = some none)
    (n_range : PySem.W.nsIn K mainGlobals "range" = some none)
    (n_abs : PySem.W.nsIn K mainGlobals "abs" = some none)
    (n_enumerate : PySem.W.nsIn K mainGlobals "enumerate" = some none)
    (n_len : PySem.W.nsIn K mainGlobals "len" = some none)
    (n_isinstance : PySem.W.nsIn K mainGlobals "isinstance" = some none)
    (n_bool : PySem.W.nsIn K mainGlobals "bool" = some none)
    (n_list : PySem.W.nsIn K mainGlobals "list" = some none)
    (n_tuple : PySem.W.nsIn K mainGlobals "tuple" = some none)
    (n_all : PySem.W.nsIn K mainGlobals "all" = some none)
    (n_sum : PySem.W.nsIn K mainGlobals "sum" = some none)
    (n_max : PySem.W.nsIn K mainGlobals "max" = some none)
    (n_repr : PySem.W.nsIn K mainGlobals "repr" = some none)
    (n_zip : PySem.W.nsIn K mainGlobals "zip" = some none)
    (n_str : PySem.W.nsIn K mainGlobals "str" = some none)
    (n_min : PySem.W.nsIn K mainGlobals "min" = some none)
    (bindL : ∀ (s : Shared) (v : Value), BindsTo s fd_law ⟨[v], []⟩ [("script", v)]) :
    ∃ fd : FuncData, (∀ (s : Shared) (v : Value), BindsTo s fd ⟨[v], []⟩ [("script", v)]) ∧ ∀ base : Heap, K.In base → base.Ns mainGlobals mg → FnG P w K mg base CX0 10 fa fd ["script"] (spLaw K) := by
  have e := hfa.symm.trans d_law.g
  cases e
  refine ⟨fd_law, bindL, fun base _ _ => ?_⟩
  have TD : TxtD mg := { n_int := PySem.W.mg_none_of X G n_int, n_range := PySem.W.mg_none_of X G n_range, n_abs := PySem.W.mg_none_of X G n_abs, n_enumerate := PySem.W.mg_none_of X G n_enumerate, n_len := PySem.W.mg_none_of X G n_len }
  have TF : TxtF mg := { n_isinstance := PySem.W.mg_none_of X G n_isinstance, n_int := PySem.W.mg_none_of X G n_int, n_bool := PySem.W.mg_none_of X G n_bool, n_len := PySem.W.mg_none_of X G n_len, n_list := PySem.W.mg_none_of X G n_list, n_tuple := PySem.W.mg_none_of X G n_tuple, n_all := PySem.W.mg_none_of X G n_all }
  have TL : TxtL mg := { n_len := PySem.W.mg_none_of X G n_len, n_bool := PySem.W.mg_none_of X G n_bool, n_sum := PySem.W.mg_none_of X G n_sum, n_max := PySem.W.mg_none_of X G n_max, n_range := PySem.W.mg_none_of X G n_range, n_isinstance := PySem.W.mg_none_of X G n_isinstance, n_list := PySem.W.mg_none_of X G n_list, n_tuple := PySem.W.mg_none_of X G n_tuple, n_repr := PySem.W.mg_none_of X G n_repr }
  have TM : TxtM mg := { n_range := PySem.W.mg_none_of X G n_range }
  have TMK : Kn.TxtM mg := { n_list := PySem.W.mg_none_of X G n_list, n_range := PySem.W.mg_none_of X G n_range, n_len := PySem.W.mg_none_of X G n_len, n_tuple := PySem.W.mg_none_of X G n_tuple, n_zip := PySem.W.mg_none_of X G n_zip }
  have TU : TxtU mg := { n_isinstance := PySem.W.mg_none_of X G n_isinstance, n_tuple := PySem.W.mg_none_of X G n_tuple, n_len := PySem.W.mg_none_of X G n_len, n_str := PySem.W.mg_none_of X G n_str, n_int := PySem.W.mg_none_of X G n_int, n_bool := PySem.W.mg_none_of X G n_bool, n_list := PySem.W.mg_none_of X G n_list, n_min := PySem.W.mg_none_of X G n_min, n_max := PySem.W.mg_none_of X G n_max, n_enumerate := PySem.W.mg_none_of X G n_enumerate, n_range := PySem.W.mg_none_of X G n_range }
  have TY : TxtY mg tD := { n_len := PySem.W.mg_none_of X G n_len, g_MOST_DEGREE := PySem.W.mg_of X G g_MOST }
  let d : LayD := { too := ⟨C_TooMany, fI, cc, cda, fd_TooMany⟩, no := C_No, lay := C_Lay }
  have n1 : ∀ A B : Addr, A ≠ B → (Value.ref A == Value.ref B) = false := fun A B z => beq_eq_false_iff_ne.mpr fun q => z (by cases q; rfl)
  have D : LayF P K mg d := {
    too := s_TooMany k_TooMany
    noL := no_limit
    no := p_No k_No
    noB := (k_No.mro _).trans (by rw [show (mroVE C_No LE).contains (.type "BaseException") = true by simp])
    noT := k_No.t
    lay := ⟨pg, hd, po, sa⟩
    gLay := PySem.W.mg_of X G gLay
    exNN := (exm_to k_No k_No).trans (by rw [show (mroVE C_No LE).contains (.ref C_No) = true by simp])
    exTN := (exm_to k_TooMany k_No).trans (by rw [show (mroVE C_TooMany LE).contains (.ref C_No) = false by simp [mroVE, nd.1, nd.2]])
    exTT := (exm_to k_TooMany k_TooMany).trans (by rw [show (mroVE C_TooMany LE).contains (.ref C_TooMany) = true by simp])
    xf := k_TooMany.xf
    naF := naF
    naD := naD }
  have M : Mk K d.lay f_Layoutinit := ⟨mk, m_init.i, m_init.fn, kp⟩
  have TP : Kn.TxtP mg tP := { n_range := PySem.W.mg_none_of X G n_range, n_tuple := PySem.W.mg_none_of X G n_tuple, g_MOST_PARTS := PySem.W.mg_of X G g_MOST_PARTS }
  have TH : TxtH mg C_len := { n_isinstance := PySem.W.mg_none_of X G n_isinstance, n_tuple := PySem.W.mg_none_of X G n_tuple, n_len := PySem.W.mg_none_of X G n_len, n_str := PySem.W.mg_none_of X G n_str, n_all := PySem.W.mg_none_of X G n_all, n_enumerate := PySem.W.mg_none_of X G n_enumerate, n_max := PySem.W.mg_none_of X G n_max, n_range := PySem.W.mg_none_of X G n_range, g_LENGTHS := PySem.W.mg_of X G g_LENG }
  have LT : LenT K w C_len := ⟨He.dicW_ok tabL, ⟨_, l_op⟩, ⟨_, l_cl⟩, ⟨_, l_mv⟩, ⟨_, l_tu⟩⟩
  have G_law_pot_of := ok_pot_of (P := P) (w := w) (base := base) (k := 0) d_law_pot_of.F TD
  have G_law_below := ok_below (P := P) (w := w) (base := base) (k := 0) d_law_below.F TD d_law_kneaded.F b_law_kneaded d_law_kneaded.g
  have G_law_pick := ok_pick (P := P) (w := w) (base := base) (k := 0) d_law_pick.F TD d_law_below.F b_law_below d_law_below.g G_law_below
  have G_is_integer := ok_is_integer (P := P) (w := w) (base := base) (k := 0) d_is_integer.F TF
  have G_trimmed := ok_trimmed (P := P) (w := w) (base := base) (k := 0) d_trimmed.F TF
  have G_are_factors := ok_are_factors (P := P) (w := w) (base := base) (k := 0) d_are_factors.F TF d_is_integer.F b_is_integer d_is_integer.g G_is_integer
  have G_polynomial := Kn.ok_polynomial (P := P) (w := w) (base := base) (k := 0) d_polynomial.F TP
  have GI := ok_Layoutinit (P := P) (w := w) (base := base) (k := 0) m_init.F TY D d_are_factors.F b_are_factors d_are_factors.g G_are_factors d_trimmed.F b_trimmed d_trimmed.g G_trimmed
  have RL := mk_of_lay GI b_Layoutinit
  have LG : LayG K d.lay (.type "type") := ⟨kit_self _, kit_int_own clsC tyC raS, ca, cn, ct, cm, ⟨rdI, rdG⟩, fst, ⟨⟨_, raR, .inr ⟨_, rfl⟩⟩, ⟨_, raF⟩, ⟨_, raO⟩, raS⟩⟩
  have R_getitem : FnR P w K mg base CX0 _ _ _ := (ok_getitem (P := P) (w := w) (base := base) (k := 0) m_getitem.F D).raw bm_getitem .nil
  simp only [List.append_nil] at R_getitem
  have G_factor_at := ok_factor_at (P := P) (w := w) (base := base) (k := 0) d_factor_at.F TL
  have G_added := ok_added (P := P) (w := w) (base := base) (k := 0) d_added.F TL d_trimmed.F b_trimmed d_trimmed.g G_trimmed d_factor_at.F b_factor_at d_factor_at.g G_factor_at
  have G_is_from_zero := ok_is_from_zero (P := P) (w := w) (base := base) (k := 0) d_is_from_zero.F d_is_integer.F b_is_integer d_is_integer.g G_is_integer
  have G_factors_beside := ok_factors_beside (P := P) (w := w) (base := base) (k := 0) d_factors_beside.F TL D LG d_is_from_zero.F b_is_from_zero d_is_from_zero.g G_is_from_zero
  have R_add : FnR P w K mg base CX0 _ _ _ := (ok_add (P := P) (w := w) (base := base) (k := 0) m_add.F D M RL d_factors_beside.F b_factors_beside d_factors_beside.g G_factors_beside d_added.F b_added d_added.g G_added).raw bm_add .nil
  simp only [List.append_nil] at R_add
  have R_eq : FnR P w K mg base CX0 _ _ _ := (ok_layeq (P := P) (w := w) (base := base) (k := 0) m_eq.F TL D LG).raw bm_eq .nil
  simp only [List.append_nil] at R_eq
  have G_has_form := ok_has_form (P := P) (w := w) (base := base) (k := 0) d_has_form.F TH LT d_is_integer.F b_is_integer d_is_integer.g G_is_integer
  have G_is_step := ok_is_step (d := d) (P := P) (w := w) (base := base) (k := 0) d_is_step.F TH D d_has_form.F b_has_form d_has_form.g G_has_form d_polynomial.F b_polynomial d_polynomial.g G_polynomial m_getitem.M R_getitem
  have G_changed := ok_changed (d := d) (P := P) (w := w) (base := base) (k := 0) d_changed.F TH D d_polynomial.F b_polynomial d_polynomial.g G_polynomial m_getitem.M R_getitem M RL
  have G_layout_behind := ok_layout_behind (d := d) (P := P) (w := w) (base := base) (k := 0) d_layout_behind.F d_is_step.F b_is_step d_is_step.g G_is_step d_changed.F b_changed d_changed.g G_changed
  have G_law_some_names := Kn.ok_some_names (P := P) (w := w) (base := base) (k := 0) d_law_some_names.F TMK d_law_below.F b_law_below d_law_below.g G_law_below d_law_pick.F b_law_pick d_law_pick.g G_law_pick
  have G_law_some_kind := Kn.ok_some_kind (P := P) (w := w) (base := base) (k := 0) d_law_some_kind.F TMK d_law_below.F b_law_below d_law_below.g G_law_below d_law_pick.F b_law_pick d_law_pick.g G_law_pick d_law_some_names.F b_law_some_names d_law_some_names.g G_law_some_names
  have G_law_some_factors := ok_some_factors (P := P) (w := w) (base := base) (k := 0) d_law_some_factors.F TM d_law_below.F b_law_below d_law_below.g G_law_below d_law_pick.F b_law_pick d_law_pick.g G_law_pick
  have G_law_counts := ok_counts (P := P) (w := w) (base := base) (k := 0) d_law_counts.F TU
  have G_law_is_form := ok_is_form (P := P) (w := w) (base := base) (k := 0) d_law_is_form.F TU
  have G_law_behind := ok_behind (P := P) (w := w) (base := base) (k := 0) d_law_behind.F TU d_law_is_form.F b_law_is_form d_law_is_form.g G_law_is_form
  have G_law_some_step := ok_some_step (P := P) (w := w) (base := base) (k := 0) d_law_some_step.F TU d_law_below.F b_law_below d_law_below.g G_law_below d_law_pick.F b_law_pick d_law_pick.g G_law_pick
  have G_law_wild := ok_wild (P := P) (w := w) (base := base) (k := 0) d_law_wild.F TU d_law_below.F b_law_below d_law_below.g G_law_below d_law_pick.F b_law_pick d_law_pick.g G_law_pick
  exact go_law d_law.F TU D LG ⟨d_law_pot_of.F, b_law_pot_of, d_law_pot_of.g, G_law_pot_of⟩ ⟨d_law_some_kind.F, b_law_some_kind, d_law_some_kind.g, G_law_some_kind⟩ ⟨d_law_some_factors.F, b_law_some_factors, d_law_some_factors.g, G_law_some_factors⟩ ⟨d_law_counts.F, b_law_counts, d_law_counts.g, G_law_counts⟩ ⟨d_law_some_step.F, b_law_some_step, d_law_some_step.g, G_law_some_step⟩ ⟨d_law_wild.F, b_law_wild, d_law_wild.g, G_law_wild⟩ ⟨d_law_behind.F, b_law_behind, d_law_behind.g, G_law_behind⟩ ⟨d_is_step.F, b_is_step, d_is_step.g, G_is_step⟩ ⟨d_layout_behind.F, b_layout_behind, d_layout_behind.g, G_layout_behind⟩ M RL m_add.M R_add m_eq.M R_eq neC
end
end My

open PySem PySem.W PyProof.Rows
theorem PySem.Challenge.cw_layoutswap_k24_steps_at_larger_layouts_holds : PySem.Challenge.rw_layoutswap_k24_steps_at_larger_layouts.Holds := by
  w_on; o_law; k_head; (case hw => w_witness2)
  k_fill
  refine My.walk_ofG (l := PySem.Challenge.rw_layoutswap_k24_steps_at_larger_layouts) (n := 63) (k := 10) (x := "script") (sp := My.spLaw) rfl (by decide) rfl ⟨rfl, by decide, by decide⟩ (fun w h Y => PySem.W.kIn_of Y) ?F (fun K H a ns hl hS => ⟨a, ns, rfl, hS, Nat.le_trans hl (by decide), fun _ => rfl⟩)
  case F =>
    intro w mg fa h KX G hmg
    refine' My.all_mk KX G hmg ?k_TooMany ?k_No ?s_TooMany ?no_limit ?p_No ?nd ?gLay ?pg ?hd ?po ?sa ?naF ?naD ?mk ?kp ?m_init ?b_Layoutinit ?g_MOST ?tyC ?clsC ?ca ?cn ?ct ?cm ?rdI ?rdG ?fst ?raR ?raF ?raO ?raS ?neC ?g_MOST_PARTS ?g_LENG ?tabL ?l_op ?l_cl ?l_mv ?l_tu ?m_getitem ?bm_getitem ?m_add ?bm_add ?m_eq ?bm_eq ?d_law_kneaded ?d_law_pot_of ?d_law_below ?d_law_pick ?d_is_integer ?d_polynomial ?d_trimmed ?d_factor_at ?d_added ?d_are_factors ?d_is_from_zero ?d_factors_beside ?d_has_form ?d_is_step ?d_changed ?d_layout_behind ?d_law_some_names ?d_law_some_kind ?d_law_some_factors ?d_law_counts ?d_law_is_form ?d_law_behind ?d_law_some_step ?d_law_wild ?d_law ?b_law_kneaded ?b_law_pot_of ?b_law_below ?b_law_pick ?b_is_integer ?b_polynomial ?b_trimmed ?b_factor_at ?b_added ?b_are_factors ?b_is_from_zero ?b_factors_beside ?b_has_form ?b_is_step ?b_changed ?b_layout_behind ?b_law_some_names ?b_law_some_kind ?b_law_some_factors ?b_law_counts ?b_law_is_form ?b_law_behind ?b_law_some_step ?b_law_wild ?b_law ?n_int ?n_range ?n_abs ?n_enumerate ?n_len ?n_isinstance ?n_bool ?n_list ?n_tuple ?n_all ?n_sum ?n_max ?n_repr ?n_zip ?n_str ?n_min ?bindL
    (case gLay => k_is); (case g_MOST => k_is)
    (case s_TooMany => (intro c; refine' My.sup_mk KX G c ?zzgC ?zzlC ?zzrv ?zzsa ?zziC ?zztI ?zzlI ?zzcdq ?zzlc ?zzhv ?zzhf ?zzlcc ?zznoS ?zzanyC ?zzsupI ?zznoTop; (case zzgC => k_is); (case zzlC => k_is); (case zzrv => decide +kernel); (case zzsa => k_is); (case zziC => k_is); (case zztI => k_is); (case zzlI => k_is); (case zzcdq => k_is); (case zzlc => k_is); (case zzhv => exact rfl); (case zzhf => decide +kernel); (case zzlcc => k_is); (case zznoS => k_is); (case zzanyC => k_is); (case zzsupI => ks_is); (case zznoTop => decide +kernel)))
    (case p_No => (intro c; refine' My.plain_mk KX G c ?zzgC ?zzq; (case zzgC => k_is); (case zzq => k_exc)))
    (case k_TooMany => (refine' My.ck_mk ?zzm ?zzr ?zzt ?zzk ?zzhg ?zzhk ?zzhd ?zzha; (case zzm => k_is); (case zzr => exact rfl); (case zzt => k_is); (case zzk => k_is); (case zzhg => k_is); (case zzhk => k_is); (case zzhd => k_is); (case zzha => k_is)))
    (case k_No => (refine' My.ck_mk ?zzm ?zzr ?zzt ?zzk ?zzhg ?zzhk ?zzhd ?zzha; (case zzm => k_is); (case zzr => exact rfl); (case zzt => k_is); (case zzk => k_is); (case zzhg => k_is); (case zzhk => k_is); (case zzhd => k_is); (case zzha => k_is)))
    (case no_limit => k_is); (case nd => decide); (case pg => k_is); (case hd => k_is); (case po => k_is); (case sa => k_is); (case naF => k_is); (case naD => k_is); (case mk => k_is); (case kp => k_is)
    (case m_init => (refine' My.meth_mk ?zzi ?zzn ?zzl ?zzc ?zzk; (case zzi => k_is); (case zzn => k_is); (case zzl => k_is); (case zzc => k_is); (case zzk => k_is)))
    (case b_Layoutinit => exact .all fun us hl => match us, hl with | [_, _], _ => rfl)
    (case tyC => k_is)
    (case clsC => k_is)
    (case ca => k_is)
    (case cn => k_is)
    (case ct => k_is)
    (case cm => k_is)
    (case rdI => k_is)
    (case rdG => k_is)
    (case fst => k_is)
    (case raR => k_is)
    (case raF => k_is)
    (case raO => k_is)
    (case raS => k_is)
    (case neC => k_is)
    (case g_MOST_PARTS => k_is)
    (case g_LENG => k_is)
    (case tabL => first | k_is | exact rfl)
    (case l_op => k_is)
    (case l_cl => k_is)
    (case l_mv => k_is)
    (case l_tu => k_is)
    (case m_getitem => (refine' My.metho_mk ?zzi ?zzn ?zzf ?zzl ?zzc ?zzk; (case zzi => k_is); (case zzn => k_is); (case zzf => k_is); (case zzl => k_is); (case zzc => k_is); (case zzk => k_is)))
    (case bm_getitem => exact .all fun us hl => match us, hl with | [_, _], _ => rfl)
    (case m_add => (refine' My.metho_mk ?zzi ?zzn ?zzf ?zzl ?zzc ?zzk; (case zzi => k_is); (case zzn => k_is); (case zzf => k_is); (case zzl => k_is); (case zzc => k_is); (case zzk => k_is)))
    (case bm_add => exact .all fun us hl => match us, hl with | [_, _], _ => rfl)
    (case m_eq => (refine' My.metho_mk ?zzi ?zzn ?zzf ?zzl ?zzc ?zzk; (case zzi => k_is); (case zzn => k_is); (case zzf => k_is); (case zzl => k_is); (case zzc => k_is); (case zzk => k_is)))
    (case bm_eq => exact .all fun us hl => match us, hl with | [_, _], _ => rfl)
    (case d_law_kneaded => (refine' My.def_mk KX G ?zzg ?zzl ?zzc ?zzk; (case zzg => k_is); (case zzl => k_is); (case zzc => k_is); (case zzk => k_is)))
    (case d_law_pot_of => (refine' My.def_mk KX G ?zzg ?zzl ?zzc ?zzk; (case zzg => k_is); (case zzl => k_is); (case zzc => k_is); (case zzk => k_is)))
    (case d_law_below => (refine' My.def_mk KX G ?zzg ?zzl ?zzc ?zzk; (case zzg => k_is); (case zzl => k_is); (case zzc => k_is); (case zzk => k_is)))
    (case d_law_pick => (refine' My.def_mk KX G ?zzg ?zzl ?zzc ?zzk; (case zzg => k_is); (case zzl => k_is); (case zzc => k_is); (case zzk => k_is)))
    (case d_is_integer => (refine' My.def_mk KX G ?zzg ?zzl ?zzc ?zzk; (case zzg => k_is); (case zzl => k_is); (case zzc => k_is); (case zzk => k_is)))
    (case d_polynomial => (refine' My.def_mk KX G ?zzg ?zzl ?zzc ?zzk; (case zzg => k_is); (case zzl => k_is); (case zzc => k_is); (case zzk => k_is)))
    (case d_trimmed => (refine' My.def_mk KX G ?zzg ?zzl ?zzc ?zzk; (case zzg => k_is); (case zzl => k_is); (case zzc => k_is); (case zzk => k_is)))
    (case d_factor_at => (refine' My.def_mk KX G ?zzg ?zzl ?zzc ?zzk; (case zzg => k_is); (case zzl => k_is); (case zzc => k_is); (case zzk => k_is)))
    (case d_added => (refine' My.def_mk KX G ?zzg ?zzl ?zzc ?zzk; (case zzg => k_is); (case zzl => k_is); (case zzc => k_is); (case zzk => k_is)))
    (case d_are_factors => (refine' My.def_mk KX G ?zzg ?zzl ?zzc ?zzk; (case zzg => k_is); (case zzl => k_is); (case zzc => k_is); (case zzk => k_is)))
    (case d_is_from_zero => (refine' My.def_mk KX G ?zzg ?zzl ?zzc ?zzk; (case zzg => k_is); (case zzl => k_is); (case zzc => k_is); (case zzk => k_is)))
    (case d_factors_beside => (refine' My.def_mk KX G ?zzg ?zzl ?zzc ?zzk; (case zzg => k_is); (case zzl => k_is); (case zzc => k_is); (case zzk => k_is)))
    (case d_has_form => (refine' My.def_mk KX G ?zzg ?zzl ?zzc ?zzk; (case zzg => k_is); (case zzl => k_is); (case zzc => k_is); (case zzk => k_is)))
    (case d_is_step => (refine' My.def_mk KX G ?zzg ?zzl ?zzc ?zzk; (case zzg => k_is); (case zzl => k_is); (case zzc => k_is); (case zzk => k_is)))
    (case d_changed => (refine' My.def_mk KX G ?zzg ?zzl ?zzc ?zzk; (case zzg => k_is); (case zzl => k_is); (case zzc => k_is); (case zzk => k_is)))
    (case d_layout_behind => (refine' My.def_mk KX G ?zzg ?zzl ?zzc ?zzk; (case zzg => k_is); (case zzl => k_is); (case zzc => k_is); (case zzk => k_is)))
    (case d_law_some_names => (refine' My.def_mk KX G ?zzg ?zzl ?zzc ?zzk; (case zzg => k_is); (case zzl => k_is); (case zzc => k_is); (case zzk => k_is)))
    (case d_law_some_kind => (refine' My.def_mk KX G ?zzg ?zzl ?zzc ?zzk; (case zzg => k_is); (case zzl => k_is); (case zzc => k_is); (case zzk => k_is)))
    (case d_law_some_factors => (refine' My.def_mk KX G ?zzg ?zzl ?zzc ?zzk; (case zzg => k_is); (case zzl => k_is); (case zzc => k_is); (case zzk => k_is)))
    (case d_law_counts => (refine' My.def_mk KX G ?zzg ?zzl ?zzc ?zzk; (case zzg => k_is); (case zzl => k_is); (case zzc => k_is); (case zzk => k_is)))
    (case d_law_is_form => (refine' My.def_mk KX G ?zzg ?zzl ?zzc ?zzk; (case zzg => k_is); (case zzl => k_is); (case zzc => k_is); (case zzk => k_is)))
    (case d_law_behind => (refine' My.def_mk KX G ?zzg ?zzl ?zzc ?zzk; (case zzg => k_is); (case zzl => k_is); (case zzc => k_is); (case zzk => k_is)))
    (case d_law_some_step => (refine' My.def_mk KX G ?zzg ?zzl ?zzc ?zzk; (case zzg => k_is); (case zzl => k_is); (case zzc => k_is); (case zzk => k_is)))
    (case d_law_wild => (refine' My.def_mk KX G ?zzg ?zzl ?zzc ?zzk; (case zzg => k_is); (case zzl => k_is); (case zzc => k_is); (case zzk => k_is)))
    (case d_law => (refine' My.def_mk KX G ?zzg ?zzl ?zzc ?zzk; (case zzg => k_is); (case zzl => k_is); (case zzc => k_is); (case zzk => k_is)))
    (case b_law_kneaded => exact .all fun us hl => match us, hl with | [_, _], _ => rfl)
    (case b_law_pot_of => exact .all fun us hl => match us, hl with | [_], _ => rfl)
    (case b_law_below => exact .all fun us hl => match us, hl with | [_, _], _ => rfl)
    (case b_law_pick => exact .all fun us hl => match us, hl with | [_, _], _ => rfl)
    (case b_is_integer => exact .all fun us hl => match us, hl with | [_], _ => rfl)
    (case b_polynomial => exact .all fun us hl => match us, hl with | [_], _ => rfl)
    (case b_trimmed => exact .all fun us hl => match us, hl with | [_], _ => rfl)
    (case b_factor_at => exact .all fun us hl => match us, hl with | [_, _], _ => rfl)
    (case b_added => exact .all fun us hl => match us, hl with | [_, _], _ => rfl)
    (case b_are_factors => exact .all fun us hl => match us, hl with | [_], _ => rfl)
    (case b_is_from_zero => exact .all fun us hl => match us, hl with | [_], _ => rfl)
    (case b_factors_beside => exact .all fun us hl => match us, hl with | [_], _ => rfl)
    (case b_has_form => exact .all fun us hl => match us, hl with | [_], _ => rfl)
    (case b_is_step => exact .all fun us hl => match us, hl with | [_, _, _], _ => rfl)
    (case b_changed => exact .all fun us hl => match us, hl with | [_, _, _], _ => rfl)
    (case b_layout_behind => exact .all fun us hl => match us, hl with | [_, _, _], _ => rfl)
    (case b_law_some_names => exact .all fun us hl => match us, hl with | [_, _], _ => rfl)
    (case b_law_some_kind => exact .all fun us hl => match us, hl with | [_], _ => rfl)
    (case b_law_some_factors => exact .all fun us hl => match us, hl with | [_, _, _], _ => rfl)
    (case b_law_counts => exact .all fun us hl => match us, hl with | [_], _ => rfl)
    (case b_law_is_form => exact .all fun us hl => match us, hl with | [_], _ => rfl)
    (case b_law_behind => exact .all fun us hl => match us, hl with | [_, _, _], _ => rfl)
    (case b_law_some_step => exact .all fun us hl => match us, hl with | [_, _, _], _ => rfl)
    (case b_law_wild => exact .all fun us hl => match us, hl with | [_], _ => rfl)
    (case b_law => exact .all fun us hl => match us, hl with | [_], _ => rfl)
    (case n_int => k_is); (case n_range => k_is); (case n_abs => k_is); (case n_enumerate => k_is); (case n_len => k_is); (case n_isinstance => k_is); (case n_bool => k_is); (case n_list => k_is); (case n_tuple => k_is); (case n_all => k_is); (case n_sum => k_is); (case n_max => k_is); (case n_repr => k_is); (case n_zip => k_is); (case n_str => k_is); (case n_min => k_is)
    (case bindL => exact fun s v => .of_eq rfl)
