import PyProof.Rows.All
import Wide.All
import OpenK.AllK
import Wide.FinOn
import HandS.ForMost
import HandS.Walk
import HandS.IsInst
import HandS.Codes
import HandS.Strs
import HandS.Dict
import KE.KDictPairs
import HandS.Style
import HandS.TupAny
import KE.KRevSl
import HandS.TupMul
import HandS.Deep
import PyProof.StrLawsRepr
import HandS.TupLe
import PySem.Challenge.RW_layoutswap_k30_trees_recognized
set_option Elab.async false
set_option linter.all false
set_option maxRecDepth 100000
set_option maxHeartbeats 0
namespace My
open PySem PySem.Spec PyProof.Rows L2
/-! ### defs whose run shows containers: nothing is being shown around them -/
structure FnG (P : Program) (w : World) (K : PySem.W.Frag) (mg : Str → Option Value) (base : Heap) (CX : CXT) (k : Nat) (f : Addr) (fd : FuncData) (ps : List Str) (sp : Sp) : Prop where
  many : ∀ vs H Q E, sp vs H Q E → vs.length = ps.length
  go : ∀ {A : Around} {outer : List Env} {s : Shared} {H : Hp} {args : Args} {us : List Value} {vs : List V} {Q : VK} {E : XK}, Room k A → A.guards = some [] → Env0 P w K mg base A outer s H → BindsTo s fd args (ps.zip us) → Vals vs us →
    sp vs H Q E → codeAny (model P w) A (.call (.ref f) args) (CR CX outer P w H s Q E) s
theorem guards_deeper {A : Around} {env : Env} (h : A.guards = some []) : (A.deeper env).guards = some [] := by
  first | exact h | (simp [Around.deeper, h]; done)
section
variable {P : Program} {w : World} {K : PySem.W.Frag} {mg : Str → Option Value} {base : Heap} {CX : CXT} {k : Nat} {f : Addr} {fd : FuncData} {ps : List Str} {sp : Sp}
theorem FnG.of (F : FnOk P w K mg base CX k f fd ps sp) : FnG P w K mg base CX k f fd ps sp :=
  ⟨F.len, fun r _ e b v h => F.run _ _ _ _ _ _ _ _ _ r e b v h⟩
/-- a def by its body, where nothing is being shown -/
theorem go_of {x qual : Str} {st : Stmt} {N : List Str} (F : Fun K x qual st f fd) (S : FnScope N ps (defScope st)) (many : ∀ vs H Q E, sp vs H Q E → vs.length = ps.length)
    (hb : ∀ (cdv : Value) (A : Around) (outer : List Env) (s : Shared) (H : Hp) (vs : List V) (Q : VK) (E : XK), Room k (A.deeper (envOfC qual (defScope st) s.heap.objs.size f cdv)) → (A.deeper (envOfC qual (defScope st) s.heap.objs.size f cdv)).guards = some [] →
      sp vs H Q E → ∃ t, PSs (cxOf CX P w K mg base N qual (defScope st) f cdv A outer s H E) (defBody st) t ∧ t { nx := fun _ H' => Q .non H', rt := Q } (start N vs) H) : FnG P w K mg base CX (k + 1) f fd ps sp := by
  obtain ⟨oc, od, kV, doc, pm, an, cdv, ct, osl, e1, lk, hcd⟩ := F.ex
  subst e1
  refine ⟨many, ?_⟩
  intro A outer s H args us vs Q E room quiet e0 bind rel want
  have inK := e0.mod.kin.keeps (h' := s.heap) (fun b o z => (e0.bs b o z).1)
  have nolim := e0.mod.nolimit.keeps (h' := s.heap) (fun b o z => (e0.bs b o z).1)
  have kinds : ∀ y ∈ ps.zip us, (defScope st).names.lookup y.1 = some .local ∨ ((defScope st).names.lookup y.1 = some .cell ∧ ((cellsFrom (s.heap.objs.size + 1) (defScope st).names []).lookup y.1).isSome = true) := by
    rintro ⟨n, v⟩ hy
    have hn := (List.of_mem_zip hy).1
    cases S.par n hn with
    | inl z => exact Or.inl z
    | inr z => exact Or.inr ⟨z, PySem.W.cellsFrom_some _ _ _ (Or.inl z)⟩
  refine codeAny_call_function room.depth (inK _ _ lk) rfl S.co S.gen rfl (PySem.W.codeRec_of inK hcd) (bind _ _ _ _ (wpAny_newFunctionEnv_cells S.kind kinds ?_))
  rintro env rfl s1 ic
  obtain ⟨t, ht, ready⟩ := hb cdv A outer s H vs Q E (room.deeper _) (guards_deeper quiet) want
  have J : Inv (cxOf CX P w K mg base N qual (defScope st) f cdv A outer s H E) [] (start N vs) H s1 := inv_start S room.hd e0 (many _ _ _ _ want) rel ic
  refine ⟨nolim.keeps ic.toInCall.keep, codeAny_func (wpAny_mono (ht.run [] s1 _ H _ J ready) ?_ (fun _ _ z => z))⟩
  intro fl s' hs
  cases fl with
  | next =>
    obtain ⟨σ', H', J', q⟩ := hs
    exact ⟨V.non, H', J'.os, J'.bare, J'.base, J'.hok, rfl, q⟩
  | ret u =>
    obtain ⟨v, σ', H', J', rv, q⟩ := hs
    exact ⟨v, H', J'.os, J'.bare, J'.base, J'.hok, rv, q⟩
  | brk =>
    obtain ⟨_, _, _, z⟩ := hs
    exact (z : False).elim
  | cont =>
    obtain ⟨_, _, _, z⟩ := hs
    exact (z : False).elim
end
section
variable {X : Cx} {CX : CXT} {k : Nat} {f : Addr} {fd : FuncData} {ps : List Str} {sp : Sp} {dvs : List V} {ds : List Value} {E : XK} {x : Str} {p pos : Pos} {e : Expr} {es : List Expr} {t : TA}
/-- a call of such a def from where nothing is being shown -/
theorem pe_callG (F : FnG X.prog X.w X.K X.mg X.base CX k f fd ps sp) (hr : Room k X.A) (quiet : X.A.guards = some []) (hg : Gl X x) (hm : X.mg x = some (.ref f)) (hk : PySem.W.keepIn X.K (.ref f) = true) (hb : Binds X.K fd ps ds) (hd : Vals dvs ds) (hx : Passes CX X E)
    (ha : PA X (e :: es) t) (hdb : (x == ("__debug__" : Str)) = false := by decide) (he : starEach (e :: es) X.env = (false, eval e X.env) :: starEach es X.env := by rfl) (hpl : (backTo pos (starEach es X.env)).any (·.1) = false := by rfl) :
    PE X (.Call (.Name x p) (e :: es) [] pos) (tCall sp dvs E t) := by
  constructor
  intro pins s σ H Q I h
  have args := ha.run pos pins s σ H _ I h
  refine wpAny_Call_Name_kw (ld_glob I hg hm (PySem.W.callWith_K (h₀ := X.base) I.ok.mod.kin hk (thn args ?_) he hpl) hdb)
  rintro us s1 ⟨vs, H1, J, r, want⟩
  have rel := r.append hd
  refine ⟨J.kIn, wpAny_call (codeAny_mono (F.go (A := X.A) hr quiet J.env0 (hb s1 us J.kIn ?_) rel want) ?_)⟩
  · have z := rel.length
    rw [← z]
    exact F.many _ _ _ _ want
  · intro res s' hq
    match res, hq with
    | .error _, hq => exact hx pins σ H1 s1 _ s' J hq
    | .ok (.ret _), hq => exact J.after hq
    | .ok .next, hq => exact False.elim hq
    | .ok .brk, hq => exact False.elim hq
    | .ok .cont, hq => exact False.elim hq
end
/-! ### repr of data -/
structure rRepr (K : PySem.W.Frag) (xs : List V) (H : Hp) (Q : VK) : Prop where
  ex : ∃ x d, xs = [x] ∧ Dp K H x d ∧ d.showable = true ∧ d.canLay0 = true ∧ d.depth ≤ 60 ∧ d.shown.length ≤ sizeLine ∧ Q (.str d.shown) H
theorem call_repr {X : Cx} (quiet : X.A.guards = some []) (hu : X.A.units + 64 < cLine) : CallR X (.builtin "repr") (rRepr X.K) := by
  intro pins s σ H xs us Q I r h
  obtain ⟨x, d, rfl, hd, h1, h2, h3, h4, q⟩ := h
  obtain ⟨u, rfl, ru⟩ := vals1 r
  cases hd with
  | non =>
    cases (show u = Value.none from ru)
    exact PySem.P.repr_of_none ⟨.str "None", H, I.tok _, ⟨_, rfl⟩, by simpa only [PyData.shown] using q⟩
  | bl b =>
    cases (show u = Value.bool b from ru)
    exact PySem.P.repr_of_bool ⟨.str (if b then "True" else "False"), H, I.tok _, ⟨_, rfl⟩, by simpa only [PyData.shown] using q⟩
  | int i =>
    obtain ⟨tk, rfl⟩ := (show ∃ t, u = Value.int i t from ru)
    exact PySem.P.repr_of_int (by simpa only [PyData.showable, decide_eq_true_eq] using h1) ⟨V.str (Str.ofString (toString i)), H, I.tok _, ⟨_, rfl⟩, by simpa only [PyData.shown] using q⟩
  | str z =>
    obtain ⟨tk, rfl⟩ := (show ∃ t, u = Value.str z t from ru)
    exact PySem.P.repr_of_str ⟨.str (reprText z), H, I.tok _, ⟨_, rfl⟩, by simpa only [PyData.shown] using q⟩ (by simpa only [PyData.shown] using h4)
  | @lst a ys ds hs ha =>
    cases (show u = Value.ref a from ru)
    obtain ⟨as, rd⟩ := Dp.reads I (.list ds) (.ref a) (.ref a) (.lst hs ha) rfl
    exact PySem.repr_of_reads' rd h1 (PyData.noDict_hsm (PyData.hasDict_of_canLay _ h2)) quiet (by omega) (fun _ _ z => z) (fun h' v tk k => ⟨.str (PyData.list ds).shown, H, I.kept k, ⟨_, rfl⟩, q⟩) h4
  | @tup a ys ds hs ha =>
    cases (show u = Value.ref a from ru)
    obtain ⟨as, rd⟩ := Dp.reads I (.tuple ds) (.ref a) (.ref a) (.tup hs ha) rfl
    exact PySem.repr_of_reads' rd h1 (PyData.noDict_hsm (PyData.hasDict_of_canLay _ h2)) quiet (by omega) (fun _ _ z => z) (fun h' v tk k => ⟨.str (PyData.tuple ds).shown, H, I.kept k, ⟨_, rfl⟩, q⟩) h4
/-! ### the law's own call -/
/-- only the script may be tracked -/
def One (H : Hp) (a : Addr) : Prop := ∀ b, H b = none ∨ (b = a ∧ ∃ o xs, H b = some (.frz o (.lst xs)))
section
variable {P : Program} {w : World} {K : PySem.W.Frag} {mg mb : Str → Option Value} {k : Nat} {fa a : Addr} {fd : FuncData} {x : Str} {sp : Sp} {s₁ : Shared} {vs : List Value} {ns : List Int}
/-- a law's def run at its call, from an abstract heap that tracks the script or nothing -/
theorem top_run {H : Hp} (KX : K.In s₁.heap) (hns : s₁.heap.Ns mainGlobals mg) (hb : s₁.heap.Ns builtinsNs mb) (hbb : ∀ y : Str, y ≠ "__name__" → mb y = bootBuiltins y) (hlim : s₁.heap.NoLimit) (hg : s₁.gens = #[])
    (ha : s₁.heap.get? a = some { cls := .type "list", data := .seq vs.toArray }) (hr : Room k callerA) (hbind : ∀ (s : Shared) (u : Value), BindsTo s fd ⟨[u], []⟩ [(x, u)])
    (F : ∀ base : Heap, K.In base → base.Ns mainGlobals mg → FnG P w K mg base CX0 k fa fd [x] sp)
    (one : One H a) (free : H a ≠ none → K.lookup a = none) (ok : HOk P w H s₁.heap) (want : sp [.ref a] H (fun v _ => v = .bl true) fun _ _ _ => False) :
    codeAny (model P w) callerA (.call (.ref fa) ⟨[.ref a], []⟩) (fun r s' => r = .ok (.ret (.bool true)) ∧ OldK s₁.heap s'.heap ∧ s'.os = s₁.os ∧ AllBare s'.gens) s₁ := by
  have not_a : ∀ {b : Addr}, b ≠ a → H b = none := fun {b} n => (one b).elim id fun z => (n z.1).elim
  have seen : ∀ {b : Addr} {o : Obj}, s₁.heap.get? b = some o → H b = none → (hidT s₁.heap H).get? b = some o := hidT_get
  have dict_free : ∀ {b : Addr} {o : Obj} {es : Array DictEntry} {ep : Nat}, s₁.heap.get? b = some o → o.data = .dict es ep → H b = none := by
    intro b o es ep e1 e2
    refine not_a fun z => ?_
    subst z
    cases ha.symm.trans e1
    cases e2
  have keepNs : ∀ {b : Addr} {m : Str → Option Value}, s₁.heap.Ns b m → (hidT s₁.heap H).Ns b m := by
    rintro b m ⟨o, es, ep, e1, e2, e3⟩
    exact ⟨o, es, ep, seen e1 (dict_free e1 e2), e2, e3⟩
  have KB : K.In (hidT s₁.heap H) := by
    intro b o e
    refine seen (KX b o e) ?_
    by_cases z : b = a
    · subst z
      cases q : H b with
      | none => rfl
      | some u =>
        have z2 := free (by rw [q]; exact fun z => nomatch z)
        cases z2.symm.trans e
    · exact not_a z
  obtain ⟨ml, l1, l2⟩ := hlim
  have e0 : Env0 P w K mg (hidT s₁.heap H) callerA [] s₁ H := {
    frames := rfl
    mod := ⟨KB, keepNs hns, ⟨mb, keepNs hb, hbb⟩, ⟨ml, keepNs l1, l2⟩⟩
    bs := fun b o e => of_hidT e
    bsz := Nat.le_of_eq (hidT_size _ _)
    funs := trivial
    frf := fun b z => nomatch z
    hok := ok
    bare := .of_eq hg }
  refine codeAny_mono ((F _ KB (keepNs hns)).go (us := [.ref a]) (vs := [.ref a]) hr rfl e0 (hbind s₁ (.ref a)) (.cons rfl .nil) want) ?_
  intro r s' hq
  match r, hq with
  | .ok (.ret u), hq =>
    obtain ⟨v, H', os, bare, un, ok', rv, q⟩ := hq
    subst q
    cases (show u = Value.bool true from rv)
    refine ⟨rfl, OldK.of_keep ?_, os, bare⟩
    intro b o e
    rcases one b with z | ⟨_, ob, xs, z⟩
    · exact un.keep b o e z (fun z => nomatch z) (fun z => nomatch z)
    · have h1 : s₁.heap.get? b = some ob := (ok b _ z).1
      have h2 : s'.heap.get? b = some ob := (ok' b _ (un.frzs b ob _ z)).1
      rw [← h1.symm.trans e]
      exact h2
  | .ok .next, hq => exact False.elim hq
  | .ok .brk, hq => exact False.elim hq
  | .ok .cont, hq => exact False.elim hq
  | .error _, hq => exact False.elim hq
/-- .. from whatever the script is -/
theorem top_call (KX : K.In s₁.heap) (hns : s₁.heap.Ns mainGlobals mg) (hb : s₁.heap.Ns builtinsNs mb) (hbb : ∀ y : Str, y ≠ "__name__" → mb y = bootBuiltins y) (hlim : s₁.heap.NoLimit) (hg : s₁.gens = #[])
    (ha : s₁.heap.get? a = some { cls := .type "list", data := .seq vs.toArray }) (hi : IntsAre vs ns) (hl : ns.length ≤ sizeLine) (hr : Room k callerA) (hbind : ∀ (s : Shared) (u : Value), BindsTo s fd ⟨[u], []⟩ [(x, u)])
    (F : ∀ base : Heap, K.In base → base.Ns mainGlobals mg → FnG P w K mg base CX0 k fa fd [x] sp)
    (want : ∀ H : Hp, One H a → SqL K H a (ns.map V.int) → sp [.ref a] H (fun v _ => v = .bl true) fun _ _ _ => False) :
    codeAny (model P w) callerA (.call (.ref fa) ⟨[.ref a], []⟩) (fun r s' => r = .ok (.ret (.bool true)) ∧ OldK s₁.heap s'.heap ∧ s'.os = s₁.os ∧ AllBare s'.gens) s₁ := by
  have rv := vals_ints hi
  have len := hi.length
  cases hk : K.lookup a with
  | none =>
    let O : Obj := { cls := .type "list", data := .seq vs.toArray }
    let H : Hp := fun b => if b = a then some (.frz O (.lst (ns.map V.int))) else none
    have Ha : H a = some (.frz O (.lst (ns.map V.int))) := if_pos rfl
    have one : One H a := fun b => by
      by_cases z : b = a
      · exact .inr ⟨z, O, ns.map V.int, if_pos z⟩
      · exact .inl (if_neg z)
    refine top_run KX hns hb hbb hlim hg ha hr hbind F one (fun _ => hk) ?_ (want H one (.inl (.inr ⟨O, Ha⟩)))
    intro b u e
    rcases one b with z | ⟨z, _⟩
    · cases z.symm.trans e
    · subst z
      cases Ha.symm.trans e
      exact ⟨ha, by rw [List.length_map]; exact hl, vs, _, rv, ha⟩
  | some o =>
    cases (KX a o hk).symm.trans ha
    have one : One (fun _ => none) a := fun _ => .inl rfl
    refine top_run KX hns hb hbb hlim hg ha hr hbind F one (fun z => absurd rfl z) (fun _ _ z => nomatch z) (want _ one (.inr ⟨_, vs.toArray, _, hk, rfl, rfl, rfl, ?_, ?_⟩))
    · rw [List.size_toArray, len]
      exact hl
    · simpa using rv
end
/-- the end of a law whose def is FnG -/
theorem walk_ofG {l : PySem.W.OpenLaw} {n k : Nat} {q : Program} {loose : List Str} {XP : (Str → Option Value) → Heap → Prop} {YP : World → Heap → Prop} {d : DefRec} {K : Params → PySem.W.Frag} {sp : PySem.W.Frag → Sp} {x : Str}
    (hn : l.most = some n) (hn2 : n ≤ sizeLine) (hdf : d.params.defaults = []) (hr : Room k callerA) (hY : ∀ (w : World) (h : Heap), YP w h → (K w.params).In h)
    (F : ∀ (w : World) (mg : Str → Option Value) (fa : Addr) (h : Heap), (K w.params).In h → h.Ns mainGlobals mg → mg d.name = some (.ref fa) →
      ∃ fd : FuncData, (∀ (s : Shared) (u : Value), BindsTo s fd ⟨[u], []⟩ [(x, u)]) ∧ ∀ base : Heap, (K w.params).In base → base.Ns mainGlobals mg → FnG l.prog w (K w.params) mg base CX0 k fa fd [x] (sp (K w.params)))
    (want : ∀ (K : PySem.W.Frag) (H : Hp) (a : Addr) (ns : List Int), ns.length ≤ n → SqL K H a (ns.map V.int) → sp K [.ref a] H (fun v _ => v = .bl true) fun _ _ _ => False) :
    PySem.W.WalkO q loose XP YP l.row.toRowW d [] (fun f vs => PySem.call f vs) := by
  refine Att.attach_call hn hdf ?_
  intro w s₀ s₁ mg mb fa o pm cd doc a vs ns G Y ho hd hcd hmg hobj hints hlen hg
  obtain ⟨fd, hbind, hF⟩ := F w mg fa _ (hY w _ Y) G.T.g hmg
  exact top_call (hY w _ Y) G.T.g G.T.b G.T.builtins G.T.nolimit hg hobj hints (Nat.le_trans hlen hn2) hr hbind hF fun H _ hS => want _ H a ns hlen hS
/-! ### list(text), text * int -/
abbrev oneS (c : Nat) : Str := ⟨#[c]⟩
def rListS : List V → Hp → VK → Prop := fun xs H Q => ∃ z : Str, xs = [.str z] ∧ z.length ≤ sizeLine ∧ ∀ p, H p = none → Q (.ref p) (upd H p (.lst (z.cps.toList.map fun c => V.str (oneS c))))
theorem call_listS {X : Cx} (calm : X.calm = true) : CallR X (.type "list") rListS := by
  intro pins s σ H xs us Q I r h
  obtain ⟨z, rfl, hz, q⟩ := h
  obtain ⟨u, rfl, tk, rfl⟩ := vals1 r
  refine PySem.call_list_str (I.ok.hd calm) z tk (fun h' t acc c keep new items => ?_) hz
  refine ⟨.ref s.heap.objs.size, upd H s.heap.objs.size (.lst (z.cps.toList.map fun c => V.str (oneS c))), I.laid (t' := t) keep (Nat.le_refl _) ?_, rfl, q _ (I.hok.fresh (Nat.le_refl _))⟩
  refine ⟨?_, acc.toList, c, ?_, by rw [Array.toArray_toList]; exact new⟩
  · rw [List.length_map, Array.length_toList]
    exact hz
  · have len : acc.toList.length = z.cps.toList.length := by rw [Array.length_toList, Array.length_toList]; exact items.1
    have all : ∀ (cs : List Nat) (vs : List Value), vs.length = cs.length → (∀ (j : Nat) (v : Value), vs[j]? = some v → ∃ c u, cs[j]? = some c ∧ v = .str (oneS c) u) → Vals (cs.map fun c => V.str (oneS c)) vs := by
      intro cs
      induction cs with
      | nil =>
        intro vs hl _
        cases vs with
        | nil => exact .nil
        | cons => cases hl
      | cons a r ih =>
        intro vs hl hv
        cases vs with
        | nil => cases hl
        | cons v t =>
          obtain ⟨c, u, e1, e2⟩ := hv 0 v rfl
          cases e1
          exact .cons ⟨u, e2⟩ (ih t (Nat.succ.inj hl) fun j x e => hv (j + 1) x e)
    refine all _ _ len fun j v e => ?_
    rw [Array.getElem?_toList] at e
    obtain ⟨c, u, e1, e2⟩ := items.2 j v e
    exact ⟨c, u, by rw [Array.getElem?_toList]; exact e1, e2⟩
def rRepS : R2 := fun x y H Q => ∃ z n, x = .str z ∧ y = .int n ∧ MulOk z n ∧ Q (.str (Txt.mul z n)) H
theorem op_repS {X : Cx} : OpR X (binaryOp .Mult) rRepS := by
  intro pins s σ H x y v u Q I rx ry h
  obtain ⟨z, n, rfl, rfl, ok, q⟩ := h
  obtain ⟨tx, rfl⟩ := rx
  obtain ⟨ty, rfl⟩ := ry
  exact PySem.SB.mul ok fun t' k => ⟨.str (Txt.mul z n), H, I.tok _, ⟨_, rfl⟩, q⟩
/-- texts joined by nothing -/
theorem joinL_nil : ∀ l : List (List Nat), TL.joinL [] l = l.flatten
  | [] => rfl
  | [p] => by simp [TL.joinL]
  | p :: q :: r => by
    have h := joinL_nil (q :: r)
    show p ++ ([] ++ TL.joinL [] (q :: r)) = _
    rw [h]
    simp
theorem tl_join0 (ys : List Str) : (Txt.join "" ys).cps.toList = (ys.map fun y => y.cps.toList).flatten := by
  rw [TL.join_eq]
  have h := TL.tl_join "" ys
  have h2 : TL.tl ("" : Str) = [] := by decide +kernel
  rw [h2, joinL_nil] at h
  exact h
end My

namespace My
open PySem PySem.Spec PyProof.Rows L2
/-! ### a set of texts, made of a list -/
def addU (us : List Str) (x : Str) : List Str := if us.any (· == x) then us else us ++ [x]
/-- each text once, in the order of the first ones -/
def uniq (xs : List Str) : List Str := xs.foldl addU []
theorem uniq_take {xs : List Str} {i : Nat} (h : i < xs.length) : uniq (xs.take (i + 1)) = addU (uniq (xs.take i)) (xs.getD i Str.empty) := by
  unfold uniq
  rw [List.take_succ, List.getElem?_eq_getElem h, Option.toList_some, List.foldl_append, List.getD_eq_getElem?_getD, List.getElem?_eq_getElem h]
  rfl
theorem addU_any (us : List Str) (x y : Str) : (addU us x).any (· == y) = (us.any (· == y) || decide (y = x)) := by
  unfold addU
  split
  · rename_i h
    by_cases e : y = x
    · rw [e, h]
      rfl
    · rw [decide_eq_false e, Bool.or_false]
  · rw [List.any_append]
    congr 1
    by_cases e : y = x
    · subst e
      simp
    · have n : (x == y) = false := beq_eq_false_iff_ne.mpr fun z => e z.symm
      simp [n, e]
theorem addU_len (us : List Str) (x : Str) : (addU us x).length = if us.any (· == x) then us.length else us.length + 1 := by
  unfold addU
  split
  · rfl
  · rw [List.length_append]
    rfl
theorem addU_le (us : List Str) (x : Str) : (addU us x).length ≤ us.length + 1 := by
  rw [addU_len]
  split <;> omega
theorem uniq_le (xs : List Str) : ∀ i, i ≤ xs.length → (uniq (xs.take i)).length ≤ i := by
  intro i
  induction i with
  | zero =>
    intro _
    rw [List.take_zero]
    exact Nat.le_refl 0
  | succ i ih =>
    intro h
    rw [uniq_take h]
    have z := ih (by omega)
    have y := addU_le (uniq (xs.take i)) (xs.getD i Str.empty)
    omega
theorem fold_len : ∀ (xs us : List Str), us.Nodup → (xs.foldl addU us).length ≤ us.length + xs.length ∧ ((xs.foldl addU us).length = us.length + xs.length ↔ (us ++ xs).Nodup)
  | [], us, hn => by simp [hn]
  | x :: r, us, hn => by
    by_cases h : us.any (· == x) = true
    · have e : addU us x = us := if_pos h
      obtain ⟨a, b⟩ := fold_len r us hn
      rw [List.foldl_cons, e, List.length_cons]
      refine ⟨by omega, ⟨fun z => by omega, fun z => ?_⟩⟩
      obtain ⟨y, hy, ey⟩ := List.any_eq_true.mp h
      have ey : y = x := beq_iff_eq.mp ey
      subst ey
      exact absurd rfl ((List.nodup_append.mp z).2.2 y hy y List.mem_cons_self)
    · have e : addU us x = us ++ [x] := if_neg h
      have nx : x ∉ us := fun z => h (List.any_eq_true.mpr ⟨x, z, beq_self_eq_true x⟩)
      have hn2 : (us ++ [x]).Nodup := by
        refine List.nodup_append.mpr ⟨hn, List.nodup_cons.mpr ⟨(fun z => nomatch z), List.nodup_nil⟩, fun a ha b hb => ?_⟩
        rw [List.mem_singleton.mp hb]
        exact fun z => nx (z ▸ ha)
      obtain ⟨a, b⟩ := fold_len r (us ++ [x]) hn2
      rw [List.foldl_cons, e, List.length_cons]
      rw [List.length_append, List.length_cons, List.length_nil] at a b
      refine ⟨by omega, ?_⟩
      rw [show us.length + (r.length + 1) = us.length + (0 + 1) + r.length by omega, b, List.append_assoc]
      rfl
theorem uniq_len (xs : List Str) : (uniq xs).length ≤ xs.length ∧ ((uniq xs).length = xs.length ↔ xs.Nodup) := by
  obtain ⟨a, b⟩ := fold_len xs [] List.nodup_nil
  rw [List.length_nil, Nat.zero_add, List.nil_append] at *
  exact ⟨a, b⟩
section
variable {P : Program} {w : World} {A : Around} {R : Result → Shared → Prop} {it : Addr} {fp wr : List Addr} {G : Array GenState → Array GenState → Prop} {n : Nat} {V1 : Nat → Value → Prop} {St1 : Nat → Shared → Prop}
theorem setOf_moved {a : Addr} {us : List Str} {st st' : Shared} {wr : List Addr} {G : Array GenState → Array GenState → Prop} (h : st.heap.SetOf (PySem.strKind P w) a (fun y => us.any (· == y)) us.length) (m : Moved wr G st st') (ha : a ∉ wr) : st'.heap.SetOf (PySem.strKind P w) a (fun y => us.any (· == y)) us.length := by
  obtain ⟨ob, e1, e2, e3, hob, more⟩ := h
  exact ⟨ob, e1, e2, e3, m.heap a _ ha hob, more⟩
theorem loop_texts (W : WalksS P w A.in1 it fp wr G n V1 St1) (a : Addr) (ha : a ∉ fp) {xs : List Str} (hn : n = xs.length) (hval : ∀ i v, V1 i v → ∃ t, v = .str (xs.getD i Str.empty) t) (hb : n + 1 < scanBound) :
    ∀ (m i : Nat) (st : Shared), i + m = n → St1 i st → st.heap.SetOf (PySem.strKind P w) a (fun y => (uniq (xs.take i)).any (· == y)) (uniq (xs.take i)).length →
      (∀ st', Moved (a :: wr) G st st' → st'.heap.SetOf (PySem.strKind P w) a (fun y => (uniq (xs.take n)).any (· == y)) (uniq (xs.take n)).length → R (.ok (.ret .none)) st') →
      codeAny (model P w) A (.builtin "set.update.loop" ⟨[.ref a, .ref it], []⟩) R st := by
  have ha2 : a ∉ wr := fun z => ha (W.sub _ z)
  intro m
  induction m with
  | zero =>
    intro i st him hst hS hR
    obtain rfl : i = n := him
    refine codeAny_builtin PyProof.Rows.F.entry_set_update_loop ?_
    rw [Around.under_plainId PyProof.Rows.F.plain_set_update_loop _]
    show wpAny _ A.in1 (pyNext (.ref it) >>= _) _ _ st
    refine wpAny_bind (W.done st _ _ hst fun st' mv => ?_)
    show wpAny _ A.in1 (ret Value.none) _ _ st'
    exact wpAny_pure (hR st' (mv.mono fun b hb => List.mem_cons_of_mem _ hb) (setOf_moved hS mv ha2))
  | succ m ih =>
    intro i st him hst hS hR
    have hi : i < n := by omega
    refine codeAny_builtin PyProof.Rows.F.entry_set_update_loop ?_
    rw [Around.under_plainId PyProof.Rows.F.plain_set_update_loop _]
    show wpAny _ A.in1 (pyNext (.ref it) >>= _) _ _ st
    refine wpAny_bind (W.item i st _ _ hi hst fun v st1 hv hst1 mv => ?_)
    obtain ⟨tk, rfl⟩ := hval i v hv
    have hS1 := setOf_moved hS mv ha2
    show wpAny _ A.in1 (holding [Value.str (xs.getD i Str.empty) tk] (setAdd a (.str (xs.getD i Str.empty) tk)) >>= _) _ _ st1
    refine wpAny_bind (wpAny_holding ?_)
    unfold setAdd
    refine wpAny_holding (wpAny_bind ((PySem.strKind P w).pyHash (k := xs.getD i Str.empty) (strKind_is _ _ _ _) ?_))
    have few := uniq_le xs i (by omega)
    refine wpAny_setAddHashed_of (knd := PySem.strKind P w) (s := { st1 with toks := st1.toks + 1 }) (strKind_is _ _ _ _) rfl hS1 (by omega) fun h2 only hS2 => ?_
    have hS3 : h2.SetOf (PySem.strKind P w) a (fun y => (uniq (xs.take (i + 1))).any (· == y)) (uniq (xs.take (i + 1))).length := by
      refine SetOf_congr hS2 (fun y => ?_) ?_
      · rw [uniq_take (by omega), addU_any]
      · rw [uniq_take (by omega), addU_len]
    refine wpAny_pure ⟨plainId_quiet PyProof.Rows.F.plain_set_update_loop _, ih (i + 1) _ (by omega) (W.frame _ st1 _ _ hst1 (Nat.le_succ _) fun b hb o e => ?_) hS3 fun st2 mv2 hS4 => hR st2 (Moved.trans W.gtrans ((mv.mono fun b hb => List.mem_cons_of_mem _ hb).then_heap (Nat.le_succ _) fun b o hb e => ?_) mv2) hS4⟩
    · rw [only.2 b fun z => ha (z ▸ hb)]
      exact e
    · rw [only.2 b fun z => hb (z ▸ List.mem_cons_self)]
      exact e
end
/-- what a new set looks like ahead of its first item -/
abbrev bareSet (led : Bool) : Obj := { cls := .type "set", dict := none, data := .set #[] 0 (.fresh 0 0 led) }
section
variable {P : Program} {w : World} {A : Around} {E : Value → Shared → Prop} {st : Shared}
/-- .. the heap behind the call: old things stay, the texts stand in the set at a, once each -/
def Made (P : Program) (w : World) (h0 : Heap) (a : Addr) (xs : List Str) (h1 : Heap) : Prop := h1.SetOf (PySem.strKind P w) a (fun y => (uniq xs).any (· == y)) (uniq xs).length ∧ ∀ b ob, b < h0.objs.size → h0.get? b = some ob → h1.get? b = some ob
theorem set_texts {l : Addr} {its : Array Value} {xs : List Str} {Q : Value → Shared → Prop} (hh : A.handled = none) (hl : st.heap.IsList l its) (hx : PyProof.Rows.StrsAre its.toList xs) (few : xs.length + 1 < scanBound)
    (done : ∀ h1 tk, Made P w st.heap st.heap.objs.size xs h1 → Q (.ref st.heap.objs.size) { st with heap := h1, toks := tk }) : wpAny (model P w) A (call (.type "set") [.ref l]) Q E st := by
  obtain ⟨c1, c2, order⟩ := PySem.F.called_set.mro
  have f1 := PySem.F.called_set.made
  have f2 := PySem.F.called_set.sub
  refine wpAny_call (codeAny_of_tree ?_)
  show wpAny _ _ (callAny (.type "set") _) _ _ _
  refine wpAny_pure ⟨Code.quiet_builtin _ (by decide +kernel), codeAny_builtin PySem.F.entry_type_call ?_⟩
  rw [Around.under_plain (weight_type_call_type "set" [.ref l] []) rfl]
  have f3 := PySem.F.called_set.notType
  have f4 := PySem.F.called_set.canCreate
  have f5 := PySem.F.typeCall_set_1 (.ref l)
  repeat (any_goals (first | assumption | wp_step))
  refine codeAny_mono (code_set_new_1 (.ref l) (E := E) (Q₁ := fun v s1 => ∃ led : Bool, v = .ref st.heap.objs.size ∧ s1 = { st with heap := st.heap.push (bareSet led) }) fun led => ⟨led, rfl, rfl⟩) fun r s1 hr => ?_
  cases r with
  | error e => exact hr
  | ok fl =>
    cases fl with
    | ret obj =>
      obtain ⟨led, rfl, rfl⟩ := hr
      have here : (st.heap.push (bareSet led)).get? st.heap.objs.size = some (bareSet led) := Heap.get?_push_size _ rfl
      have isSet : Shared.TypeIs { st with heap := st.heap.push (bareSet led) } (.ref st.heap.objs.size) "set" := ⟨_, here, rfl⟩
      have f6 := PySem.F.called_set.init.lookup
      have f7 := PySem.F.called_set.init.bind (.ref st.heap.objs.size)
      repeat (any_goals (first | assumption | wp_step))
      refine codeAny_mono (codeAny_call_builtin (R := wants (fun v s2 => v = .none ∧ ∃ h1 tk, s2 = { st with heap := h1, toks := tk } ∧ Made P w st.heap st.heap.objs.size xs h1) E) PySem.F.called_set.init.plain PySem.F.entry_set_init (check_set_init_1 isSet ?_)) fun r2 s2 hr2 => ?_
      · obtain ⟨⟨k1, k2, k3, k4⟩, lat, lc, nl, ld⟩ := hl
        dsimp only at lc ld
        subst lc ld
        have lat1 : (st.heap.push (bareSet led)).get? l = some { cls := .type "list", dict := k2, data := .seq its nl, slots := k4 } := Heap.get?_push_of_some _ lat
        have g1 := PySem.F.sub_list_set
        have g2 := PySem.F.sub_list_frozenset
        have g3 : (Value.type "list" == Value.type "dict") = false := by decide
        have isL : (st.heap.push (bareSet led)).IsList l its := ⟨_, lat1, rfl, nl, rfl⟩
        have low : l < st.heap.objs.size := Heap.lt_size lat
        unfold Builtin.«set.__init__» noKeywords Builtin.Frozenset.updateFrom
        generalize again : pyIter = PI
        wp_walk
        subst again
        refine wpAny_pyIter_list isL (wpAny_bind (wpAny_runValue ?_))
        have top : (st.heap.push (bareSet led)).objs.size = st.heap.objs.size + 1 := Heap.size_push ..
        have size : its.size = xs.length := by rw [← Array.length_toList, ← StrsAre.len_eq hx]
        refine loop_texts ((Walks.list (by simp [hh]) _ l (by rw [top]; exact Nat.ne_of_lt (Nat.lt_succ_of_lt low)) its).toS) st.heap.objs.size ?_ size (fun i v hv => SS.strs_at hx i v (by rw [Array.getElem?_toList]; exact hv)) (by rw [size]; exact few) its.size 0 _ (Nat.zero_add _) ⟨⟨_, Heap.get?_push_size _ rfl, rfl, rfl⟩, isL.push _⟩ ?_ ?_
        · rw [top]
          simp only [List.mem_cons, List.mem_singleton, List.not_mem_nil, or_false, not_or]
          exact ⟨Nat.ne_of_lt (Nat.lt_succ_self _), Nat.ne_of_gt low⟩
        · exact PyProof.Rows.SetOf_congr ((PyProof.Rows.setObjOf_fresh (knd := PySem.strKind P w) led).setOf (Heap.get?_push_of_some _ here) (by unfold scanBound; omega)) (fun _ => rfl) rfl
        · intro s3 mv hS
          rw [size, List.take_length] at hS
          obtain ⟨h3, g3, d3, t3, o3⟩ := s3
          obtain rfl : g3 = st.gens := mv.gens
          obtain rfl : d3 = st.drawn := mv.drawn
          obtain rfl : o3 = st.os := mv.os
          show wpAny _ _ _ _ _ _
          refine wpAny_pure ?_
          show wpAny _ _ (ret Value.none) _ _ _
          refine wpAny_pure ⟨rfl, h3, t3, rfl, hS, fun b ob hb e => mv.heap b ob ?_ (Heap.get?_push_of_some _ (Heap.get?_push_of_some _ e))⟩
          rw [top]
          simp only [List.mem_cons, List.mem_singleton, List.not_mem_nil, or_false, not_or]
          exact ⟨Nat.ne_of_lt hb, Nat.ne_of_lt (Nat.lt_succ_of_lt hb)⟩
      · cases r2 with
        | error e => exact hr2
        | ok fl2 =>
          cases fl2 with
          | ret v =>
            obtain ⟨rfl, h1, tk, rfl, made⟩ := hr2
            repeat (any_goals (first | assumption | wp_step))
            exact done _ _ made
          | _ => exact hr2.elim
    | _ => exact hr.elim
end
end My

namespace My
open PySem PySem.Spec PyProof.Rows L2
/-- len(set(xs)), xs a list of texts -/
def tLenSetT (K : PySem.W.Frag) (ta : TE) : TE := fun σ H Q => ta σ H fun x H1 => ∃ (l : Addr) (xs : List Str), x = .ref l ∧ SqL K H1 l (xs.map V.str) ∧ xs.length ≤ 30 ∧ Q (.int (uniq xs).length) H1
theorem pe_lenSetT {X : Cx} {a : Expr} {ta : TE} {p p2 q pos : Pos} (hc : X.calm = true) (hg : Gl X "len") (hm : X.mg "len" = none) (hg2 : Gl X "set") (hm2 : X.mg "set" = none) (ha : PE X a ta)
    (na : starEach [a] X.env = (false, eval a X.env) :: starEach [] X.env := by rfl) : PE X (.Call (.Name "len" p) [.Call (.Name "set" p2) [a] [] q] [] pos) (tLenSetT X.K ta) := by
  refine ⟨fun pins s σ H Q I h => ?_⟩
  refine Call_ (ld_blt I hg hm boot_len (PyProof.Rows.callWith_builtin1 (PyProof.Rows.args_cons ?_ rfl) rfl rfl))
  refine Call_ (ld_blt I hg2 hm2 boot_set (PyProof.Rows.callWith_type1 (PyProof.Rows.args_cons (thn (ha.run pins s σ H _ I h) fun v s1 hv => PyProof.Rows.args_nil ?_) na) na rfl))
  obtain ⟨x, H1, I1, r1, l, xs, rfl, hq, few, q1⟩ := hv
  cases r1
  obtain ⟨its, r, pl, hz⟩ := I1.list hq
  refine set_texts (I1.ok.hd hc) pl.isList (by simpa using strsAre_of r) (by unfold scanBound; omega) fun h1 tk made => PyProof.Rows.args_nil ?_
  obtain ⟨⟨ob, es, ep, t, ho, hex, hd, _, _, _, hf, hn⟩, old⟩ := made
  have I2 : Inv X pins σ H1 { s1 with heap := h1, toks := tk } := I1.kept fun b o e => old b o (Heap.lt_size e) e
  have z := (uniq_len xs).1
  exact call_len_set ho hex hd hf (by rw [hn]; omega) ⟨.int (uniq xs).length, H1, I2.tok _, ⟨_, by rw [hn]⟩, q1⟩
/-! ### a list != [] , whatever stands in it -/
def rNeNil : R2 := fun x y H Q => ∃ (a b : Addr) (xs : List V), x = .ref a ∧ y = .ref b ∧ H a = some (.lst xs) ∧ H b = some (.lst []) ∧ Q (.bl (!xs.isEmpty)) H
theorem op_neNil {X : Cx} (hu : X.A.units + 64 < cLine) : OpR X (compareOp .NotEq) rNeNil := by
  intro pins s σ H x y v u Q I rx ry h
  obtain ⟨a, b, xs, rfl, rfl, ha, hb, q⟩ := h
  cases rx
  cases ry
  obtain ⟨z, its, n, r, hl, e⟩ := I.lstM ha
  obtain ⟨z2, its2, n2, r2, hl2, e2⟩ := I.lstM hb
  have l1 : s.heap.IsList a its.toArray := ⟨_, e, rfl, n, rfl⟩
  have l2 : s.heap.IsList b its2.toArray := ⟨_, e2, rfl, n2, rfl⟩
  have l0 : its2 = [] := by
    cases its2 with
    | nil => rfl
    | cons => cases hl2
  subst l0
  cases xs with
  | nil =>
    have l3 : its = [] := by
      cases its with
      | nil => rfl
      | cons => cases hl
    subst l3
    exact SeqAt.RcNeAt.lists l1 l2 rfl (by omega) (e := fun _ => true) (fun j h1 h2 => absurd h1 (Nat.not_lt_zero j)) _ _ _ _ ⟨.bl false, H, I, rfl, q⟩
  | cons x0 r0 =>
    have big : its.length = r0.length + 1 := hl.symm
    exact SeqAt.RcNeAt.lists_lengths l1 l2 (by simp only [List.size_toArray, big, List.length_nil]; rfl) (by omega) _ _ _ _ ⟨.bl true, H, I, rfl, q⟩
end My

namespace My
open PySem PySem.Spec PyProof.Rows L2
/-! ### tuple(list), the new object told; dict of such a tuple of pairs -/
def rTupleF (K : PySem.W.Frag) : List V → Hp → VK → Prop := fun xs H Q => ∃ p ys, xs = [.ref p] ∧ SqL K H p ys ∧ ∀ l o, H l = none → o.dict = none → Q (.ref l) (upd H l (.frz o (.tup ys)))
theorem call_tupleF {X : Cx} : CallR X (.type "tuple") (rTupleF X.K) := by
  intro pins s σ H xs us Q I r h
  obtain ⟨p, ys, rfl, hq, q⟩ := h
  obtain ⟨u, rfl, rx⟩ := vals1 r
  cases rx
  obtain ⟨its, r', pl, hz⟩ := I.list hq
  have hlen := r'.length
  refine call_tuple_list pl.isList (fun h' kp => ?_) (by simp only [List.size_toArray] <;> omega)
  have I1 : Inv X pins σ H { s with heap := h' } := I.kept (t' := s.toks) kp
  have I2 : Inv X pins σ (upd H h'.objs.size (.frz { cls := .type "tuple", data := .seq its.toArray } (.tup ys))) { s with heap := h'.push { cls := .type "tuple", data := .seq its.toArray } } :=
    I1.laid (t' := s.toks) (fun b o e => Heap.get?_push_of_some _ e) (Nat.le_refl _) (show ObjOk X.prog X.w _ _ _ (.frz _ (.tup ys)) from ⟨Heap.get?_push_size _ rfl, hz, its, r', IsTup.new _ _⟩)
  exact ⟨.ref h'.objs.size, _, I2, rfl, q _ _ (I1.hok.fresh (Nat.le_refl _)) rfl⟩
/-- the pairs at ps as values -/
theorem pairs_at {X : Cx} {pins : List (Addr × Obj)} {σ : L2.St} {H : Hp} {s : Shared} (I : Inv X pins σ H s) : ∀ {ps : List Addr} {kvs : List (Key × V)}, Paired (fun p kv => SqT X.K H p [kV kv.1, kv.2]) ps kvs →
    ∃ (prs : List (Key × Value)) (raw : List (Value × Value)), KV kvs prs ∧ prs.length = ps.length ∧ raw.length = ps.length ∧ ∀ (j : Nat) (k v : Value), raw[j]? = some (k, v) → ∃ (b : Addr) (x : Key), ps[j]? = some b ∧ PySem.PairAt s.heap b k v ∧ prs[j]? = some (x, v) ∧ keyIs x k = true
  | _, _, .nil => ⟨[], [], .nil, rfl, rfl, fun j k v e => by simp at e⟩
  | _, _, .cons (a := p) (b := kv) h t => by
    obtain ⟨prs, raw, r, l1, l2, hp⟩ := pairs_at I t
    obtain ⟨its, rv, ht, _⟩ := I.tuple h
    obtain ⟨u, y, rfl, ru, ry⟩ := vals2 rv
    refine ⟨(kv.1, y) :: prs, (u, y) :: raw, .cons ⟨rfl, ry⟩ r, by rw [List.length_cons, List.length_cons, l1], by rw [List.length_cons, List.length_cons, l2], fun j k v e => ?_⟩
    cases j with
    | zero =>
      cases e
      exact ⟨p, kv.1, rfl, .inl ht, rfl, kV_is (P := X.prog) (w := X.w) ru⟩
    | succ j => exact hp j k v e
def rDictT (K : PySem.W.Frag) : List V → Hp → VK → Prop := fun xs H Q => ∃ (a : Addr) (ps : List Addr) (kvs : List (Key × V)) (o : Obj), xs = [.ref a] ∧ H a = some (.frz o (.tup (ps.map V.ref))) ∧ o.dict = none ∧ Paired (fun p kv => SqT K H p [kV kv.1, kv.2]) ps kvs ∧ ∀ q, H q = none → Q (.ref q) (upd H q (.dK (mergeK [] kvs)))
theorem call_dictT {X : Cx} (calm : X.calm = true) : CallR X (.type "dict") (rDictT X.K) := by
  intro pins s σ H xs us Q I r h
  obtain ⟨a, ps, kvs, o, rfl, ha, hd, hp, q⟩ := h
  obtain ⟨u, rfl, rx⟩ := vals1 r
  cases rx
  obtain ⟨ho, hz, its, rv, o2, ho2, hc, n, hdat⟩ := I.hok a _ ha
  cases ho.symm.trans ho2
  have ei := refs_at rv
  subst ei
  obtain ⟨prs, raw, rel, l1, l2, hpr⟩ := pairs_at I hp
  rw [List.length_map] at hz
  refine PySem.call_dict_pairs (knd := mixKind X.prog X.w) (kvs := prs) (PySem.PairArg.tuple a (ps.map Value.ref).toArray (fun j => ps.getD j 0) raw) (I.ok.hd calm) ⟨⟨o, n, ho, hc, hd, hdat⟩, ?_, fun j k v e => ?_⟩ ⟨by rw [l1, l2], fun j k v e => ?_⟩ (by rw [l2]; exact hz) fun h' tk hd' keep => ?_
  · rw [List.size_toArray, List.length_map, l2]
  · obtain ⟨b, x, e1, e2, e3, e4⟩ := hpr j k v e
    have eb : ps.getD j 0 = b := by rw [List.getD_eq_getElem?_getD, e1]; rfl
    show (ps.map Value.ref).toArray[j]? = some (.ref (ps.getD j 0)) ∧ PySem.PairAt s.heap (ps.getD j 0) k v
    rw [eb]
    exact ⟨by simp [e1], e2⟩
  · obtain ⟨b, x, e1, e2, e3, e4⟩ := hpr j k v e
    exact ⟨x, e3, e4⟩
  · have hm : (s.heap.objs.size == sysModules) = false := beq_eq_false_iff_ne.mpr (Nat.ne_of_gt I.big)
    have hlen : (mergeK [] kvs).length ≤ sizeLine := by
      have z := length_mergeK kvs []
      rw [List.length_nil, Nat.zero_add, rel.length, l1] at z
      omega
    have k : ∀ b u, s.heap.get? b = some u → h'.get? b = some u := fun b u e => keep b u (fun z => nomatch z) e
    exact ⟨.ref s.heap.objs.size, upd H s.heap.objs.size (.dK (mergeK [] kvs)), I.laid (t' := tk) k (Nat.le_refl _) (show ObjOk X.prog X.w _ _ _ (.dK (mergeK [] kvs)) from ⟨hlen, hm, merged [] prs, KV.merge rel .nil, hd'⟩), rfl, q _ (I.hok.fresh (Nat.le_refl _))⟩
end My

namespace My
open PySem PySem.Spec PyProof.Rows L2
/-! ### weaker words for + and slices of tuples: some tuple with these items, all else the same -/
def rCatX : R2 := fun x y H Q => ∃ a b xs ys, x = .ref a ∧ y = .ref b ∧ Rd H a (.tup xs) ∧ Rd H b (.tup ys) ∧ xs.length + ys.length ≤ sizeLine ∧ ∀ r H', Same H H' → Rd H' r (.tup (xs ++ ys)) → Q (.ref r) H'
theorem op_catX {X : Cx} : OpR X (binaryOp .Add) rCatX := by
  intro pins s σ H x y v u Q I rx ry h
  obtain ⟨a, b, xs, ys, rfl, rfl, ha, hb, hz, q⟩ := h
  refine op_catA pins s σ H _ _ v u Q I rx ry ⟨a, b, xs, ys, rfl, rfl, .inl ha, .inl hb, hz, fun e => ?_, fun _ e => ?_, fun _ _ p hp => ?_⟩
  · subst e
    exact q b H (L2.Same.refl H) hb
  · subst e
    exact q a H (L2.Same.refl H) (by rw [List.append_nil]; exact ha)
  · refine q p _ (fun c o e => ?_) (.inl upd_same)
    rw [upd_ne (ne_of_none e hp)]
    exact e
def rSlX : V → Option Int → Option Int → Hp → VK → Prop := fun x lo hi H Q => ∃ a xs, x = .ref a ∧ Rd H a (.tup xs) ∧ ∀ r H', Same H H' → Rd H' r (.tup (cutV xs lo hi)) → Q (.ref r) H'
theorem sl_X {X : Cx} : SlR X rSlX := by
  intro pins s σ H x v vl vu lo hi sl Q I rx hs pl pu h
  obtain ⟨a, xs, rfl, hx, q⟩ := h
  refine sl_tupA pins s σ H _ v vl vu lo hi sl Q I rx hs pl pu ⟨a, xs, rfl, .inl hx, fun w => ?_, fun _ p hp => ?_⟩
  · refine q a H (L2.Same.refl H) ?_
    unfold cutV
    rw [w.1, w.2, List.drop_zero, Nat.sub_zero, List.take_length]
    exact hx
  · refine q p _ (fun c o e => ?_) (.inl upd_same)
    rw [upd_ne (ne_of_none e hp)]
    exact e
/-! ### t[::-1] of a tuple -/
section
open MeetsSeq MeetsSeq2 MeetsSeq3 SeqRoads2
variable {P : Program} {w : World} {A : Around} {E : Value → Shared → Prop} {st : Shared}
theorem applied_back {sl : Addr} {v1 v2 v3 : Value} {n : Nat} {Q : Int × Int × Nat → Shared → Prop} (hs : st.heap.IsSliceOf sl v1 v2 v3) (p1 : IsPart v1 none) (p2 : IsPart v2 none) (p3 : IsPart v3 (some (-1)))
    (h : Q ((n : Int) - 1, -1, n) st) : wpAny (model P w) A (Builtin.Slice.sliceApplied (.ref sl) (pure (n : Int))) Q E st := by
  obtain ⟨ob, at1, cl1, da1⟩ := id hs
  unfold Builtin.Slice.sliceApplied Builtin.Slice.sliceFields
  refine wpAny_bind (wpAny_bind (wpAny_field at1 da1 (x := v1) rfl (wpAny_bind (wpAny_field at1 da1 (x := v2) rfl (wpAny_bind (wpAny_field at1 da1 (x := v3) rfl (wpAny_pure ?_)))))))
  refine wpAny_bind (HT.slicePart_ p3 ?_)
  show wpAny _ _ (if ((-1 : Int) == 0) = true then _ else _) _ _ st
  rw [if_neg (by decide)]
  refine wpAny_bind (HT.slicePart_ p1 (wpAny_bind (HT.slicePart_ p2 (wpAny_bind (wpAny_pure ?_)))))
  have adj : Builtin.Slice.sliceAdjust none none (-1) (n : Int) = ((n : Int) - 1, -1) := rfl
  have pla : Builtin.Slice.slicePlaces ((n : Int) - 1) (-1) (-1) = n := by
    unfold Builtin.Slice.slicePlaces
    rw [if_neg (by decide)]
    by_cases z : (n : Int) - 1 > -1
    · rw [if_pos z, show (- -1 : Int) = 1 by decide, Int.ediv_one]
      omega
    · rw [if_neg z]
      omega
  show wpAny _ _ (match Builtin.Slice.sliceAdjust none none (-1) (n : Int) with | (lo, hi) => pure (lo, (-1 : Int), Builtin.Slice.slicePlaces lo hi (-1))) _ _ st
  rw [adj]
  show wpAny _ _ (pure ((n : Int) - 1, (-1 : Int), Builtin.Slice.slicePlaces ((n : Int) - 1) (-1) (-1))) _ _ st
  rw [pla]
  exact wpAny_pure h
theorem fm_congr {α β : Type} {f g : α → Option β} : ∀ {l : List α}, (∀ a ∈ l, f a = g a) → l.filterMap f = l.filterMap g
  | [], _ => rfl
  | a :: r, h => by
    rw [List.filterMap_cons, List.filterMap_cons, h a List.mem_cons_self, fm_congr fun b hb => h b (List.mem_cons_of_mem _ hb)]
theorem pick_back (its : Array Value) : ((List.range its.size).filterMap fun (m : Nat) => its[(((its.size : Int) - 1) + (m : Int) * (-1)).toNat]?).toArray = its.toList.reverse.toArray := by
  have e : (List.range its.size).filterMap (fun (m : Nat) => its[(((its.size : Int) - 1) + (m : Int) * (-1)).toNat]?) = ((List.range its.size).map fun k => its.size - 1 - k).filterMap (its[·]?) := by
    rw [List.filterMap_map]
    refine fm_congr fun m hm => ?_
    have z := List.mem_range.mp hm
    have y : (((its.size : Int) - 1) + (m : Int) * (-1)).toNat = its.size - 1 - m := by omega
    show its[(((its.size : Int) - 1) + (m : Int) * (-1)).toNat]? = its[its.size - 1 - m]?
    rw [y]
  rw [e, PySem.W.krv_range, List.filterMap_reverse, PySem.W.krv_all]
theorem tuple_back {a sl : Addr} {its : Array Value} {v1 v2 v3 : Value} {Q : Value → Shared → Prop} (ht : IsTup st.heap a its) (hs : st.heap.IsSliceOf sl v1 v2 v3) (p1 : IsPart v1 none) (p2 : IsPart v2 none) (p3 : IsPart v3 (some (-1)))
    (h : Q (.ref st.heap.objs.size) { st with heap := st.heap.push { cls := .type "tuple", data := .seq its.toList.reverse.toArray } }) (few : its.size ≤ sizeLine) : wpAny (model P w) A (getItem (.ref a) (.ref sl)) Q E st := by
  have ok : sizeOk (.seq its.toList.reverse.toArray) := by
    show its.toList.reverse.toArray.size ≤ sizeLine
    rw [List.size_toArray, List.length_reverse, Array.length_toList]
    exact few
  obtain ⟨ob, at1, cl1, da1⟩ := id hs
  have isS : st.TypeIs (.ref sl) "slice" := ⟨ob, at1, cl1⟩
  unfold getItem
  try with_reducible refine wpAny_holding ?_
  first | refine wpAny_bind (wpAny_pure ?_) | skip
  refine wpAny_bind (wpAny_sequenceKey ht.typeIs (by decide) ?_)
  refine wpAny_bind (wpAny_callSpecial?_slot (name := Str.ofString "__getitem__") ht.typeIs PyProof.Rows.slot_tuple_getitem
    (wpAny_call_entry PyProof.Rows.slot_tuple_getitem ht.typeIs PyProof.Rows.entry_tuple_getitem ?_ (PyProof.Rows.args_tuple_getitem _ _)))
  show wpAny _ _ (Builtin.Tuple.tupleItemsOf (.ref a) >>= _) _ _ st
  refine wpAny_bind (PyProof.Rows.tupleItemsOf_ ht (wpAny_bind (wpAny_typeOf isS ?_)))
  rw [if_pos (by decide)]
  refine wpAny_bind (applied_back hs p1 p2 p3 ?_)
  have no : ¬ (((((its.size : Nat) : Int) - 1) == 0 && (-1 : Int) == 1 && its.size == its.size) = true) := by
    rw [show ((-1 : Int) == 1) = false by decide, Bool.and_false, Bool.false_and]
    decide
  show wpAny _ _ (if ((((its.size : Nat) : Int) - 1) == 0 && (-1 : Int) == 1 && its.size == its.size) = true then _ else _) _ _ st
  rw [if_neg no, pick_back]
  first
    | exact wpAny_bind (m := Builtin.Tuple.tupleExact _) (wpAny_newObj_type (wpAny_pure ⟨_, rfl, wpAny_pure h⟩) ok)
    | exact wpAny_bind (m := Builtin.Tuple.tupleExact _) (wpAny_newObj_type (wpAny_bind (wpAny_pure (wpAny_pure ⟨_, rfl, wpAny_pure h⟩))) ok)
    | exact wpAny_bind (wpAny_bind (m := Builtin.Tuple.tupleExact _) (wpAny_newObj_type (wpAny_pure (wpAny_pure ⟨_, rfl, wpAny_pure h⟩)) ok))
    | exact wpAny_bind (wpAny_bind (m := Builtin.Tuple.tupleExact _) (wpAny_newObj_type (wpAny_pure ⟨_, rfl, wpAny_pure h⟩) ok))
end
/-- t[::-1] -/
def tRevT (K : PySem.W.Frag) (te : TE) : TE := fun σ H Q => te σ H fun x H1 => ∃ a xs, x = .ref a ∧ SqT K H1 a xs ∧ ∀ p, H1 p = none → Q (.ref p) (upd H1 p (.tup xs.reverse))
theorem pe_revT {X : Cx} {e : Expr} {te : TE} {k : Nat} {p1 p2 p3 pos : Pos} (he : PE X e te) : PE X (.Subscript e (.Slice none none (some (.UnaryOp .USub (.Constant (.int 1) k p1) p2)) p3) pos) (tRevT X.K te) := by
  refine ⟨fun pins s σ H Q I h => Subscript_ (thn (he.run pins s σ H _ I h) fun v s1 hv => ?_)⟩
  obtain ⟨x, H1, I1, r1, a, xs, rfl, hx, q⟩ := hv
  cases r1
  have part : PO X (some (.UnaryOp .USub (.Constant (.int 1) k p1) p2)) (tPart (tUn (rU fun i => .int (-i)) (tC (.int 1)))) := po_some (pe_un un_neg pe_int)
  refine wpAny_Slice (thn (po_none.run pins s1 σ H1 (fun o H2 => o = none ∧ H2 = H1) I1 ⟨rfl, rfl⟩) fun vl s2 h2 => ?_)
  obtain ⟨_, H2, I2, pl, rfl, rfl⟩ := h2
  refine thn (po_none.run pins s2 σ H2 (fun o H3 => o = none ∧ H3 = H2) I2 ⟨rfl, rfl⟩) fun vu s3 h3 => ?_
  obtain ⟨_, H3, I3, pu, rfl, rfl⟩ := h3
  refine thn (part.run pins s3 σ H3 (fun o H4 => o = some (-1) ∧ H4 = H3) I3 ⟨1, rfl, -1, rfl, rfl, rfl⟩) fun vs s4 h4 => ?_
  obtain ⟨_, H4, I4, ps, rfl, rfl⟩ := h4
  have I5 : Inv X pins σ H4 { s4 with heap := s4.heap.push { cls := .type "slice", data := .fields #[vl, vu, vs] } } := I4.kept (t' := s4.toks) fun b ob q => Heap.get?_push_of_some _ q
  obtain ⟨its, r, ht, hz⟩ := I5.tuple hx
  have hlen := r.length
  show wpAny (model X.prog X.w) X.A (subscriptTail e (.Slice none none (some (.UnaryOp .USub (.Constant (.int 1) k p1) p2)) p3) (.ref a) (.ref s4.heap.objs.size)) (EP X pins σ Q) X.xe { s4 with heap := s4.heap.push { cls := .type "slice", data := .fields #[vl, vu, vs] } }
  refine tail_any (ops := [.ref a, .ref s4.heap.objs.size]) ht.typeIs (PyProof.Rows.slot_tuple_getitem.lookup) ?_ (by with_unfolding_all rfl)
  refine tuple_back ht (Heap.IsSliceOf.new _ vl vu vs) pl pu ps ?_ (by rw [List.size_toArray]; omega)
  exact ⟨.ref _, _, I5.laid (t' := s4.toks) (o := .tup xs.reverse) (fun b ob q => Heap.get?_push_of_some _ q) (Nat.le_refl _) ⟨by rw [List.length_reverse]; exact hz, _, r.reverse, IsTup.new _ _⟩, rfl, q _ (I5.hok.fresh (Nat.le_refl _))⟩
end My

namespace My
open PySem PySem.Spec PyProof.Rows L2
/-! ### xs.extend(t) -/
theorem ext_tup (l : Addr) (items : Array Value) (n : Nat) (b : Addr) (dd : Option Addr) (sl : Array (Option Value)) (items2 : Array Value) (n2 : Nat) (hs0 : ¬(!items.isEmpty && Builtin.List.listTooLong (items.size + items2.size)) = true) (hs1 : items.size ≤ sizeLine) (hs2 : items.size + items2.size ≤ sizeLine + 1) :
    Meets (Builtin.«list.extend» ⟨[.ref l, .ref b], []⟩) (fun _ R s => s.heap.get? l = some { cls := .type "list", dict := none, data := .seq items n, slots := #[] } ∧ s.heap.get? b = some { cls := .type "tuple", dict := dd, data := .seq items2 n2, slots := sl } ∧ R (.ok (.ret Value.none)) { s with heap := s.heap.update l (Obj.mapSeq fun x => x ++ items2), toks := s.toks }) :=
  .of_wp fun prog w A R s h => by
    obtain ⟨hp, g, d, tk, os⟩ := s
    obtain ⟨hl, hb, h⟩ := h
    have f1 := AutoSeq1.idx_int
    have f2 := AutoSeq1.sub_tuple_tuple
    have f3 := AutoSeq1.sub_list_list
    have f4 := AutoSeq1.sub_tuple_list
    have f5 := AutoSeq1.sub_list_tuple
    have hz' : (items ++ items2).size ≤ sizeLine + 1 := by rw [Array.size_append]; exact hs2
    wp_walk using (wpAny_updateSeq hl rfl (hz := hs1) (_hz' := hz')), AutoSeq1.wpAny_loadPart' hl, AutoSeq1.wpAny_loadPart' hb
    exact ⟨_, rfl, h⟩
def rExtendT (K : PySem.W.Frag) : V → List V → Hp → VK → Prop := fun x vs H Q => ∃ l b xs zs, x = .ref l ∧ vs = [.ref b] ∧ H l = some (.lst xs) ∧ SqT K H b zs ∧ xs.length + zs.length ≤ sizeLine ∧ Q .non (upd H l (.lst (xs ++ zs)))
theorem mt_extendT {X : Cx} : MtR X "list.extend" (rExtendT X.K) := by
  intro pins s σ H x vs v us Q I rx rv h
  obtain ⟨l, b, xs, zs, rfl, rfl, hH, hB, hz, q⟩ := h
  cases rx
  obtain ⟨u, rfl, ru⟩ := rv.one
  cases ru
  obtain ⟨z, its, n, r, hl, e⟩ := I.lstM hH
  obtain ⟨its2, r2, ⟨⟨cls, dd, data, sl⟩, ho, hc, n2, hd⟩, hz2⟩ := I.tuple hB
  simp only at hc hd
  subst hc hd
  have hl2 := r2.length
  have hsz : its.toArray.size + its2.toArray.size ≤ sizeLine := by rw [List.size_toArray, List.size_toArray]; omega
  have hlong : ¬ (!its.toArray.isEmpty && Builtin.List.listTooLong (its.toArray.size + its2.toArray.size)) = true := by
    rw [notLongL hsz, Bool.and_false]
    exact Bool.false_ne_true
  refine call_meets F.slot_list_extend ⟨_, e, rfl⟩ F.entry_list_extend (F.args_list_extend_2 _ _)
    (ext_tup l its.toArray n b dd sl its2.toArray n2 hlong (by rw [List.size_toArray]; omega) (by omega)) ⟨e, ho, ?_⟩
  refine ⟨.non, _, I.lset (its' := its ++ its2) hH e (by simp) (r.append r2) ?_, rfl, q⟩
  rw [List.length_append]
  omega
/-! ### t * n, some tuple with these items -/
theorem tuple_mulSame (l : Addr) (items : Array Value) (n : Nat) (dd : Option Addr) (sl : Array (Option Value)) (u : Tok) :
    Meets (Builtin.«tuple.__mul__» ⟨[.ref l, .int 1 u], []⟩) (fun _ R s => s.heap.get? l = some { cls := .type "tuple", dict := dd, data := .seq items n, slots := sl } ∧ R (.ok (.ret (Value.ref l))) s) :=
  .of_wp fun prog w A R s h => by
    obtain ⟨hp, g, d, tk, os⟩ := s
    obtain ⟨hl, h⟩ := h
    have f1 := AutoSeq1.idx_int
    have c1 : (items.isEmpty || (1 : Int) == 1) = true := by rw [show ((1 : Int) == 1) = true by decide, Bool.or_true]
    wp_walk using AutoSeq1.wpAny_loadPart' hl
    repeat (first
      | (refine wpAny_ite_true c1 ?_; wp_walk using AutoSeq1.wpAny_loadPart' hl)
      | (refine wpAny_ite_false (by decide) ?_; wp_walk using AutoSeq1.wpAny_loadPart' hl))
    exact ⟨_, rfl, h⟩
theorem tuple_mulZero (l : Addr) (items : Array Value) (n : Nat) (dd : Option Addr) (sl : Array (Option Value)) (u : Tok) (he : items.isEmpty = false) :
    Meets (Builtin.«tuple.__mul__» ⟨[.ref l, .int 0 u], []⟩) (fun _ R s => s.heap.get? l = some { cls := .type "tuple", dict := dd, data := .seq items n, slots := sl } ∧ R (.ok (.ret (Value.ref s.heap.objs.size))) { s with heap := s.heap.push { cls := Value.type "tuple", data := Data.seq #[] }, toks := s.toks }) :=
  .of_wp fun prog w A R s h => by
    obtain ⟨hp, g, d, tk, os⟩ := s
    obtain ⟨hl, h⟩ := h
    have f1 := AutoSeq1.idx_int
    have c1 : (items.isEmpty || (0 : Int) == 1) = false := by rw [he]; decide
    have c2 : (decide ((0 : Int) ≤ 0) || items.isEmpty) = true := by rw [he]; decide
    wp_walk using AutoSeq1.wpAny_loadPart' hl
    repeat (first
      | (refine wpAny_ite_false (decide_eq_false (by rw [c1]; exact Bool.false_ne_true)) ?_; wp_walk using AutoSeq1.wpAny_loadPart' hl)
      | (refine wpAny_ite_true (decide_eq_true c2) ?_; wp_walk using AutoSeq1.wpAny_loadPart' hl)
      | (refine wpAny_ite_true c2 ?_; wp_walk using AutoSeq1.wpAny_loadPart' hl)
      | (refine wpAny_ite_false (by decide) ?_; wp_walk using AutoSeq1.wpAny_loadPart' hl))
    exact ⟨_, rfl, h⟩
def rRepX : R2 := fun x y H Q => ∃ l k xs, x = .ref l ∧ y = .int k ∧ Rd H l (.tup xs) ∧ xs ≠ [] ∧ 0 ≤ k ∧ k ≤ 1000 ∧ xs.length ≤ 1000 ∧ ∀ r H', Same H H' → Rd H' r (.tup (List.replicate k.toNat xs).flatten) → Q (.ref r) H'
theorem op_repX {X : Cx} : OpR X (binaryOp .Mult) rRepX := by
  intro pins s σ H x y v u Q I rx ry h
  obtain ⟨l, k, xs, rfl, rfl, hT, hne, h1, h2, hz, q⟩ := h
  have new : ∀ (p : Addr) (zs : List V), H p = none → zs = (List.replicate k.toNat xs).flatten → Q (.ref p) (upd H p (.tup zs)) := fun p zs hp e => q p _ (fun c o z => by rw [upd_ne (ne_of_none z hp)]; exact z) (.inl (by rw [upd_same, e]))
  by_cases k2 : 2 ≤ k
  · exact op_repT pins s σ H _ _ v u Q I rx ry ⟨l, k, xs, rfl, rfl, .inl hT, hne, k2, h2, hz, fun p hp => new p _ hp rfl⟩
  · cases rx
    obtain ⟨t, rfl⟩ := ry
    obtain ⟨its, r, ⟨⟨cls, dd, data, sl⟩, ho, hc, n, hd⟩, hs⟩ := I.tuple (show SqT X.K H l xs from .inl hT)
    simp only at hc hd
    subst hc hd
    have hle : its.length = xs.length := r.length.symm
    have hi : its.toArray.isEmpty = false := by
      cases its with
      | nil => exact absurd (List.eq_nil_of_length_eq_zero hle.symm) hne
      | cons a b => rfl
    have k01 : k = 0 ∨ k = 1 := by omega
    rcases k01 with rfl | rfl
    · refine wpAny_binaryOp_repeat_ref (T := "tuple") (U := "int") (by decide) ⟨_, ho, rfl⟩ (fun s' => typeIs_int s' 0 t) noFill_tuple_mul F.fills_int_mul F.slot_int_rmul repeat_tuple F.slot_int_index.lookup
        (call_meets F.slot_int_rmul (typeIs_int s 0 t) F.entry_int_rmul (F.args_int_rmul_2 _ _) (int_rmul_tuple 0 t l its.toArray n dd sl)
          ⟨ho, rfl, ⟨_, ho, rfl⟩, call_meets F.slot_tuple_mul ⟨_, ho, rfl⟩ F.entry_tuple_mul (F.args_tuple_mul_2 _ _) (tuple_mulZero l its.toArray n dd sl t hi) ⟨ho, ?_⟩⟩)
      refine ⟨.ref s.heap.objs.size, _, I.laid (t' := s.toks) (o := .tup []) (fun b ob q => Heap.get?_push_of_some _ q) (Nat.le_refl _) ?_, rfl, new _ _ (I.hok.fresh (Nat.le_refl _)) rfl⟩
      exact ⟨Nat.zero_le _, [], .nil, IsTup.new _ _⟩
    · refine wpAny_binaryOp_repeat_ref (T := "tuple") (U := "int") (by decide) ⟨_, ho, rfl⟩ (fun s' => typeIs_int s' 1 t) noFill_tuple_mul F.fills_int_mul F.slot_int_rmul repeat_tuple F.slot_int_index.lookup
        (call_meets F.slot_int_rmul (typeIs_int s 1 t) F.entry_int_rmul (F.args_int_rmul_2 _ _) (int_rmul_tuple 1 t l its.toArray n dd sl)
          ⟨ho, rfl, ⟨_, ho, rfl⟩, call_meets F.slot_tuple_mul ⟨_, ho, rfl⟩ F.entry_tuple_mul (F.args_tuple_mul_2 _ _) (tuple_mulSame l its.toArray n dd sl t) ⟨ho, ?_⟩⟩)
      refine ⟨.ref l, H, I, rfl, q l H (L2.Same.refl H) ?_⟩
      have e : (List.replicate (1 : Int).toNat xs).flatten = xs := by simp
      rw [e]
      exact hT
end My

namespace My
open PySem PySem.Spec PyProof.Rows L2
/-! ### t[:0:-1] of a tuple -/
section
open MeetsSeq MeetsSeq2 MeetsSeq3 SeqRoads2
variable {P : Program} {w : World} {A : Around} {E : Value → Shared → Prop} {st : Shared}
theorem applied_tail {sl : Addr} {v1 v2 v3 : Value} {n : Nat} {Q : Int × Int × Nat → Shared → Prop} (hn : 0 < n) (hs : st.heap.IsSliceOf sl v1 v2 v3) (p1 : IsPart v1 none) (p2 : IsPart v2 (some 0)) (p3 : IsPart v3 (some (-1)))
    (h : Q ((n : Int) - 1, -1, n - 1) st) : wpAny (model P w) A (Builtin.Slice.sliceApplied (.ref sl) (pure (n : Int))) Q E st := by
  obtain ⟨ob, at1, cl1, da1⟩ := id hs
  unfold Builtin.Slice.sliceApplied Builtin.Slice.sliceFields
  refine wpAny_bind (wpAny_bind (wpAny_field at1 da1 (x := v1) rfl (wpAny_bind (wpAny_field at1 da1 (x := v2) rfl (wpAny_bind (wpAny_field at1 da1 (x := v3) rfl (wpAny_pure ?_)))))))
  refine wpAny_bind (HT.slicePart_ p3 ?_)
  show wpAny _ _ (if ((-1 : Int) == 0) = true then _ else _) _ _ st
  rw [if_neg (by decide)]
  refine wpAny_bind (HT.slicePart_ p1 (wpAny_bind (HT.slicePart_ p2 (wpAny_bind (wpAny_pure ?_)))))
  have adj : Builtin.Slice.sliceAdjust none (some 0) (-1) (n : Int) = ((n : Int) - 1, 0) := by
    show ((n : Int) - 1, min (0 : Int) ((n : Int) - 1)) = _
    rw [Int.min_eq_left (by omega)]
  have pla : Builtin.Slice.slicePlaces ((n : Int) - 1) 0 (-1) = n - 1 := by
    unfold Builtin.Slice.slicePlaces
    rw [if_neg (by decide)]
    by_cases z : (n : Int) - 1 > 0
    · rw [if_pos z, show (- -1 : Int) = 1 by decide, Int.ediv_one]
      omega
    · rw [if_neg z]
      omega
  show wpAny _ _ (match Builtin.Slice.sliceAdjust none (some 0) (-1) (n : Int) with | (lo, hi) => pure (lo, (-1 : Int), Builtin.Slice.slicePlaces lo hi (-1))) _ _ st
  rw [adj]
  show wpAny _ _ (pure ((n : Int) - 1, (-1 : Int), Builtin.Slice.slicePlaces ((n : Int) - 1) 0 (-1))) _ _ st
  rw [pla]
  exact wpAny_pure h
theorem pick_tailL : ∀ L : List Value, L ≠ [] → (List.range (L.length - 1)).filterMap (fun (m : Nat) => L[L.length - 1 - m]?) = (L.drop 1).reverse := by
  intro L hL
  cases L with
  | nil => exact absurd rfl hL
  | cons x r =>
    have full : (List.range (r.length + 1)).filterMap (fun (m : Nat) => (x :: r)[r.length - m]?) = (x :: r).reverse := by
      have e : (List.range (r.length + 1)).filterMap (fun (m : Nat) => (x :: r)[r.length - m]?) = ((List.range (x :: r).length).map fun k => (x :: r).length - 1 - k).filterMap ((x :: r)[·]?) := by
        rw [List.filterMap_map]
        refine fm_congr fun m hm => ?_
        have z := List.mem_range.mp hm
        show (x :: r)[r.length - m]? = (x :: r)[(x :: r).length - 1 - m]?
        rw [List.length_cons, Nat.add_sub_cancel]
      have a := PySem.W.krv_range (x :: r).length
      have b := PySem.W.krv_all (x :: r).toArray
      rw [e, a, List.filterMap_reverse]
      simpa using b
    rw [List.range_succ, List.filterMap_append, List.reverse_cons] at full
    have last : (List.filterMap (fun (m : Nat) => (x :: r)[r.length - m]?) [r.length]) = [x] := by simp
    rw [last] at full
    show (List.range ((x :: r).length - 1)).filterMap (fun (m : Nat) => (x :: r)[(x :: r).length - 1 - m]?) = r.reverse
    rw [List.length_cons, Nat.add_sub_cancel]
    exact List.append_cancel_right full
theorem pick_tail (its : Array Value) (h : 0 < its.size) : ((List.range (its.size - 1)).filterMap fun (m : Nat) => its[(((its.size : Int) - 1) + (m : Int) * (-1)).toNat]?).toArray = (its.toList.drop 1).reverse.toArray := by
  have e : (List.range (its.size - 1)).filterMap (fun (m : Nat) => its[(((its.size : Int) - 1) + (m : Int) * (-1)).toNat]?) = (List.range (its.toList.length - 1)).filterMap (fun (m : Nat) => its.toList[its.toList.length - 1 - m]?) := by
    rw [Array.length_toList]
    refine fm_congr fun m hm => ?_
    have z := List.mem_range.mp hm
    have y : (((its.size : Int) - 1) + (m : Int) * (-1)).toNat = its.size - 1 - m := by omega
    rw [y, Array.getElem?_toList]
  rw [e, pick_tailL _ (fun z => by
    have y := congrArg List.length z
    rw [Array.length_toList, List.length_nil] at y
    omega)]
theorem tuple_tail {a sl : Addr} {its : Array Value} {v1 v2 v3 : Value} {Q : Value → Shared → Prop} (hn : 0 < its.size) (ht : IsTup st.heap a its) (hs : st.heap.IsSliceOf sl v1 v2 v3) (p1 : IsPart v1 none) (p2 : IsPart v2 (some 0)) (p3 : IsPart v3 (some (-1)))
    (h : Q (.ref st.heap.objs.size) { st with heap := st.heap.push { cls := .type "tuple", data := .seq (its.toList.drop 1).reverse.toArray } }) (few : its.size ≤ sizeLine) : wpAny (model P w) A (getItem (.ref a) (.ref sl)) Q E st := by
  have ok : sizeOk (.seq (its.toList.drop 1).reverse.toArray) := by
    show (its.toList.drop 1).reverse.toArray.size ≤ sizeLine
    rw [List.size_toArray, List.length_reverse, List.length_drop, Array.length_toList]
    omega
  obtain ⟨ob, at1, cl1, da1⟩ := id hs
  have isS : st.TypeIs (.ref sl) "slice" := ⟨ob, at1, cl1⟩
  unfold getItem
  try with_reducible refine wpAny_holding ?_
  first | refine wpAny_bind (wpAny_pure ?_) | skip
  refine wpAny_bind (wpAny_sequenceKey ht.typeIs (by decide) ?_)
  refine wpAny_bind (wpAny_callSpecial?_slot (name := Str.ofString "__getitem__") ht.typeIs PyProof.Rows.slot_tuple_getitem
    (wpAny_call_entry PyProof.Rows.slot_tuple_getitem ht.typeIs PyProof.Rows.entry_tuple_getitem ?_ (PyProof.Rows.args_tuple_getitem _ _)))
  show wpAny _ _ (Builtin.Tuple.tupleItemsOf (.ref a) >>= _) _ _ st
  refine wpAny_bind (PyProof.Rows.tupleItemsOf_ ht (wpAny_bind (wpAny_typeOf isS ?_)))
  rw [if_pos (by decide)]
  refine wpAny_bind (applied_tail hn hs p1 p2 p3 ?_)
  have no : ¬ (((((its.size : Nat) : Int) - 1) == 0 && (-1 : Int) == 1 && its.size - 1 == its.size) = true) := by
    rw [show ((-1 : Int) == 1) = false by decide, Bool.and_false, Bool.false_and]
    decide
  show wpAny _ _ (if ((((its.size : Nat) : Int) - 1) == 0 && (-1 : Int) == 1 && its.size - 1 == its.size) = true then _ else _) _ _ st
  rw [if_neg no, pick_tail its hn]
  first
    | exact wpAny_bind (m := Builtin.Tuple.tupleExact _) (wpAny_newObj_type (wpAny_pure ⟨_, rfl, wpAny_pure h⟩) ok)
    | exact wpAny_bind (m := Builtin.Tuple.tupleExact _) (wpAny_newObj_type (wpAny_bind (wpAny_pure (wpAny_pure ⟨_, rfl, wpAny_pure h⟩))) ok)
    | exact wpAny_bind (wpAny_bind (m := Builtin.Tuple.tupleExact _) (wpAny_newObj_type (wpAny_pure (wpAny_pure ⟨_, rfl, wpAny_pure h⟩)) ok))
    | exact wpAny_bind (wpAny_bind (m := Builtin.Tuple.tupleExact _) (wpAny_newObj_type (wpAny_pure ⟨_, rfl, wpAny_pure h⟩) ok))
end
/-- t[:0:-1] -/
def tTailT (K : PySem.W.Frag) (te : TE) : TE := fun σ H Q => te σ H fun x H1 => ∃ a xs, x = .ref a ∧ SqT K H1 a xs ∧ 0 < xs.length ∧ ∀ p, H1 p = none → Q (.ref p) (upd H1 p (.tup (xs.drop 1).reverse))
theorem vals_drop {xs : List V} {its : List Value} (r : Vals xs its) : Vals (xs.drop 1) (its.drop 1) := by
  cases r with
  | nil => exact .nil
  | cons _ t => exact t
theorem pe_tailT {X : Cx} {e : Expr} {te : TE} {k k0 : Nat} {p0 p1 p2 p3 pos : Pos} (he : PE X e te) : PE X (.Subscript e (.Slice none (some (.Constant (.int 0) k0 p0)) (some (.UnaryOp .USub (.Constant (.int 1) k p1) p2)) p3) pos) (tTailT X.K te) := by
  refine ⟨fun pins s σ H Q I h => Subscript_ (thn (he.run pins s σ H _ I h) fun v s1 hv => ?_)⟩
  obtain ⟨x, H1, I1, r1, a, xs, rfl, hx, hn, q⟩ := hv
  cases r1
  have part : PO X (some (.UnaryOp .USub (.Constant (.int 1) k p1) p2)) (tPart (tUn (rU fun i => .int (-i)) (tC (.int 1)))) := po_some (pe_un un_neg pe_int)
  have part0 : PO X (some (.Constant (.int 0) k0 p0)) (tPart (tC (.int 0))) := po_some pe_int
  refine wpAny_Slice (thn (po_none.run pins s1 σ H1 (fun o H2 => o = none ∧ H2 = H1) I1 ⟨rfl, rfl⟩) fun vl s2 h2 => ?_)
  obtain ⟨_, H2, I2, pl, rfl, rfl⟩ := h2
  refine thn (part0.run pins s2 σ H2 (fun o H3 => o = some 0 ∧ H3 = H2) I2 ⟨0, rfl, rfl, rfl⟩) fun vu s3 h3 => ?_
  obtain ⟨_, H3, I3, pu, rfl, rfl⟩ := h3
  refine thn (part.run pins s3 σ H3 (fun o H4 => o = some (-1) ∧ H4 = H3) I3 ⟨1, rfl, -1, rfl, rfl, rfl⟩) fun vs s4 h4 => ?_
  obtain ⟨_, H4, I4, ps, rfl, rfl⟩ := h4
  have I5 : Inv X pins σ H4 { s4 with heap := s4.heap.push { cls := .type "slice", data := .fields #[vl, vu, vs] } } := I4.kept (t' := s4.toks) fun b ob q => Heap.get?_push_of_some _ q
  obtain ⟨its, r, ht, hz⟩ := I5.tuple hx
  have hlen := r.length
  show wpAny (model X.prog X.w) X.A (subscriptTail e (.Slice none (some (.Constant (.int 0) k0 p0)) (some (.UnaryOp .USub (.Constant (.int 1) k p1) p2)) p3) (.ref a) (.ref s4.heap.objs.size)) (EP X pins σ Q) X.xe { s4 with heap := s4.heap.push { cls := .type "slice", data := .fields #[vl, vu, vs] } }
  refine tail_any (ops := [.ref a, .ref s4.heap.objs.size]) ht.typeIs (PyProof.Rows.slot_tuple_getitem.lookup) ?_ (by with_unfolding_all rfl)
  refine tuple_tail (by rw [List.size_toArray]; omega) ht (Heap.IsSliceOf.new _ vl vu vs) pl pu ps ?_ (by rw [List.size_toArray]; omega)
  exact ⟨.ref _, _, I5.laid (t' := s4.toks) (o := .tup (xs.drop 1).reverse) (fun b ob q => Heap.get?_push_of_some _ q) (Nat.le_refl _) ⟨by rw [List.length_reverse, List.length_drop]; omega, _, (vals_drop r).reverse, IsTup.new _ _⟩, rfl, q _ (I5.hok.fresh (Nat.le_refl _))⟩
end My

namespace My
open PySem PySem.Spec PyProof.Rows L2
/-! ### things as data, whole: none, bools, ints, texts, lists, tuples, the empty dict -/
mutual
inductive Da (H : Hp) : V → PyData → Prop
  | non : Da H .non .none
  | bl (b : Bool) : Da H (.bl b) (.bool b)
  | int (i : Int) : Da H (.int i) (.int i)
  | str (z : Str) : Da H (.str z) (.str z)
  | lst {a : Addr} {xs : List V} {ds : List PyData} (e : H a = some (.lst xs)) (h : DaAll H xs ds) : Da H (.ref a) (.list ds)
  | tup {a : Addr} {xs : List V} {ds : List PyData} (e : Rd H a (.tup xs)) (h : DaAll H xs ds) : Da H (.ref a) (.tuple ds)
  | dct {a : Addr} (e : H a = some (.dK [])) : Da H (.ref a) (.dict [])
inductive DaAll (H : Hp) : List V → List PyData → Prop
  | nil : DaAll H [] []
  | cons {v : V} {vs : List V} {d : PyData} {ds : List PyData} (h : Da H v d) (t : DaAll H vs ds) : DaAll H (v :: vs) (d :: ds)
end
theorem rd_same {H H' : Hp} {a : Addr} {u : HO} (h : Rd H a u) (s : Same H H') : Rd H' a u := h.elim (fun e => .inl (s _ _ e)) fun ⟨o, e⟩ => .inr ⟨o, s _ _ e⟩
mutual
theorem Da.same {H H' : Hp} (s : Same H H') : ∀ {d : PyData} {v : V}, Da H v d → Da H' v d
  | _, _, .non => .non
  | _, _, .bl b => .bl b
  | _, _, .int i => .int i
  | _, _, .str z => .str z
  | _, _, .lst e h => .lst (s _ _ e) (DaAll.same s h)
  | _, _, .tup e h => .tup (rd_same e s) (DaAll.same s h)
  | _, _, .dct e => .dct (s _ _ e)
theorem DaAll.same {H H' : Hp} (s : Same H H') : ∀ {ds : List PyData} {vs : List V}, DaAll H vs ds → DaAll H' vs ds
  | _, _, .nil => .nil
  | _, _, .cons h t => .cons (Da.same s h) (DaAll.same s t)
end
theorem DaAll.length {H : Hp} : ∀ {ds : List PyData} {vs : List V}, DaAll H vs ds → vs.length = ds.length
  | _, _, .nil => rfl
  | _, _, .cons _ t => by rw [List.length_cons, List.length_cons, t.length]
theorem DaAll.get {H : Hp} : ∀ {ds : List PyData} {vs : List V} {i : Nat} {v : V}, DaAll H vs ds → vs[i]? = some v → ∃ d, ds[i]? = some d ∧ Da H v d
  | _, _, i, _, .nil, e => by cases i <;> cases e
  | _, _, 0, _, .cons h _, e => by
    cases e
    exact ⟨_, rfl, h⟩
  | _, _, i + 1, _, .cons _ t, e => t.get (i := i) e
theorem DaAll.at {H : Hp} : ∀ {ds : List PyData} {vs : List V} {i : Nat} {d : PyData}, DaAll H vs ds → ds[i]? = some d → ∃ v, vs[i]? = some v ∧ Da H v d
  | _, _, i, _, .nil, e => by cases i <;> cases e
  | _, _, 0, _, .cons h _, e => by
    cases e
    exact ⟨_, rfl, h⟩
  | _, _, i + 1, _, .cons _ t, e => t.at (i := i) e
theorem DaAll.app {H : Hp} : ∀ {ds es : List PyData} {vs ws : List V}, DaAll H vs ds → DaAll H ws es → DaAll H (vs ++ ws) (ds ++ es)
  | _, _, _, _, .nil, g => g
  | _, _, _, _, .cons h t, g => .cons h (t.app g)
theorem DaAll.drop {H : Hp} : ∀ {ds : List PyData} {vs : List V} (n : Nat), DaAll H vs ds → DaAll H (vs.drop n) (ds.drop n)
  | _, _, 0, h => by simpa using h
  | _, _, n + 1, .nil => by simpa using DaAll.nil
  | _, _, n + 1, .cons _ t => by simpa using t.drop n
theorem DaAll.take {H : Hp} : ∀ {ds : List PyData} {vs : List V} (n : Nat), DaAll H vs ds → DaAll H (vs.take n) (ds.take n)
  | _, _, 0, _ => by simpa using DaAll.nil
  | _, _, n + 1, .nil => by simpa using DaAll.nil
  | _, _, n + 1, .cons h t => by simpa using DaAll.cons h (t.take n)
theorem DaAll.rev {H : Hp} : ∀ {ds : List PyData} {vs : List V}, DaAll H vs ds → DaAll H vs.reverse ds.reverse
  | _, _, .nil => .nil
  | _, _, .cons h t => by
    rw [List.reverse_cons, List.reverse_cons]
    exact t.rev.app (.cons h .nil)
/-- the built-in type of a thing -/
def tyDa : PyData → String
  | .none => "NoneType"
  | .bool _ => "bool"
  | .int _ => "int"
  | .str _ => "str"
  | .list _ => "list"
  | .tuple _ => "tuple"
  | .dict _ => "dict"
theorem Da.ty {K : PySem.W.Frag} {H : Hp} {d : PyData} {v : V} (h : Da H v d) : TyX K H v (.type (tyDa d)) := by
  cases h with
  | non => exact .base .non
  | bl b => exact .base (.bl b)
  | int i => exact .base (.int i)
  | str z => exact .base (.str z)
  | lst e h => exact .base (.lst e)
  | dct e => exact .base (.dK e)
  | tup e h =>
    rcases e with e | ⟨o, e⟩
    · exact .base (.tup e)
    · exact .fTuple e
def dT : PyData → Bool | .tuple _ => true | _ => false
def dL : PyData → Bool | .list _ => true | _ => false
def dS : PyData → Bool | .str _ => true | _ => false
def dI : PyData → Bool | .int _ => true | .bool _ => true | _ => false
def dB : PyData → Bool | .bool _ => true | _ => false
theorem kit_tup (d : PyData) : kitB (tyDa d) "tuple" = some (dT d) := by cases d <;> (simp only [tyDa, dT]; decide +kernel)
theorem kit_lst (d : PyData) : kitB (tyDa d) "list" = some (dL d) := by cases d <;> (simp only [tyDa, dL]; decide +kernel)
theorem kit_str (d : PyData) : kitB (tyDa d) "str" = some (dS d) := by cases d <;> (simp only [tyDa, dS]; decide +kernel)
theorem kit_int (d : PyData) : kitB (tyDa d) "int" = some (dI d) := by cases d <;> (simp only [tyDa, dI]; decide +kernel)
theorem kit_bool (d : PyData) : kitB (tyDa d) "bool" = some (dB d) := by cases d <;> (simp only [tyDa, dB]; decide +kernel)
/-! ### what is read of it -/
mutual
def noL : PyData → Bool
  | .list _ => false
  | .tuple ds => noLs ds
  | .none | .bool _ | .int _ | .str _ | .dict _ => true
def noLs : List PyData → Bool
  | [] => true
  | d :: r => noL d && noLs r
end
section
variable {X : Cx} {pins : List (Addr × Obj)} {σ : L2.St} {H : Hp} {s : Shared}
mutual
theorem Da.reads (I : Inv X pins σ H s) : ∀ (d : PyData) (v : V) (u : Value), Da H v d → RelV v u → ∃ as, Reads s.heap u d as ∧ (noL d = true → sysModules ∉ as)
  | .none, _, _, h, r => by
    cases h
    cases r
    exact ⟨_, .none, fun _ z => nomatch z⟩
  | .bool b, _, _, h, r => by
    cases h
    cases r
    exact ⟨_, .bool b, fun _ z => nomatch z⟩
  | .int i, _, _, h, r => by
    cases h
    obtain ⟨t, rfl⟩ := r
    exact ⟨_, .int i t, fun _ z => nomatch z⟩
  | .str x, _, _, h, r => by
    cases h
    obtain ⟨t, rfl⟩ := r
    exact ⟨_, .str x t, fun _ z => nomatch z⟩
  | .list ds, _, _, h, r => by
    cases h with
    | lst e ha =>
      cases r
      obtain ⟨z, its, n, rv, ho⟩ := I.hok _ _ e
      obtain ⟨as, ra, _⟩ := Da.readsAll I ds _ its ha rv
      exact ⟨_, .list ho rfl rfl (by simpa using ra), fun z => by simp [noL] at z⟩
  | .tuple ds, _, _, h, r => by
    cases h with
    | tup e ha =>
      cases r
      obtain ⟨its, rv, ⟨o, ho, hc, n, hd⟩, hz⟩ := I.tuple (show SqT X.K H _ _ from .inl e)
      obtain ⟨as, ra, na⟩ := Da.readsAll I ds _ its ha rv
      exact ⟨_, .tuple ho hc hd (by simpa using ra), fun z => na (by simpa only [noL] using z)⟩
  | .dict kvs, _, _, h, r => by
    cases h with
    | dct e =>
      cases r
      obtain ⟨_, hne, vs, kv, o, es, ep, ho, hx, hdat, _, hp, _⟩ := I.hok _ _ e
      cases kv with
      | nil =>
        have he : es.toList = [] := by
          revert hp
          generalize es.toList = l
          intro hp
          cases hp
          rfl
        refine ⟨_, .dict ho hx.1 hdat (by rw [he]; exact .nil) (by rw [he]; exact .nil), fun _ z => ?_⟩
        simp only [List.append_nil, List.mem_singleton] at z
        rw [← z] at hne
        exact absurd hne (by decide)
theorem Da.readsAll (I : Inv X pins σ H s) : ∀ (ds : List PyData) (vs : List V) (us : List Value), DaAll H vs ds → Vals vs us → ∃ as, ReadsAll s.heap us ds as ∧ (noLs ds = true → sysModules ∉ as)
  | [], _, _, h, r => by
    cases h
    cases r
    exact ⟨_, .nil, fun _ z => nomatch z⟩
  | d :: ds, _, _, h, r => by
    cases h with
    | cons h t =>
      cases r with
      | cons r rt =>
        obtain ⟨as, ra, na⟩ := Da.reads I d _ _ h r
        obtain ⟨bs, rb, nb⟩ := Da.readsAll I ds _ _ t rt
        refine ⟨_, .cons ra rb, fun z => ?_⟩
        simp only [noLs, Bool.and_eq_true] at z
        intro m
        rcases List.mem_append.mp m with m | m
        · exact na z.1 m
        · exact nb z.2 m
end
end
/-! ### repr of it -/
structure rReprD (xs : List V) (H : Hp) (Q : VK) : Prop where
  ex : ∃ x d, xs = [x] ∧ Da H x d ∧ d.showable = true ∧ (d.hasDict = true → noL d = true) ∧ d.depth ≤ 60 ∧ d.shown.length ≤ sizeLine ∧ Q (.str d.shown) H
theorem call_reprD {X : Cx} (quiet : X.A.guards = some []) (hu : X.A.units + 64 < cLine) : CallR X (.builtin "repr") rReprD := by
  intro pins s σ H xs us Q I r h
  obtain ⟨x, d, rfl, hd, h1, h2, h3, h4, q⟩ := h
  obtain ⟨u, rfl, ru⟩ := vals1 r
  obtain ⟨as, rd, hs⟩ := Da.reads I d x u hd ru
  cases hd with
  | non =>
    cases (show u = Value.none from ru)
    exact PySem.P.repr_of_none ⟨.str "None", H, I.tok _, ⟨_, rfl⟩, by simpa only [PyData.shown] using q⟩
  | bl b =>
    cases (show u = Value.bool b from ru)
    exact PySem.P.repr_of_bool ⟨.str (if b then "True" else "False"), H, I.tok _, ⟨_, rfl⟩, by simpa only [PyData.shown] using q⟩
  | int i =>
    obtain ⟨tk, rfl⟩ := (show ∃ t, u = Value.int i t from ru)
    exact PySem.P.repr_of_int (by simpa only [PyData.showable, decide_eq_true_eq] using h1) ⟨V.str (Str.ofString (toString i)), H, I.tok _, ⟨_, rfl⟩, by simpa only [PyData.shown] using q⟩
  | str z =>
    obtain ⟨tk, rfl⟩ := (show ∃ t, u = Value.str z t from ru)
    exact PySem.P.repr_of_str ⟨.str (reprText z), H, I.tok _, ⟨_, rfl⟩, by simpa only [PyData.shown] using q⟩ (by simpa only [PyData.shown] using h4)
  | @lst a ys ds e ha =>
    cases (show u = Value.ref a from ru)
    exact PySem.repr_of_reads' rd h1 (fun z => hs (h2 z)) quiet (by omega) (fun _ _ z => z) (fun h' v tk k => ⟨.str (PyData.list ds).shown, H, I.kept k, ⟨_, rfl⟩, q⟩) h4
  | @tup a ys ds e ha =>
    cases (show u = Value.ref a from ru)
    exact PySem.repr_of_reads' rd h1 (fun z => hs (h2 z)) quiet (by omega) (fun _ _ z => z) (fun h' v tk k => ⟨.str (PyData.tuple ds).shown, H, I.kept k, ⟨_, rfl⟩, q⟩) h4
  | @dct a e =>
    cases (show u = Value.ref a from ru)
    exact PySem.repr_of_reads' rd h1 (fun z => hs (h2 z)) quiet (by omega) (fun _ _ z => z) (fun h' v tk k => ⟨.str (PyData.dict []).shown, H, I.kept k, ⟨_, rfl⟩, q⟩) h4
/-! ### x in t, x and the items of t data -/
def rInTup (K : PySem.W.Frag) : R2 := fun x y H Q => ∃ d ds, Dp K H x d ∧ Dp K H y (.tuple ds) ∧ SeqAt.shaped d = true ∧ SeqAt.shaped (.tuple ds) = true ∧ Q (.bl (ds.any fun z => PyData.eqv z d)) H
theorem op_inTup {X : Cx} (hu : X.A.units + 65 < cLine) : OpR X (compareOp .In) (rInTup X.K) := by
  intro pins s σ H x y v u Q I rx ry h
  obtain ⟨d, ds, hd, he, sd, se, q⟩ := h
  obtain ⟨as, r1⟩ := Dp.reads I d x v hd rx
  obtain ⟨bs, r2⟩ := Dp.reads I (.tuple ds) y u he ry
  have c2 : PyData.canLayAll0 ds = true := by
    have z := SeqAt.canLay_of_shaped se
    simpa only [PyData.canLay0] using z
  exact SeqAt.in_tuple_reads r2 r1 c2 (SeqAt.canLay_of_shaped sd) (room_in_shaped sd hu) ⟨.bl _, H, I, rfl, q⟩
end My

namespace My
open PySem PySem.Spec PyProof.Rows L2
/-! ### a list == [], whatever stands in it -/
def rEqNil : R2 := fun x y H Q => ∃ (a b : Addr) (xs : List V), x = .ref a ∧ y = .ref b ∧ H a = some (.lst xs) ∧ H b = some (.lst []) ∧ Q (.bl xs.isEmpty) H
theorem op_eqNil {X : Cx} (hu : X.A.units + 64 < cLine) : OpR X (compareOp .Eq) rEqNil := by
  intro pins s σ H x y v u Q I rx ry h
  obtain ⟨a, b, xs, rfl, rfl, ha, hb, q⟩ := h
  cases rx
  cases ry
  obtain ⟨z, its, n, r, hl, e⟩ := I.lstM ha
  obtain ⟨z2, its2, n2, r2, hl2, e2⟩ := I.lstM hb
  have l1 : s.heap.IsList a its.toArray := ⟨_, e, rfl, n, rfl⟩
  have l2 : s.heap.IsList b its2.toArray := ⟨_, e2, rfl, n2, rfl⟩
  have l0 : its2 = [] := by
    cases its2 with
    | nil => rfl
    | cons => cases hl2
  subst l0
  cases xs with
  | nil =>
    have l3 : its = [] := by
      cases its with
      | nil => rfl
      | cons => cases hl
    subst l3
    exact SeqAt.RcAt.lists l1 l2 rfl (by omega) (e := fun _ => true) (fun j h1 h2 => absurd h1 (Nat.not_lt_zero j)) _ _ _ _ ⟨.bl true, H, I, rfl, q⟩
  | cons x0 r0 =>
    have big : its.length = r0.length + 1 := hl.symm
    exact SeqAt.RcAt.lists_lengths l1 l2 (by simp only [List.size_toArray, big, List.length_nil]; rfl) (by omega) _ _ _ _ ⟨.bl false, H, I, rfl, q⟩
theorem call_len_seqK {X : Cx} {K : PySem.W.Frag} (hK : X.K = K) : CallR X (.builtin "len") (fun xs H Q => ∃ p ys, xs = [V.ref p] ∧ (SqL K H p ys ∨ SqT K H p ys) ∧ Q (.int ys.length) H) := by
  subst hK
  exact call_len_seq
theorem pi_listK {X : Cx} {K : PySem.W.Frag} (hK : X.K = K) {tg e : Expr} {te : TE} (h : PE X e te) : PI X tg e (iList K te) := by
  subst hK
  exact pi_list h
theorem op_eqDK {X : Cx} {K : PySem.W.Frag} (hK : X.K = K) (hu : X.A.units + 64 < cLine) : OpR X (compareOp .Eq) (rEqD K) := by
  subst hK
  exact op_eqD hu
theorem u65 {k : Nat} {A : Around} (r : Room k A) : A.units + 65 < cLine := by have := r.un; omega
theorem op_in_tup {X : Cx} (hu : X.A.units + 65 < cLine) : OpR X (compareOp .In) (rInTup X.K) := op_inTup hu
/-! ### pairs as data -/
theorem eqv_pair (a b : Str) (i j : Int) : PyData.eqv (.tuple [.str a, .int i]) (.tuple [.str b, .int j]) = decide ((a, i) = (b, j)) := by
  have e : PyData.eqv (.tuple [.str a, .int i]) (.tuple [.str b, .int j]) = ((a == b) && ((i == j) && true)) := by simp only [PyData.eqv, PyData.eqvAll]
  rw [e, Bool.and_true]
  by_cases h1 : a = b
  · by_cases h2 : i = j
    · subst h1 h2
      simp
    · rw [beq_eq_false_iff_ne.mpr h2, Bool.and_false]
      exact (decide_eq_false fun z => h2 (Prod.mk.inj z).2).symm
  · rw [beq_eq_false_iff_ne.mpr h1, Bool.false_and]
    exact (decide_eq_false fun z => h1 (Prod.mk.inj z).1).symm
theorem sh_pair {a : Str} (h : ∀ c ∈ a.cps.toList, c < 1114112) (i : Int) : SeqAt.shaped (.tuple [.str a, .int i]) = true := by
  show ((PyData.tuple [.str a, .int i]).canLay0 && decide ((PyData.tuple [.str a, .int i]).depth ≤ 64)) = true
  have h1 : (PyData.tuple [.str a, .int i]).canLay0 = true := by
    simp only [PyData.canLay0, PyData.canLayAll0, Bool.and_true, PyData.strOk, Array.all_eq_true, decide_eq_true_eq]
    intro j hj
    exact h _ (by simp)
  rw [h1]
  simp [PyData.depth, PyData.depthAll]
end My

namespace My
open PySem PySem.Spec PyProof.Rows L2
/-- rs: the pairs ks, each a tuple of a tag and a number -/
inductive Prs (H : Hp) : List Addr → List (Str × Int) → Prop
  | nil : Prs H [] []
  | cons {r : Addr} {rs : List Addr} {p : Str × Int} {ks : List (Str × Int)} (e : Rd H r (.tup [.str p.1, .int p.2])) (t : Prs H rs ks) : Prs H (r :: rs) (p :: ks)
theorem Prs.length {H : Hp} {rs : List Addr} {ks : List (Str × Int)} (h : Prs H rs ks) : rs.length = ks.length := by
  induction h with
  | nil => rfl
  | cons _ _ ih => rw [List.length_cons, List.length_cons, ih]
theorem Prs.get {H : Hp} {rs : List Addr} {ks : List (Str × Int)} (h : Prs H rs ks) : ∀ {i : Nat} {r : Addr}, rs[i]? = some r → ∃ p, ks[i]? = some p ∧ Rd H r (.tup [.str p.1, .int p.2]) := by
  induction h with
  | nil =>
    intro i r e
    cases i <;> cases e
  | cons e _ ih =>
    intro i r h
    cases i with
    | zero =>
      cases h
      exact ⟨_, rfl, e⟩
    | succ i => exact ih h
theorem Prs.same {H H' : Hp} {rs : List Addr} {ks : List (Str × Int)} (h : Prs H rs ks) (s : Same H H') : Prs H' rs ks := by
  induction h with
  | nil => exact .nil
  | cons e _ ih => exact .cons (rd_same e s) ih
theorem Prs.snoc {H : Hp} {rs : List Addr} {ks : List (Str × Int)} {r : Addr} {p : Str × Int} (h : Prs H rs ks) (e : Rd H r (.tup [.str p.1, .int p.2])) : Prs H (rs ++ [r]) (ks ++ [p]) := by
  induction h with
  | nil => exact .cons e .nil
  | cons x _ ih => exact .cons x ih
/-- what grows at Y (a list) leaves the pairs as they are -/
theorem Prs.grow {H : Hp} {Y : Addr} {xs : List V} {o : HO} {rs : List Addr} {ks : List (Str × Int)} (h : Prs H rs ks) (hY : H Y = some (.lst xs)) : Prs (L2.upd H Y o) rs ks := by
  induction h with
  | nil => exact .nil
  | cons x _ ih =>
    refine .cons ?_ ih
    rcases x with x | ⟨o2, x⟩
    · refine .inl ?_
      rw [upd_ne fun z => ?_]
      · exact x
      · rw [z, hY] at x
        cases x
    · refine .inr ⟨o2, ?_⟩
      rw [upd_ne fun z => ?_]
      · exact x
      · rw [z, hY] at x
        cases x
/-- a: a new tuple of pairs, its object told -/
def KindF (H : Hp) (a : Addr) (ks : List (Str × Int)) : Prop := ∃ rs o, H a = some (.frz o (.tup (rs.map V.ref))) ∧ o.dict = none ∧ Prs H rs ks
theorem KindF.same {H H' : Hp} {a : Addr} {ks : List (Str × Int)} (h : KindF H a ks) (s : Same H H') : KindF H' a ks := by
  obtain ⟨rs, o, e, n, p⟩ := h
  exact ⟨rs, o, s _ _ e, n, p.same s⟩
/-! ### the parts of a tag -/
def kvK (ks : List (Str × Int)) : List (Key × V) := ks.map fun p => (Sum.inr p.1, V.int p.2)
theorem merge_no {j : Key} : ∀ (kvs acc : List (Key × V)), (∀ p ∈ kvs, p.1 ≠ j) → valV (mergeK acc kvs) j = valV acc j
  | [], _, _ => rfl
  | (k, v) :: r, acc, h => by
    show valV (mergeK (putK acc k v) r) j = _
    rw [merge_no r _ fun p hp => h p (List.mem_cons_of_mem _ hp), valV_put, if_neg fun z => h (k, v) List.mem_cons_self z.symm]
theorem merge_yes {j : Key} {x : V} : ∀ (kvs acc : List (Key × V)), (kvs.map (·.1)).Nodup → (j, x) ∈ kvs → valV (mergeK acc kvs) j = some x
  | [], _, _, h => nomatch h
  | (k, v) :: r, acc, nd, h => by
    show valV (mergeK (putK acc k v) r) j = _
    rw [List.map_cons, List.nodup_cons] at nd
    rcases List.mem_cons.mp h with e | h
    · cases e
      rw [merge_no r _ fun p hp z => nd.1 (List.mem_map.mpr ⟨p, hp, z⟩), valV_put, if_pos rfl]
    · exact merge_yes r _ nd.2 h
/-- what parts_of tells -/
def partsV (ks : List (Str × Int)) (t : Str) : V := (valV (mergeK [] (kvK ks)) (Sum.inr t)).getD .non
theorem parts_yes {ks : List (Str × Int)} {t : Str} {n : Int} (nd : (ks.map (·.1)).Nodup) (h : (t, n) ∈ ks) : partsV ks t = .int n := by
  unfold partsV
  have m : ((Sum.inr t : Key), V.int n) ∈ kvK ks := List.mem_map.mpr ⟨(t, n), h, rfl⟩
  have nd2 : ((kvK ks).map (·.1)).Nodup := by
    unfold kvK
    rw [List.map_map]
    have e : ((fun q : Key × V => q.1) ∘ fun p : Str × Int => ((Sum.inr p.1 : Key), V.int p.2)) = (fun s : Str => (Sum.inr s : Key)) ∘ fun p : Str × Int => p.1 := rfl
    rw [e, ← List.map_map]
    exact List.Pairwise.map _ (fun a b n z => n (Sum.inr.inj z)) nd
  rw [merge_yes _ _ nd2 m]
  rfl
theorem parts_no {ks : List (Str × Int)} {t : Str} (h : t ∉ ks.map (·.1)) : partsV ks t = .non := by
  unfold partsV
  rw [merge_no]
  · rfl
  · intro p hp z
    obtain ⟨q, hq, rfl⟩ := List.mem_map.mp hp
    exact h (List.mem_map.mpr ⟨q, hq, Sum.inr.inj z⟩)
theorem prs_pairs {K : PySem.W.Frag} {H : Hp} {rs : List Addr} {ks : List (Str × Int)} (h : Prs H rs ks) : Paired (fun p (kv : Key × V) => SqT K H p [kV kv.1, kv.2]) rs (kvK ks) := by
  induction h with
  | nil => exact .nil
  | cons e _ ih => exact .cons (.inl e) ih
end My

namespace My
open PySem PySem.Spec PyProof.Rows L2
/-! ### the text by places -/
def topS (i : Nat) : Stmt := PySem.Challenge.pw_layoutswap_k30_trees_recognized.main.body.getD i (.Pass ⟨0, 0, 0, 0⟩)
abbrev s_law_mixed : Stmt := topS 9
theorem sc_law_mixed : FnScope ["number", "lap", "prime", "found", "again"] ["number", "lap"] (defScope s_law_mixed) := ⟨rfl, rfl, rfl, by decide +kernel, rfl, by decide +kernel, by decide +kernel⟩
abbrev s_law_deck_of : Stmt := topS 10
theorem sc_law_deck_of : FnScope ["script", "cell", "cells", "place"] ["script"] (defScope s_law_deck_of) := ⟨rfl, rfl, rfl, by decide +kernel, rfl, by decide +kernel, by decide +kernel⟩
abbrev s_law_below : Stmt := topS 11
theorem sc_law_below : FnScope ["deck", "bound", "cells", "place", "amount", "found"] ["deck", "bound"] (defScope s_law_below) := ⟨rfl, rfl, rfl, by decide +kernel, rfl, by decide +kernel, by decide +kernel⟩
abbrev s_law_pick : Stmt := topS 12
theorem sc_law_pick : FnScope ["deck", "some"] ["deck", "some"] (defScope s_law_pick) := ⟨rfl, rfl, rfl, by decide +kernel, rfl, by decide +kernel, by decide +kernel⟩
/-! ### heaps -/
/-- all that was tracked is as it was, but what stands at p -/
def But (p : Addr) (H H' : Hp) : Prop := (∀ b o, H b = some o → b ≠ p → H' b = some o) ∧ H' p ≠ none
theorem But.trans {p : Addr} {H H1 H2 : Hp} (a : But p H H1) (b : But p H1 H2) : But p H H2 := ⟨fun c o e n => b.1 c o (a.1 c o e n) n, b.2⟩
theorem But.free {p : Addr} {H H' : Hp} (a : But p H H') {q : Addr} (h : H' q = none) : H q = none := by
  cases e : H q with
  | none => rfl
  | some o =>
    by_cases n : q = p
    · subst n
      exact absurd h a.2
    · rw [a.1 q o e n] at h
      cases h
theorem But.same {p : Addr} {H H1 H2 : Hp} (a : But p H H1) (b : Same H1 H2) : But p H H2 := ⟨fun c o e n => b c o (a.1 c o e n), fun z => by
  cases e : H1 p with
  | none => exact a.2 e
  | some o =>
    rw [b p o e] at z
    cases z⟩
theorem But.of {p : Addr} {H H1 : Hp} {o : HO} (h : H1 p = some o) (b : Same H H1) : But p H H1 := ⟨fun c o e n => b c o e, fun z => by
  rw [h] at z
  cases z⟩
theorem same_upd {H : Hp} {p : Addr} {o : HO} (h : H p = none) : Same H (upd H p o) := fun b x e => by
  rw [upd_ne (ne_of_none e h)]
  exact e
theorem but_upd {H : Hp} {p : Addr} {o : HO} : But p H (upd H p o) := ⟨fun b x e n => by
  rw [upd_ne n]
  exact e, fun z => by
  rw [upd_same] at z
  cases z⟩
/-- a pot at p, its cells at c -/
def Pot (H : Hp) (p c : Addr) : Prop := ∃ (ns : List Int) (pl am sz : Int), H p = some (.lst [.ref c, .int pl, .int am, .int sz]) ∧ H c = some (.lst (ns.map V.int)) ∧ ns.length ≤ 16
theorem pot_ne {H : Hp} {p c : Addr} {ns : List Int} {r : List V} (hp : H p = some (.lst (.ref c :: r))) (hc : H c = some (.lst (ns.map V.int))) : c ≠ p := fun z => by
  rw [z, hp] at hc
  cases ns with
  | nil => cases hc
  | cons x s => cases hc
theorem Pot.same {H H' : Hp} {p c : Addr} (h : Pot H p c) (s : Same H H') : Pot H' p c := by
  obtain ⟨ns, pl, am, sz, h1, h2, h3⟩ := h
  exact ⟨ns, pl, am, sz, s _ _ h1, s _ _ h2, h3⟩
theorem Pot.but {H H' : Hp} {p c q : Addr} (h : Pot H p c) (s : But q H H') (n1 : p ≠ q) (n2 : c ≠ q) : Pot H' p c := by
  obtain ⟨ns, pl, am, sz, h1, h2, h3⟩ := h
  exact ⟨ns, pl, am, sz, s.1 _ _ h1 n1, s.1 _ _ h2 n2, h3⟩
theorem at4 {x0 x1 x2 x3 : V} : atI [x0, x1, x2, x3] 0 = some x0 ∧ atI [x0, x1, x2, x3] 1 = some x1 ∧ atI [x0, x1, x2, x3] 2 = some x2 ∧ atI [x0, x1, x2, x3] 3 = some x3 := ⟨rfl, rfl, rfl, rfl⟩
theorem fmod_range {i j : Int} (h : 0 < j) : 0 ≤ i % j ∧ i % j < j := ⟨Int.emod_nonneg _ (by omega), Int.emod_lt_of_pos _ h⟩
theorem at_mod {ns : List Int} {pl : Int} (h : ns ≠ []) : ∃ z, atI (ns.map V.int) (pl % (ns.length : Int)) = some (.int z) := by
  have hl : 0 < ns.length := by
    cases ns with
    | nil => exact absurd rfl h
    | cons => exact Nat.succ_pos _
  have a := fmod_range (i := pl) (j := (ns.length : Int)) (by omega)
  obtain ⟨j, hj⟩ : ∃ j : Nat, pl % (ns.length : Int) = (j : Int) := ⟨(pl % (ns.length : Int)).toNat, by omega⟩
  have hjl : j < ns.length := by omega
  refine ⟨ns[j], ?_⟩
  rw [hj]
  refine atI_nat ?_
  rw [List.getElem?_map, List.getElem?_eq_getElem hjl]
  rfl
/-! ### data: lists of ints, of texts -/
theorem dp_ints {K : PySem.W.Frag} {H : Hp} : ∀ ns : List Int, DpAll K H (ns.map V.int) (ns.map PyData.int)
  | [] => .nil
  | n :: r => .cons (.int n) (dp_ints r)
theorem lay_ints : ∀ ns : List Int, PyData.canLayAll0 (ns.map PyData.int) = true
  | [] => by simp [PyData.canLayAll0]
  | n :: r => by simp [PyData.canLayAll0, PyData.canLay0, lay_ints r]
theorem dep_ints : ∀ ns : List Int, PyData.depthAll (ns.map PyData.int) ≤ 1
  | [] => by simp [PyData.depthAll]
  | n :: r => by
    have h := dep_ints r
    simp only [List.map_cons, PyData.depthAll, PyData.depth]
    omega
theorem sh_of {d : PyData} (h1 : d.canLay0 = true) (h2 : d.depth ≤ 64) : SeqAt.shaped d = true := by
  show (d.canLay0 && decide (d.depth ≤ 64)) = true
  rw [h1, decide_eq_true h2]
  rfl
theorem sh_ints (ns : List Int) : SeqAt.shaped (.list (ns.map PyData.int)) = true := by
  have h := dep_ints ns
  exact sh_of (by simp only [PyData.canLay0]; exact lay_ints ns) (by simp only [PyData.depth]; omega)
theorem sh_nil : SeqAt.shaped (.list []) = true := sh_of (by simp [PyData.canLay0, PyData.canLayAll0]) (by simp [PyData.depth, PyData.depthAll])
theorem eqv_nil : ∀ ds : List PyData, PyData.eqv (.list ds) (.list []) = decide (ds = [])
  | [] => by simp [PyData.eqv, PyData.eqvAll]
  | _ :: _ => by simp [PyData.eqv, PyData.eqvAll]
theorem pos16 : (0 : Int) < 16 := by decide
theorem posQ : (0 : Int) < 998244353 := by decide
theorem posP : (0 : Int) < 2305843009213693951 := by decide
/-! ### what the module holds -/
structure TxtD (mg : Str → Option Value) : Prop where
  n_int : mg "int" = none
  n_range : mg "range" = none
  n_abs : mg "abs" = none
  n_enumerate : mg "enumerate" = none
  n_len : mg "len" = none
/-! ### promises -/
def spMixed : Sp := fun vs H Q _ => ∃ (a b : Int), vs = [.int a, .int b] ∧ ∀ v, Q (.int v) H
def spDeckOf (K : PySem.W.Frag) : Sp := fun vs H Q _ => ∃ (a : Addr) (ns : List Int), vs = [.ref a] ∧ SqL K H a (ns.map V.int) ∧ ns.length ≤ 63 ∧ ∀ p c H', Same H H' → H p = none → H c = none → Pot H' p c → Q (.ref p) H'
def spBelow : Sp := fun vs H Q _ => ∃ (p c : Addr) (b : Int), vs = [.ref p, .int b] ∧ Pot H p c ∧ 0 < b ∧ b < 1073741824 ∧ ∀ v H', 0 ≤ v → v < b → Pot H' p c → But p H H' → Q (.int v) H'
def spPick (K : PySem.W.Frag) : Sp := fun vs H Q _ => ∃ (p c l : Addr) (xs : List V), vs = [.ref p, .ref l] ∧ Pot H p c ∧ SqL K H l xs ∧ xs ≠ [] ∧ xs.length < 1073741824 ∧ (∀ H', But p H H' → SqL K H' l xs) ∧ ∀ v H', v ∈ xs → Pot H' p c → But p H H' → Q v H'
section
variable {P : Program} {w : World} {K : PySem.W.Frag} {mg : Str → Option Value} {base : Heap}
theorem ok_mixed {f : Addr} {fd : FuncData} {k : Nat} (F : Fun K "_law_mixed" "_law_mixed" s_law_mixed f fd) (T : TxtD mg) : FnOk P w K mg base CX0 (k + 1) f fd ["number", "lap"] spMixed := by
  refine F.ok sc_law_mixed (fun vs H Q E h => ?_) (fun cdv A outer s H vs Q E hr h => ?_)
  · obtain ⟨a, b, rfl, _⟩ := h
    rfl
  · obtain ⟨a, b, rfl, q⟩ := h
    refine ⟨_, (pss_cons (ps_set (i := 2) sc_law_mixed.nd rfl (.inl rfl) pe_int)
  (pss_cons (ps_set (i := 3) sc_law_mixed.nd rfl (.inl rfl) (pe_op op_mod (pe_op op_add (pe_op op_add (pe_op op_mul (pv 0) pe_int) (pe_op op_mul (pv 1) pe_int)) pe_int) (pv 2)))
  (pss_cons (ps_for PassesOwn.never rfl (pi_range1 (by rfl) T.n_range (pa_cons pe_int pa_nil)) (pg_name (i := 4) sc_law_mixed.nd rfl (.inl rfl))
   (pss_one (ps_set (i := 3) sc_law_mixed.nd rfl (.inl rfl) (pe_op op_mod (pe_op op_add (pe_op op_add (pe_op op_add (pe_op op_mul (pv 3) (pv 3)) (pe_op op_mul pe_int (pv 3))) (pe_op op_mul pe_int (pv 4))) (pv 1)) (pv 2)))))
  (pss_one (ps_ret (pe_op op_add (pe_op op_mul (pv 3) (pv 2)) (pe_op op_mod (pe_op op_add (pe_op op_mul (pv 3) pe_int) (pv 1)) (pv 2)))))))), ?_⟩
    refine ⟨_, rfl, _, _, rfl, rfl, .inr ⟨by decide, by decide⟩, _, rfl, _, _, rfl, rfl, .inr ⟨by decide, by decide⟩, _, _, rfl, rfl, _, _, rfl, rfl, _, rfl, _, _, rfl, rfl, posP, ?_⟩
    refine ⟨4, rfl, by decide, by decide, for_range (n := 4) (fun i σ H2 => H2 = H ∧ ∃ (am : Int) (v : Option V), σ = [some (.int a), some (.int b), some (.int 2305843009213693951), some (.int am), v] ∧ 0 ≤ am ∧ am < 2305843009213693951)
      ⟨rfl, _, none, rfl, (fmod_range (by decide)).1, (fmod_range (by decide)).2⟩ ?_ ?_⟩
    · rintro i σ H2 hi ⟨rfl, am, v, rfl, h1, h2⟩
      refine ⟨_, rfl, _, rfl, _, _, rfl, rfl, .inl ⟨by omega, by omega⟩, _, rfl, _, _, rfl, rfl, .inl ⟨by decide, by decide⟩, _, _, rfl, rfl, _, rfl, _, _, rfl, rfl, .inl ⟨by decide, by decide⟩, _, _, rfl, rfl, _, rfl, _, _, rfl, rfl, _, rfl, _, _, rfl, rfl, posP, ?_⟩
      exact ⟨rfl, _, _, rfl, (fmod_range (by decide)).1, (fmod_range (by decide)).2⟩
    · rintro σ H2 ⟨rfl, am, v, rfl, h1, h2⟩
      refine ⟨_, rfl, _, rfl, _, _, rfl, rfl, .inl ⟨by omega, by omega⟩, _, rfl, _, _, rfl, rfl, .inl ⟨by omega, by omega⟩, _, rfl, _, _, rfl, rfl, _, rfl, _, _, rfl, rfl, posP, ?_⟩
      exact ⟨_, _, rfl, rfl, q _⟩
theorem cut_map (ns : List Int) (lo hi : Option Int) : cutV (ns.map V.int) lo hi = ((ns.drop (HT.sIx ns.length 0 lo)).take (HT.sIx ns.length ns.length hi - HT.sIx ns.length 0 lo)).map V.int := by
  unfold cutV
  rw [List.length_map, List.map_take, List.map_drop]
theorem ok_deck_of {f : Addr} {fd : FuncData} {k : Nat} (F : Fun K "_law_deck_of" "_law_deck_of" s_law_deck_of f fd) (T : TxtD mg) : FnOk P w K mg base CX0 (k + 1) f fd ["script"] (spDeckOf K) := by
  refine F.ok sc_law_deck_of (fun vs H Q E h => ?_) (fun cdv A outer s H vs Q E hr h => ?_)
  · obtain ⟨a, ns, rfl, _⟩ := h
    rfl
  · obtain ⟨a, ns, rfl, hS, hl, q⟩ := h
    refine ⟨_, (pss_cons (ps_setLc (i := 2) (own := [("cell", 1)]) (g := gName 1) rfl sc_law_deck_of.nd rfl rfl (sw_true rfl rfl rfl (by decide +kernel)) (pi_list (pe_slice sl_list (pv 0) po_none (po_some pe_int))) (blkOk_by (own := [("cell", 1)]) (N := ["script", "cell", "cells", "place"]) (sc := defScope s_law_deck_of) (by decide +kernel)) (fun _ _ _ _ _ => (pg_name (i := 1) sc_law_deck_of.nd rfl (.inl rfl))) (fun _ _ _ _ _ => pts_nil) (fun _ _ _ _ _ => (pe_callB call_abs (by rfl) T.n_abs (by decide +kernel) (pa_cons (pv 1) pa_nil))))
  (pss_cons (ps_for PassesOwn.never rfl (pi_enum (by rfl) T.n_enumerate (pa_cons (pe_slice sl_list (pv 0) (po_some pe_int) (po_some pe_int)) pa_nil)) (pg_tup rfl (pgs_cons (pg_name (i := 3) sc_law_deck_of.nd rfl (.inl rfl)) (pgs_cons (pg_name (i := 1) sc_law_deck_of.nd rfl (.inl rfl)) pgs_nil)))
   (pss_one (ps_asg (pe_op op_add (pe_ix ix_list (pv 2) (pe_op op_mod (pv 3) pe_int) (fun _ _ => rfl)) (pe_callB call_abs (by rfl) T.n_abs (by decide +kernel) (pa_cons (pv 1) pa_nil))) (pg_sub (pv 2) (pe_op op_mod (pv 3) pe_int) set_list))))
  (pss_one (ps_ret (pe_lst (pa_cons (pv 2) (pa_cons pe_int (pa_cons pe_int (pa_cons pe_int pa_nil))))))))), ?_⟩
    -- cells
    refine ⟨_, rfl, _, rfl, a, _, rfl, hS, fun p1 n1 => ?_⟩
    rw [cut_map]
    generalize hm : (ns.drop (HT.sIx ns.length 0 none)).take (HT.sIx ns.length ns.length (some 16) - HT.sIx ns.length 0 none) = ms
    have lm : ms.length = min 16 ns.length := by
      rw [← hm, HT.sIx_none, show HT.sIx ns.length ns.length (some 16) = min 16 ns.length from HT.sIx_nat ns.length ns.length 16]
      rw [List.drop_zero, List.length_take]
      omega
    have s1 : Same H (upd H p1 (.lst (ms.map V.int))) := same_upd n1
    refine ⟨p1, rfl, ⟨_, .inl (.inl upd_same)⟩, fun D nD => ?_⟩
    have nDH : H D = none := s1.free nD
    have nDp : p1 ≠ D := fun z => by
      rw [z, upd_same] at nD
      cases nD
    refine lc_list (K := K) (a := p1) (xs := ms.map V.int) (fun i H2 => Same (upd H p1 (.lst (ms.map V.int))) H2 ∧ ∃ zs : List Int, H2 D = some (.lst (zs.map V.int)) ∧ zs.length = i) ⟨same_upd nD, [], upd_same, rfl⟩ (fun i H2 _ h => .inl (.inl (h.1 _ _ upd_same))) ?_ ?_
    · rintro i x H2 hi ⟨s2, zs, hz, hlz⟩
      have hil : i < ms.length := by
        have h := (List.getElem?_eq_some_iff.mp hi).1
        rw [List.length_map] at h
        exact h
      rw [List.getElem?_map, List.getElem?_eq_getElem hil] at hi
      obtain rfl : V.int ms[i] = x := Option.some.inj hi
      refine ⟨rfl, ?_⟩
      unfold tYes
      dsimp only
      rw [if_pos rfl]
      refine ⟨_, rfl, _, rfl, _, hz, ?_, ?_, ?_⟩
      · rw [List.length_map]
        exact small1000 (by omega)
      · exact fun b o e => by
          have hb : b ≠ D := ne_of_none e nD
          rw [upd_ne hb]
          exact s2 b o e
      · refine ⟨zs ++ [if ms[i] < 0 then -ms[i] else ms[i]], ?_, ?_⟩
        · rw [upd_same, List.map_append]
          rfl
        · rw [List.length_append, hlz]
          rfl
    · rintro H2 ⟨s2, zs, hz, hlz⟩
      have sH : Same H H2 := s1.trans s2
      rw [List.length_map] at hlz
      -- enumerate(script[16:63])
      refine ⟨_, rfl, _, rfl, _, rfl, a, _, rfl, sH.seq hS, fun p2 n2 => ?_⟩
      rw [cut_map]
      generalize hm2 : (ns.drop (HT.sIx ns.length 0 (some 16))).take (HT.sIx ns.length ns.length (some 63) - HT.sIx ns.length 0 (some 16)) = ms2
      have lm2 : ms2.length = min 63 ns.length - 16 := by
        rw [← hm2, show HT.sIx ns.length ns.length (some 63) = min 63 ns.length from HT.sIx_nat ns.length ns.length 63, show HT.sIx ns.length 0 (some 16) = min 16 ns.length from HT.sIx_nat ns.length 0 16]
        rw [List.length_take, List.length_drop]
        omega
      have s3 : Same H2 (upd H2 p2 (.lst (ms2.map V.int))) := same_upd n2
      have nDp2 : D ≠ p2 := ne_of_none hz n2
      refine ⟨p2, _, rfl, .inl (.inl upd_same), ?_⟩
      refine for_it (walk_enum (xs := ms2.map V.int)) (fun i σ H3 => Same H H3 ∧ H3 p2 = some (.lst (ms2.map V.int)) ∧ ∃ (zs : List Int) (y z : Option V), σ = [some (.ref a), y, some (.ref D), z] ∧ H3 D = some (.lst (zs.map V.int)) ∧ zs.length = ms.length)
        ⟨sH.trans s3, upd_same, zs, _, _, rfl, s3 _ _ hz, hlz⟩ (fun i σ H3 _ h => .inl (.inl h.2.1)) ?_ ?_
      · rintro i x σ H3 H4 hi ⟨s4, h4, zs4, y, z, rfl, hz4, lz4⟩ ⟨T4, x4, y4, rfl, nT, rfl, ex, ey⟩
        rw [List.length_map] at hi
        have ey : (ms2.map V.int)[i]? = some y4 := ey
        rw [List.getElem?_map, List.getElem?_eq_getElem hi] at ey
        obtain rfl : V.int ms2[i] = y4 := Option.some.inj ey
        obtain rfl : V.int (i : Nat) = x4 := Option.some.inj ex
        have l17 : zs4.length = 16 := by omega
        have r := fmod_range (i := ((i : Nat) : Int)) (j := 16) (by omega)
        obtain ⟨j, hj⟩ : ∃ j : Nat, ((i : Nat) : Int) % 16 = (j : Int) := ⟨(((i : Nat) : Int) % 16).toNat, by omega⟩
        have hjl : j < zs4.length := by omega
        have s5 : Same H3 (upd H3 T4 (.tup [.int (i : Nat), .int ms2[i]])) := same_upd nT
        have hz5 := s5 _ _ hz4
        refine ⟨T4, _, rfl, .inl (.inl upd_same), rfl, _, _, rfl, _, _, rfl, rfl, ?_⟩
        refine ⟨_, rfl, _, rfl, _, _, rfl, rfl, pos16, D, _, _, V.int zs4[j], rfl, rfl, .inl (.inl hz5), ?_, _, rfl, _, rfl, _, _, rfl, rfl, _, rfl, _, rfl, _, _, rfl, rfl, pos16, D, _, _, j, rfl, rfl, hz5, ?_, ?_⟩
        · rw [hj]
          refine atI_nat ?_
          rw [List.getElem?_map, List.getElem?_eq_getElem hjl]
          rfl
        · rw [List.length_map, hj]
          unfold ixN
          rw [if_pos (by omega), if_pos (by omega)]
          rfl
        · refine ⟨?_, ?_, zs4.set j (zs4[j] + (if ms2[i] < 0 then -ms2[i] else ms2[i])), _, _, rfl, ?_, ?_⟩
          · exact fun b o e => by
              have hb : b ≠ D := ne_of_none e nDH
              rw [upd_ne hb]
              exact s5 _ _ (s4 b o e)
          · rw [upd_ne (fun z => nDp2 z.symm)]
            exact s5 _ _ h4
          · rw [upd_same, List.map_set]
          · rw [List.length_set]
            exact lz4
      · rintro σ H3 ⟨s4, h4, zs4, y, z, rfl, hz4, lz4⟩
        refine ⟨_, rfl, ?_, fun p np => ?_⟩
        · show 4 ≤ sizeLine
          decide
        · have s6 : Same H3 (upd H3 p (.lst [.ref D, .int 0, .int 0, .int 0])) := same_upd np
          exact q p D _ (s4.trans s6) (s4.free np) nDH ⟨zs4, 0, 0, 0, upd_same, s6 _ _ hz4, by omega⟩
theorem ok_below {f fk : Addr} {fd fdk : FuncData} {k : Nat} (F : Fun K "_law_below" "_law_below" s_law_below f fd) (T : TxtD mg) (F__law_mixed : Fun K "_law_mixed" "_law_mixed" s_law_mixed fk fdk) (b__law_mixed : Binds K fdk ["number", "lap"] []) (g_k : mg "_law_mixed" = some (.ref fk)) :
    FnOk P w K mg base CX0 (k + 2) f fd ["deck", "bound"] spBelow := by
  have G__law_mixed : FnOk P w K mg base CX0 1 fk fdk ["number", "lap"] spMixed := ok_mixed F__law_mixed T
  refine F.ok sc_law_below (fun vs H Q E h => ?_) (fun cdv A outer s H vs Q E hr h => ?_)
  · obtain ⟨p, c, b, rfl, _⟩ := h
    rfl
  · obtain ⟨p, c, b, rfl, ⟨ns, pl, am, sz, hp, hc, hl⟩, b0, b1, q⟩ := h
    refine ⟨_, (C8.pss_cut (ps_if (pt_cmpR op_lt (pe_ix ix_list (pv 0) pe_int (fun _ _ => rfl)) (pv 1) (nomark _))
   (pss_cons (ps_par (i := 2) (j := 3) (by rfl) sc_law_below.nd rfl rfl (by decide) rfl rfl (pa_cons (pe_ix ix_list (pv 0) pe_int (fun _ _ => rfl)) (pa_cons (pe_ix ix_list (pv 0) pe_int (fun _ _ => rfl)) pa_nil)) (by rfl))
  (C8.pss_cut (ps_set (i := 4) sc_law_below.nd rfl (.inl rfl) (pe_ifExp (pt_cmpR (op_neD hr.units) (pv 2) (pe_lst pa_nil) (nomark _)) (pe_ix ix_list (pv 2) (pe_op op_mod (pv 3) (pe_callB call_len_seq (by rfl) T.n_len (by decide +kernel) (pa_cons (pv 2) pa_nil))) (fun _ _ => rfl)) pe_int))
  (C8.pss_cut (ps_if (PW.pt (pw_or (pt_cmpR op_ge (pv 3) (pe_callB call_len_seq (by rfl) T.n_len (by decide +kernel) (pa_cons (pv 2) pa_nil)) (nomark _)) (pw_or1 (pt_cmpR op_lt (pv 4) (pe_op op_pow pe_int pe_int) (nomark _)))))
   (pss_one (ps_set (i := 4) sc_law_below.nd rfl (.inl rfl) (pe_call G__law_mixed (hr.mono (by omega)) (by rfl) g_k F__law_mixed.kp b__law_mixed .nil pass0 (pa_cons (pe_op op_mod (pe_callTy call_int1 (by rfl) T.n_int (by decide +kernel) (pa_cons (pv 4) pa_nil)) pe_int) (pa_cons (pv 3) pa_nil)))))
   pss_nil)
  (pss_cons (ps_asg (pe_op op_add (pv 3) pe_int) (pg_sub (pv 0) pe_int set_list))
  (pss_cons (ps_asg (pv 4) (pg_sub (pv 0) pe_int set_list))
  (pss_one (ps_asg (pv 4) (pg_sub (pv 0) pe_int set_list))))))))
   pss_nil)
  (pss_cons (ps_set (i := 5) sc_law_below.nd rfl (.inl rfl) (pe_op op_mod (pe_callTy call_int1 (by rfl) T.n_int (by decide +kernel) (pa_cons (pe_ix ix_list (pv 0) pe_int (fun _ _ => rfl)) pa_nil)) (pv 1)))
  (pss_cons (ps_asg (pe_op op_fdiv (pe_ix ix_list (pv 0) pe_int (fun _ _ => rfl)) (pv 1)) (pg_sub (pv 0) pe_int set_list))
  (pss_cons (ps_asg (pe_op op_fdiv (pe_ix ix_list (pv 0) pe_int (fun _ _ => rfl)) (pv 1)) (pg_sub (pv 0) pe_int set_list))
  (pss_one (ps_ret (pv 5))))))), ?_⟩
    have ncp : c ≠ p := pot_ne hp hc
    refine ⟨fun σ H2 => ∃ (pl2 am2 sz2 : Int) (x2 x3 x4 : Option V), σ = [some (.ref p), some (.int b), x2, x3, x4, none] ∧ But p H H2 ∧ H2 p = some (.lst [.ref c, .int pl2, .int am2, .int sz2]) ∧ H2 c = some (.lst (ns.map V.int)), ?_, ?_⟩
    · refine ⟨_, rfl, p, _, _, _, rfl, rfl, .inl (.inl hp), at4.2.2.2, _, rfl, _, _, rfl, rfl, _, rfl, ite2 (fun e => ?_) (fun e => ?_)⟩
      · refine ⟨_, rfl, p, _, _, _, rfl, rfl, .inl (.inl hp), at4.1, _, rfl, p, _, _, _, rfl, rfl, .inl (.inl hp), at4.2.1, _, _, rfl, ?_⟩
        -- amount = cells[..] if cells != [] else 0
        refine ⟨fun σ H2 => ∃ am3 : Int, σ = [some (.ref p), some (.int b), some (.ref c), some (.int pl), some (.int am3), none] ∧ Same H H2, ?_, ?_⟩
        · refine ⟨_, rfl, Nat.zero_le _, fun o no => ?_⟩
          have so : Same H (upd H o (.lst [])) := same_upd no
          have ho : SqL K (upd H o (.lst [])) o [] := .inl (.inl upd_same)
          have hp1 := so _ _ hp
          have hc1 := so _ _ hc
          refine ⟨_, _, .lst (.inl (.inl hc1)) (dp_ints ns), .lst ho .nil, sh_ints ns, sh_nil, _, rfl, ?_⟩
          rw [eqv_nil]
          by_cases hn : ns = []
          · subst hn
            refine iteF ?_
            exact ⟨_, rfl, so⟩
          · have h1 : decide (ns.map PyData.int = []) = false := by
              cases ns with
              | nil => exact absurd rfl hn
              | cons => rfl
            rw [h1]
            refine iteT ?_
            obtain ⟨z, hz⟩ := at_mod (pl := pl) hn
            have hl0 : 0 < ns.length := by
              cases ns with
              | nil => exact absurd rfl hn
              | cons => exact Nat.succ_pos _
            refine ⟨_, rfl, _, rfl, _, rfl, c, _, rfl, .inl (.inl (.inl hc1)), _, _, rfl, rfl, ?_, c, _, _, V.int z, rfl, rfl, .inl (.inl hc1), ?_, ?_⟩
            · rw [List.length_map]
              omega
            · rw [List.length_map]
              exact hz
            · exact ⟨z, rfl, so⟩
        -- if place >= len(cells) or amount < 10 ** 16
        · rintro σ H2 ⟨am3, rfl, s2⟩
          have hp2 := s2 _ _ hp
          have hc2 := s2 _ _ hc
          refine ⟨fun σ H2 => ∃ am3 : Int, σ = [some (.ref p), some (.int b), some (.ref c), some (.int pl), some (.int am3), none] ∧ Same H H2, ?_, ?_⟩
          · have yes : ∃ am4 : Int, ∀ v : Int, True := ⟨0, fun _ => True.intro⟩
            refine ⟨_, rfl, _, rfl, c, _, rfl, .inl (.inl (.inl hc2)), _, _, rfl, rfl, _, rfl, ?_⟩
            refine ite2 (fun e => ?_) (fun e => ?_)
            · refine iteT ?_
              refine ⟨_, rfl, .inl ⟨_, rfl, _, _, rfl, rfl, posQ, _, rfl, _, _, rfl, fun v => ⟨v, rfl, s2⟩⟩⟩
            · refine ⟨_, rfl, _, _, rfl, rfl, ⟨by decide, by decide, by decide⟩, _, _, rfl, rfl, _, rfl, ?_⟩
              refine ite2 (fun e => ?_) (fun e => ?_)
              · refine ⟨_, rfl, .inl ⟨_, rfl, _, _, rfl, rfl, posQ, _, rfl, _, _, rfl, fun v => ⟨v, rfl, s2⟩⟩⟩
              · exact ⟨am3, rfl, s2⟩
          · -- pot[1] = place + 1; pot[2] = amount; pot[3] = amount
            rintro σ H2 ⟨am3, rfl, s2⟩
            have hp2 := s2 _ _ hp
            have hc2 := s2 _ _ hc
            refine ⟨_, rfl, _, _, rfl, rfl, _, rfl, p, _, _, _, rfl, rfl, hp2, rfl, ?_⟩
            refine ⟨_, rfl, _, rfl, p, _, _, _, rfl, rfl, upd_same, rfl, ?_⟩
            refine ⟨_, rfl, _, rfl, p, _, _, _, rfl, rfl, upd_same, rfl, ?_⟩
            refine ⟨pl + 1, am3, am3, _, _, _, rfl, (((But.of hp2 s2).trans but_upd).trans but_upd).trans but_upd, ?_, ?_⟩
            · rw [upd_same]
              rfl
            · rw [upd_ne ncp, upd_ne ncp, upd_ne ncp]
              exact hc2
      · exact ⟨pl, am, sz, none, none, none, rfl, ⟨fun _ _ z _ => z, by rw [hp]; exact fun z => nomatch z⟩, hp, hc⟩
    · rintro σ H2 ⟨pl2, am2, sz2, x2, x3, x4, rfl, hb, hp2, hc2⟩
      -- found = int(pot[2]) % bound
      refine ⟨_, rfl, p, _, _, _, rfl, rfl, .inl (.inl hp2), at4.2.2.1, .inl ⟨_, rfl, _, rfl, _, _, rfl, rfl, b0, ?_⟩⟩
      -- pot[2] = pot[2] // bound; pot[3] = pot[3] // bound
      refine ⟨_, rfl, p, _, _, _, rfl, rfl, .inl (.inl hp2), at4.2.2.1, _, rfl, _, _, rfl, rfl, ⟨b0, b1⟩, _, rfl, p, _, _, _, rfl, rfl, hp2, rfl, ?_⟩
      refine ⟨_, rfl, p, _, _, _, rfl, rfl, .inl (.inl upd_same), at4.2.2.2, _, rfl, _, _, rfl, rfl, ⟨b0, b1⟩, _, rfl, p, _, _, _, rfl, rfl, upd_same, rfl, ?_⟩
      refine ⟨_, rfl, q _ _ (fmod_range b0).1 (fmod_range b0).2 ⟨ns, pl2, am2 / b, sz2 / b, ?_, ?_, hl⟩ ((hb.trans but_upd).trans but_upd)⟩
      · rw [upd_same]
        rfl
      · rw [upd_ne ncp, upd_ne ncp]
        exact hc2
theorem ok_pick {f fb : Addr} {fd fdb : FuncData} {k : Nat} (F : Fun K "_law_pick" "_law_pick" s_law_pick f fd) (T : TxtD mg) (F__law_below : Fun K "_law_below" "_law_below" s_law_below fb fdb) (b__law_below : Binds K fdb ["deck", "bound"] []) (g_b : mg "_law_below" = some (.ref fb))
    (G__law_below : FnOk P w K mg base CX0 2 fb fdb ["deck", "bound"] spBelow) : FnOk P w K mg base CX0 (k + 3) f fd ["deck", "some"] (spPick K) := by
  refine F.ok sc_law_pick (fun vs H Q E h => ?_) (fun cdv A outer s H vs Q E hr h => ?_)
  · obtain ⟨p, c, l, xs, rfl, _⟩ := h
    rfl
  · obtain ⟨p, c, l, xs, rfl, hP, hS, hne, hlen, hk, q⟩ := h
    have hl : 0 < xs.length := by
      cases xs with
      | nil => exact absurd rfl hne
      | cons => exact Nat.succ_pos _
    refine ⟨_, (pss_one (ps_ret (pe_ix ix_list (pv 1) (pe_call G__law_below (hr.mono (by omega)) (by rfl) g_b F__law_below.kp b__law_below .nil pass0 (pa_cons (pv 0) (pa_cons (pe_callB call_len_seq (by rfl) T.n_len (by decide +kernel) (pa_cons (pv 1) pa_nil)) pa_nil))) (fun _ _ => rfl)))), ?_⟩
    refine ⟨_, rfl, _, rfl, _, rfl, l, xs, rfl, .inl hS, p, c, _, rfl, hP, by omega, by omega, fun v H' v0 v1 hP' hb => ?_⟩
    obtain ⟨j, rfl⟩ : ∃ j : Nat, v = (j : Int) := ⟨v.toNat, by omega⟩
    have hj : j < xs.length := by omega
    exact ⟨l, xs, _, xs[j], rfl, rfl, hk H' hb, atI_nat (List.getElem?_eq_getElem hj), q _ H' (List.getElem_mem hj) hP' hb⟩
end
end My

namespace My
open PySem PySem.Spec PyProof.Rows L2
/-! ### trees as data -/
def headB (ks : List (Str × Int)) : List PyData → Bool
  | .str z :: r => decide ((z, (r.length : Int)) ∈ ks)
  | _ => false
mutual
def treeB (ks : List (Str × Int)) : PyData → Bool
  | .tuple ds => headB ks ds && tailB ks ds
  | .none | .bool _ | .int _ | .str _ | .list _ | .dict _ => false
def tailB (ks : List (Str × Int)) : List PyData → Bool
  | [] => true
  | _ :: r => allB ks r
def allB (ks : List (Str × Int)) : List PyData → Bool
  | [] => true
  | d :: r => treeB ks d && allB ks r
end
mutual
/-- how many tuples and lists there are -/
def nodes : PyData → Nat
  | .tuple ds => 1 + nodesL ds
  | .list ds => 1 + nodesL ds
  | .none | .bool _ | .int _ | .str _ | .dict _ => 1
def nodesL : List PyData → Nat
  | [] => 0
  | d :: r => nodes d + nodesL r
end
mutual
/-- the tags of a tree -/
def tagsN : PyData → Nat
  | .tuple ds => 1 + tagsT ds
  | .none | .bool _ | .int _ | .str _ | .list _ | .dict _ => 0
def tagsT : List PyData → Nat
  | [] => 0
  | _ :: r => tagsL r
def tagsL : List PyData → Nat
  | [] => 0
  | d :: r => tagsN d + tagsL r
end
theorem allB_app (ks : List (Str × Int)) : ∀ a b : List PyData, allB ks (a ++ b) = (allB ks a && allB ks b)
  | [], b => by simp [allB]
  | d :: r, b => by
    rw [List.cons_append]
    simp only [allB]
    rw [allB_app ks r b, Bool.and_assoc]
theorem nodesL_app : ∀ a b : List PyData, nodesL (a ++ b) = nodesL a + nodesL b
  | [], b => by simp [nodesL]
  | d :: r, b => by
    rw [List.cons_append]
    simp only [nodesL]
    rw [nodesL_app r b, Nat.add_assoc]
theorem tagsL_app : ∀ a b : List PyData, tagsL (a ++ b) = tagsL a + tagsL b
  | [], b => by simp [tagsL]
  | d :: r, b => by
    rw [List.cons_append]
    simp only [tagsL]
    rw [tagsL_app r b, Nat.add_assoc]
theorem len_nodes : ∀ ds : List PyData, ds.length ≤ nodesL ds
  | [] => Nat.le_refl _
  | d :: r => by
    have h := len_nodes r
    have h2 : 1 ≤ nodes d := by cases d <;> simp only [nodes] <;> omega
    simp only [nodesL, List.length_cons]
    omega
theorem tailB_drop (ks : List (Str × Int)) (ds : List PyData) : tailB ks ds = allB ks (ds.drop 1) := by cases ds <;> simp [tailB, allB]
theorem tagsT_drop (ds : List PyData) : tagsT ds = tagsL (ds.drop 1) := by cases ds <;> simp [tagsT, tagsL]
theorem nodes_drop (ds : List PyData) : nodesL (ds.drop 1) ≤ nodesL ds := by
  cases ds with
  | nil => exact Nat.le_refl _
  | cons d r =>
    show nodesL r ≤ nodesL (d :: r)
    simp only [nodesL]
    omega
/-- a tag and as many things as it has parts -/
def hasB (ks : List (Str × Int)) : PyData → Bool
  | .tuple ds => headB ks ds
  | _ => false
/-- the things behind the tag -/
def kids : PyData → List PyData
  | .tuple ds => ds.drop 1
  | _ => []
theorem treeB_eq (ks : List (Str × Int)) (d : PyData) : treeB ks d = (hasB ks d && allB ks (kids d)) := by
  cases d <;> simp only [treeB, hasB, kids, Bool.false_and, tailB_drop]
theorem last_split {ds : List PyData} {d : PyData} (h : ds[ds.length - 1]? = some d) : ds = ds.dropLast ++ [d] := by
  obtain ⟨hl, e⟩ := List.getElem?_eq_some_iff.mp h
  have n : ds ≠ [] := fun z => by
    rw [z] at hl
    exact absurd hl (Nat.not_lt_zero _)
  have y := List.dropLast_concat_getLast n
  rw [List.getLast_eq_getElem, e] at y
  exact y.symm
theorem DaAll.snoc {H : Hp} {ds : List PyData} {vs : List V} (h : DaAll H vs ds) (n : vs ≠ []) : ∃ v d, vs[vs.length - 1]? = some v ∧ ds = ds.dropLast ++ [d] ∧ Da H v d ∧ DaAll H vs.dropLast ds.dropLast := by
  have l := h.length
  have l0 : 0 < vs.length := List.length_pos_iff.mpr n
  obtain ⟨d, hd, hv⟩ := h.get (i := vs.length - 1) (List.getElem?_eq_getElem (by omega))
  refine ⟨_, d, List.getElem?_eq_getElem (by omega), last_split (by rw [← l]; exact hd), hv, ?_⟩
  rw [List.dropLast_eq_take, List.dropLast_eq_take, l]
  exact h.take _
theorem head_parts {ks : List (Str × Int)} {z : Str} {r : List PyData} (nd : (ks.map (·.1)).Nodup) : V.bl (decide (partsV ks z = .int ((r.length : Nat) + 1 - 1))) = V.bl (headB ks (.str z :: r)) := by
  congr 1
  unfold headB
  refine decide_eq_decide.mpr ⟨fun h => ?_, fun h => ?_⟩
  · by_cases hz : z ∈ ks.map (·.1)
    · obtain ⟨⟨z', n⟩, hm, rfl⟩ := List.mem_map.mp hz
      rw [parts_yes nd hm] at h
      have e : n = (r.length : Int) := by
        cases h
        omega
      rw [← e]
      exact hm
    · rw [parts_no hz] at h
      cases h
  · rw [parts_yes nd h]
    congr 1
    omega
structure spHasTag (ks : List (Str × Int)) (vs : List V) (H : Hp) (Q : VK) (E : XK) : Prop where
  ex : ∃ (n : Addr) (x : V) (d : PyData), vs = [.ref n, x] ∧ H n = some (.dK (mergeK [] (kvK ks))) ∧ Da H x d ∧ Q (.bl (hasB ks d)) H
structure TxtT (mg : Str → Option Value) : Prop where
  n_isinstance : mg "isinstance" = none
  n_tuple : mg "tuple" = none
  n_len : mg "len" = none
  n_str : mg "str" = none
  n_dict : mg "dict" = none
  n_list : mg "list" = none
  n_int : mg "int" = none
abbrev s_has_tag : Stmt := topS 5
theorem sc_has_tag : FnScope ["numbers", "thing"] ["numbers", "thing"] (defScope s_has_tag) := ⟨rfl, rfl, rfl, by decide +kernel, rfl, by decide +kernel, by decide +kernel⟩
abbrev s_is_tree : Stmt := topS 6
theorem sc_is_tree : FnScope ["kind", "thing", "numbers", "waiting", "tree"] ["kind", "thing"] (defScope s_is_tree) := ⟨rfl, rfl, rfl, by decide +kernel, rfl, by decide +kernel, by decide +kernel⟩
abbrev s_nodes_ahead : Stmt := topS 1
theorem sc_nodes_ahead : FnScope ["patterns", "found", "waiting", "pattern"] ["patterns"] (defScope s_nodes_ahead) := ⟨rfl, rfl, rfl, by decide +kernel, rfl, by decide +kernel, by decide +kernel⟩
abbrev s_size_of_forest : Stmt := topS 3
theorem sc_size_of_forest : FnScope ["trees"] ["trees"] (defScope s_size_of_forest) := ⟨rfl, rfl, rfl, by decide +kernel, rfl, by decide +kernel, by decide +kernel⟩
abbrev s_size_of : Stmt := topS 7
theorem sc_size_of : FnScope ["tree"] ["tree"] (defScope s_size_of) := ⟨rfl, rfl, rfl, by decide +kernel, rfl, by decide +kernel, by decide +kernel⟩
abbrev s_law_tags_of : Stmt := topS 18
theorem sc_law_tags_of : FnScope ["tree", "found", "waiting", "one"] ["tree"] (defScope s_law_tags_of) := ⟨rfl, rfl, rfl, by decide +kernel, rfl, by decide +kernel, by decide +kernel⟩
theorem eq_len0 (n : Nat) : V.bl (decide (V.int (n : Nat) = V.int 0)) = V.bl (decide (n = 0)) := by
  congr 1
  refine decide_eq_decide.mpr ⟨fun h => ?_, fun h => by rw [h]; rfl⟩
  have z : (n : Int) = 0 := by cases h; rfl
  omega
section
variable {P : Program} {w : World} {K : PySem.W.Frag} {mg : Str → Option Value} {base : Heap}
theorem ok_has_tag {ks : List (Str × Int)} {f : Addr} {fd : FuncData} {k : Nat} (F : Fun K "has_tag" "has_tag" s_has_tag f fd) (T : TxtT mg) (nd : (ks.map (·.1)).Nodup) : FnOk P w K mg base CX0 (k + 1) f fd ["numbers", "thing"] (spHasTag ks) := by
  refine F.ok sc_has_tag (fun vs H Q E h => ?_) (fun cdv A outer s H vs Q E hr h => ?_)
  · obtain ⟨n, x, d, rfl, _⟩ := h
    rfl
  · obtain ⟨n, x, d, rfl, hn, hx, q⟩ := h
    refine ⟨_, (pss_cons (ps_if (PW.pt (pw_or (pt_not (pt_val (pe_callB call_isi (by rfl) T.n_isinstance (by decide +kernel) (pa_cons (pv 1) (pa_cons (pe_bltn (v := .ty "tuple") (by rfl) T.n_tuple (by decide +kernel) rfl) pa_nil))))) (pw_or (pt_cmpR op_eq (pe_callB call_len_seq (by rfl) T.n_len (by decide +kernel) (pa_cons (pv 1) pa_nil)) pe_int (nomark _)) (pw_or1 (pt_not (pt_val (pe_callB call_isi (by rfl) T.n_isinstance (by decide +kernel) (pa_cons (pe_ix ix_tup (pv 1) pe_int (fun _ _ => rfl)) (pa_cons (pe_bltn (v := .ty "str") (by rfl) T.n_str (by decide +kernel) rfl) pa_nil)))))))))
   (pss_one (ps_ret pe_bl))
   pss_nil)
  (pss_one (ps_ret (pe_cmpR op_eq (pe_dget1 (hu_of hr) (pv 0) (pe_ix ix_tup (pv 1) pe_int (fun _ _ => rfl)) ⟨by rfl, by rfl, by rfl, by rfl⟩) (pe_op op_sub (pe_callB call_len_seq (by rfl) T.n_len (by decide +kernel) (pa_cons (pv 1) pa_nil)) pe_int) (nomark _))))), ?_⟩
    refine ⟨_, rfl, _, _, _, _, dT d, rfl, .ty "tuple", hx.ty, kit_ty (kit_tup d), _, rfl, ?_⟩
    cases hx with
    | @tup a xs ds e h =>
      have lx := h.length
      refine iteF ?_
      refine ⟨_, rfl, a, xs, rfl, .inr (.inl e), rfl, _, eq_len0 _, ?_⟩
      cases h with
      | nil =>
        refine iteT ?_
        exact q
      | @cons v vs d0 ds0 hv ht =>
        refine iteF ?_
        refine ⟨_, rfl, a, _, _, v, rfl, rfl, .inl e, atI_nat (j := 0) rfl, _, _, _, _, dS d0, rfl, .ty "str", hv.ty, kit_ty (kit_str d0), _, rfl, ?_⟩
        cases hv with
        | str z =>
          refine iteF ?_
          refine ⟨_, rfl, n, rfl, .inl ⟨_, .inl hn⟩, _, rfl, a, _, _, .str z, rfl, rfl, .inl e, atI_nat (j := 0) rfl, _, .inl ⟨_, Sum.inr z, .inl hn, rfl, rfl⟩, _, rfl, a, _, rfl, .inr (.inl e), _, _, rfl, rfl, ?_⟩
          have lv : vs.length = ds0.length := ht.length
          have ev : V.int (((V.str z :: vs).length : Nat) - 1) = V.int ((ds0.length : Nat) + 1 - 1) := by
            congr 1
            rw [List.length_cons, lv]
            omega
          show rEq (partsV ks z) (V.int (((V.str z :: vs).length : Nat) - 1)) H Q
          rw [ev]
          refine ⟨?_, ?_⟩
          · by_cases hz : z ∈ ks.map (·.1)
            · obtain ⟨⟨z', n'⟩, hm, rfl⟩ := List.mem_map.mp hz
              rw [parts_yes nd hm]
              rfl
            · rw [parts_no hz]
              rfl
          · rw [head_parts nd]
            exact q
        | _ =>
          refine iteT ?_
          exact q
    | _ =>
      refine iteT ?_
      exact q
end
end My

namespace My
open PySem PySem.Spec PyProof.Rows L2
theorem same_rfl (H : Hp) : Same H H := fun _ _ e => e
theorem same_at {H H2 : Hp} {D : Addr} {o : HO} (s : Same H H2) (n : H D = none) : Same H (upd H2 D o) := fun b u e => by
  rw [upd_ne (ne_of_none e n)]
  exact s _ _ e
structure spIsTree (vs : List V) (H : Hp) (Q : VK) (E : XK) : Prop where
  ex : ∃ (a : Addr) (ks : List (Str × Int)) (x : V) (d : PyData), vs = [.ref a, x] ∧ KindF H a ks ∧ (ks.map (·.1)).Nodup ∧ Da H x d ∧ nodes d ≤ 100000 ∧ ∀ H', Same H H' → Q (.bl (treeB ks d)) H'
theorem hasB_tup {ks : List (Str × Int)} {H : Hp} {v : V} {d : PyData} (h : hasB ks d = true) (hv : Da H v d) : ∃ a xs ds, v = .ref a ∧ d = .tuple ds ∧ Rd H a (.tup xs) ∧ DaAll H xs ds ∧ headB ks ds = true ∧ 0 < xs.length := by
  cases hv with
  | @tup a xs ds e hx =>
    have hh : headB ks ds = true := h
    refine ⟨a, xs, ds, rfl, rfl, e, hx, hh, ?_⟩
    cases hx with
    | nil => cases hh
    | cons => exact Nat.succ_pos _
  | _ => cases h
theorem cut_tail (xs : List V) (h : 0 < xs.length) : cutV xs (some 1) none = xs.drop 1 := by
  unfold cutV
  rw [show HT.sIx xs.length 0 (some 1) = min 1 xs.length from HT.sIx_nat xs.length 0 1, show HT.sIx xs.length xs.length none = xs.length from HT.sIx_none ..]
  rw [Nat.min_eq_left h, List.take_of_length_le (by rw [List.length_drop]; exact Nat.le_refl _)]
section
variable {P : Program} {w : World} {K : PySem.W.Frag} {mg : Str → Option Value} {base : Heap}
theorem ok_is_tree {f f1 : Addr} {fd fd1 : FuncData} {k : Nat} (F : Fun K "is_tree" "is_tree" s_is_tree f fd) (T : TxtT mg) (F_has_tag : Fun K "has_tag" "has_tag" s_has_tag f1 fd1) (b_has_tag : Binds K fd1 ["numbers", "thing"] []) (g_has_tag : mg "has_tag" = some (.ref f1)) : FnOk P w K mg base CX0 (k + 2) f fd ["kind", "thing"] spIsTree := by
  refine F.ok sc_is_tree (fun vs H Q E h => ?_) (fun cdv A outer s H vs Q E hr h => ?_)
  · obtain ⟨a, ks, x, d, rfl, _⟩ := h
    rfl
  · obtain ⟨a, ks, x, d, rfl, ⟨rs, o, ea, od, pr⟩, nd, hx, few, q⟩ := h
    have G_has_tag : FnOk P w K mg base CX0 1 f1 fd1 ["numbers", "thing"] (spHasTag ks) := ok_has_tag F_has_tag T nd
    refine ⟨_, (pss_cons (ps_set (i := 2) sc_is_tree.nd rfl (.inl rfl) (pe_callTy (call_dictT (by rfl)) (by rfl) T.n_dict (by decide +kernel) (pa_cons (pv 0) pa_nil)))
  (pss_cons (ps_set (i := 3) sc_is_tree.nd rfl (.inl rfl) (pe_lst (pa_cons (pv 1) pa_nil)))
  (pss_cons (ps_while PassesOwn.never (pt_truth (pv 3) (by intro _; rfl))
   (pss_cons (ps_set (i := 4) sc_is_tree.nd rfl (.inl rfl) (pe_bm0 PySem.F.plainAttrs_list PySem.F.slot_list_pop PySem.F.type_list_pop mt_pop (pv 3)))
  (pss_cons (ps_if (pt_not (pt_val (pe_call G_has_tag (hr.mono (by omega)) (by rfl) g_has_tag F_has_tag.kp b_has_tag .nil pass0 (pa_cons (pv 2) (pa_cons (pv 4) pa_nil)))))
   (pss_one (ps_ret pe_bl))
   pss_nil)
  (pss_one (ps_expr (pe_bm PySem.F.plainAttrs_list PySem.F.slot_list_extend PySem.F.type_list_extend mt_extendT (pv 3) (pa_cons (pe_slice sl_X (pv 4) (po_some pe_int) po_none) pa_nil)))))))
  (pss_one (ps_ret pe_bl))))), ?_⟩
    clear G_has_tag
    refine ⟨_, rfl, a, rs, kvK ks, o, rfl, ea, od, prs_pairs pr, fun n nn => ?_⟩
    have sn : Same H (upd H n (.dK (mergeK [] (kvK ks)))) := same_upd nn
    have hn : (upd H n (.dK (mergeK [] (kvK ks)))) n = some (.dK (mergeK [] (kvK ks))) := upd_same
    generalize upd H n (.dK (mergeK [] (kvK ks))) = H1 at sn hn ⊢
    refine ⟨_, rfl, by show 1 ≤ sizeLine; decide, fun l nl => ?_⟩
    have nlH : H l = none := sn.free nl
    have nln : n ≠ l := ne_of_none hn nl
    refine ⟨fun j σ H2 => ∃ (vs : List V) (ds : List PyData) (v4 : Option V), nodesL ds = j ∧ j ≤ 100000 ∧ Same H H2 ∧ H2 n = some (.dK (mergeK [] (kvK ks))) ∧ H2 l = some (.lst vs) ∧ DaAll H vs ds ∧ allB ks ds = treeB ks d ∧ σ = [some (.ref a), some x, some (.ref n), some (.ref l), v4],
      ⟨nodesL [d], [x], [d], none, rfl, ?_, same_at sn nlH, ?_, upd_same, .cons hx .nil, ?_, rfl⟩, ?_⟩
    · simp only [nodesL]
      omega
    · rw [upd_ne nln]
      exact hn
    · simp only [allB, Bool.and_true]
    rintro j σ H2 ⟨vs, ds, v4, rfl, jb, s2, hn2, hl2, hda, hall, rfl⟩
    refine ⟨_, rfl, !vs.isEmpty, .inl ⟨vs, .inl (.inl hl2), rfl⟩, ?_⟩
    cases hE : vs.isEmpty with
    | true =>
      refine iteF ?_
      have e : vs = [] := List.isEmpty_iff.mp hE
      subst e
      cases hda
      have e2 : treeB ks d = true := by rw [← hall]; rfl
      rw [e2] at q
      exact q _ s2
    | false =>
      refine iteT ?_
      have ne : vs ≠ [] := fun z => by
        rw [z] at hE
        cases hE
      obtain ⟨v, d1, hv, eds, hd1, hrest⟩ := hda.snoc ne
      have en : nodesL ds = nodesL ds.dropLast + nodes d1 := by
        rw [eds, nodesL_app]
        simp [nodesL]
      have eall : allB ks ds = (allB ks ds.dropLast && treeB ks d1) := by
        rw [eds, allB_app]
        simp [allB]
      refine ⟨fun σ H8 => ∃ i, i < nodesL ds ∧ ∃ (vs : List V) (ds : List PyData) (v4 : Option V), nodesL ds = i ∧ i ≤ 100000 ∧ Same H H8 ∧ H8 n = some (.dK (mergeK [] (kvK ks))) ∧ H8 l = some (.lst vs) ∧ DaAll H vs ds ∧ allB ks ds = treeB ks d ∧ σ = [some (.ref a), some x, some (.ref n), some (.ref l), v4], fun σ' H' h => h, ?_⟩
      refine ⟨_, rfl, .inl ⟨rfl, _, .inl (.inl hl2)⟩, l, vs, v, rfl, rfl, hl2, hv, ?_⟩
      have s3 : Same H (upd H2 l (.lst vs.dropLast)) := same_at s2 nlH
      have hn3 : (upd H2 l (.lst vs.dropLast)) n = some (.dK (mergeK [] (kvK ks))) := by rw [upd_ne nln]; exact hn2
      have hl3 : (upd H2 l (.lst vs.dropLast)) l = some (.lst vs.dropLast) := upd_same
      generalize upd H2 l (.lst vs.dropLast) = H3 at s3 hn3 hl3 ⊢
      refine ⟨_, rfl, _, rfl, ⟨n, v, d1, rfl, hn3, hd1.same s3, ?_⟩⟩
      refine ⟨hasB ks d1, rfl, ?_⟩
      cases hh : hasB ks d1 with
      | false =>
        refine iteT ?_
        have e2 : treeB ks d = false := by rw [← hall, eall, treeB_eq, hh, Bool.false_and, Bool.and_false]
        rw [e2] at q
        exact q _ s3
      | true =>
        refine iteF ?_
        obtain ⟨b, xs, ds1, rfl, rfl, eb, hxs, hhead, pos⟩ := hasB_tup hh hd1
        refine ⟨_, rfl, .inl ⟨rfl, _, .inl (.inl hl3)⟩, _, rfl, _, rfl, b, xs, rfl, rd_same eb s3, fun r H4 s4 hr4 => ?_⟩
        rw [cut_tail xs pos] at hr4
        have hl4 := s4 _ _ hl3
        have lx := hxs.length
        have nk : nodesL (ds1.drop 1) ≤ nodesL ds1 := nodes_drop ds1
        have nd1 : nodes (.tuple ds1) = 1 + nodesL ds1 := by simp only [nodes]
        have lk := len_nodes (ds1.drop 1)
        have lv := len_nodes ds.dropLast
        have lr := hrest.length
        refine ⟨l, r, vs.dropLast, xs.drop 1, rfl, rfl, hl4, .inl hr4, ?_, ?_⟩
        · have a1 : (xs.drop 1).length = (ds1.drop 1).length := by rw [List.length_drop, List.length_drop, lx]
          rw [a1, lr, sizeLine_eq]
          omega
        · refine ⟨nodesL (ds.dropLast ++ ds1.drop 1), ?_, _, _, _, rfl, ?_, same_at (s3.trans s4) nlH, ?_, upd_same, hrest.app (hxs.drop 1), ?_, rfl⟩
          · rw [nodesL_app]
            omega
          · rw [nodesL_app]
            omega
          · rw [upd_ne nln]
            exact s4 _ _ hn3
          · rw [← hall, eall, allB_app, treeB_eq, hh, Bool.true_and]
            rfl
end
end My

namespace My
open PySem PySem.Spec PyProof.Rows L2
theorem allB_rev (ks : List (Str × Int)) : ∀ ds : List PyData, allB ks ds.reverse = allB ks ds
  | [] => rfl
  | d :: r => by
    rw [List.reverse_cons, allB_app, allB_rev ks r]
    simp only [allB, Bool.and_true]
    rw [Bool.and_comm]
theorem nodesL_rev : ∀ ds : List PyData, nodesL ds.reverse = nodesL ds
  | [] => rfl
  | d :: r => by
    rw [List.reverse_cons, nodesL_app, nodesL_rev r]
    simp only [nodesL]
    omega
theorem tagsL_rev : ∀ ds : List PyData, tagsL ds.reverse = tagsL ds
  | [] => rfl
  | d :: r => by
    rw [List.reverse_cons, tagsL_app, tagsL_rev r]
    simp only [tagsL]
    omega
theorem treeB_tup {ks : List (Str × Int)} {H : Hp} {v : V} {d : PyData} (h : treeB ks d = true) (hv : Da H v d) : ∃ a z xs ds, v = .ref a ∧ d = .tuple (.str z :: ds) ∧ Rd H a (.tup (.str z :: xs)) ∧ DaAll H xs ds ∧ (z, (ds.length : Int)) ∈ ks ∧ allB ks ds = true := by
  rw [treeB_eq, Bool.and_eq_true] at h
  obtain ⟨a, xs, ds, rfl, rfl, e, hx, hh, _⟩ := hasB_tup h.1 hv
  cases hx with
  | nil => cases hh
  | @cons v0 vs0 d0 ds0 hv0 ht =>
    have hz : ∃ z, d0 = .str z := by
      cases d0 with
      | str z => exact ⟨z, rfl⟩
      | _ => simp [headB] at hh
    obtain ⟨z, rfl⟩ := hz
    have ev : v0 = .str z := by
      cases hv0
      rfl
    subst ev
    exact ⟨a, z, _, _, rfl, rfl, e, ht, of_decide_eq_true hh, h.2⟩
structure spAhead (vs : List V) (H : Hp) (Q : VK) (E : XK) : Prop where
  ex : ∃ (a : Addr) (ks : List (Str × Int)) (xs : List V) (ds : List PyData), vs = [.ref a] ∧ Rd H a (.tup xs) ∧ DaAll H xs ds ∧ allB ks ds = true ∧ nodesL ds ≤ 100000 ∧ ∀ r ys H', Same H H' → H' r = some (.lst ys) → ys.length = tagsL ds → Q (.ref r) H'
structure spForest (vs : List V) (H : Hp) (Q : VK) (E : XK) : Prop where
  ex : ∃ (a : Addr) (ks : List (Str × Int)) (xs : List V) (ds : List PyData), vs = [.ref a] ∧ Rd H a (.tup xs) ∧ DaAll H xs ds ∧ allB ks ds = true ∧ nodesL ds ≤ 100000 ∧ ∀ H', Same H H' → Q (.int (tagsL ds : Nat)) H'
structure spSizeOf (vs : List V) (H : Hp) (Q : VK) (E : XK) : Prop where
  ex : ∃ (ks : List (Str × Int)) (x : V) (d : PyData), vs = [x] ∧ Da H x d ∧ treeB ks d = true ∧ nodes d ≤ 100000 ∧ ∀ H', Same H H' → Q (.int (tagsN d : Nat)) H'
section
variable {P : Program} {w : World} {K : PySem.W.Frag} {mg : Str → Option Value} {base : Heap}
theorem ok_ahead {f : Addr} {fd : FuncData} {k : Nat} (F : Fun K "nodes_ahead" "nodes_ahead" s_nodes_ahead f fd) (T : TxtT mg) : FnOk P w K mg base CX0 (k + 1) f fd ["patterns"] spAhead := by
  refine F.ok sc_nodes_ahead (fun vs H Q E h => ?_) (fun cdv A outer s H vs Q E hr h => ?_)
  · obtain ⟨a, ks, xs, ds, rfl, _⟩ := h
    rfl
  · obtain ⟨a, ks, xs, ds, rfl, ea, hx, hall, few, q⟩ := h
    refine ⟨_, (pss_cons (ps_set (i := 1) sc_nodes_ahead.nd rfl (.inl rfl) (pe_lst pa_nil))
  (pss_cons (ps_set (i := 2) sc_nodes_ahead.nd rfl (.inl rfl) (pe_callTy call_list_of (by rfl) T.n_list (by decide +kernel) (pa_cons (pe_revT (pv 0)) pa_nil)))
  (pss_cons (ps_while PassesOwn.never (pt_truth (pv 2) (by intro _; rfl))
   (pss_cons (ps_set (i := 3) sc_nodes_ahead.nd rfl (.inl rfl) (pe_bm0 PySem.F.plainAttrs_list PySem.F.slot_list_pop PySem.F.type_list_pop mt_pop (pv 2)))
  (pss_one (ps_if (pt_val (pe_callB call_isi (by rfl) T.n_isinstance (by decide +kernel) (pa_cons (pv 3) (pa_cons (pe_bltn (v := .ty "int") (by rfl) T.n_int (by decide +kernel) rfl) pa_nil))))
   (pss_one (ps_expr (pe_bm PySem.F.plainAttrs_list PySem.F.slot_list_append PySem.F.type_list_append mt_append (pv 1) (pa_cons (pv 3) pa_nil))))
   (pss_cons (ps_expr (pe_bm PySem.F.plainAttrs_list PySem.F.slot_list_append PySem.F.type_list_append mt_append (pv 1) (pa_cons (pe_tup (pa_cons (pe_ix ix_tup (pv 3) pe_int (fun _ _ => rfl)) (pa_cons (pe_op op_sub (pe_callB call_len_seq (by rfl) T.n_len (by decide +kernel) (pa_cons (pv 3) pa_nil)) pe_int) pa_nil))) pa_nil)))
  (pss_one (ps_expr (pe_bm PySem.F.plainAttrs_list PySem.F.slot_list_extend PySem.F.type_list_extend mt_extendT (pv 2) (pa_cons (pe_tailT (pv 3)) pa_nil)))))))))
  (pss_one (ps_ret (pv 1)))))), ?_⟩
    have lx := hx.length
    have ln := len_nodes ds
    refine ⟨by show 0 ≤ sizeLine; decide, fun f nf => ?_⟩
    have s1 : Same H (upd H f (.lst [])) := same_upd nf
    have hf : (upd H f (.lst [])) f = some (.lst []) := upd_same
    generalize upd H f (.lst []) = H1 at s1 hf ⊢
    refine ⟨_, rfl, a, xs, rfl, .inl (rd_same ea s1), fun t nt => ?_⟩
    have s2 : Same H1 (upd H1 t (.tup xs.reverse)) := same_upd nt
    have ht : (upd H1 t (.tup xs.reverse)) t = some (.tup xs.reverse) := upd_same
    generalize upd H1 t (.tup xs.reverse) = H2 at s2 ht ⊢
    refine ⟨t, _, rfl, .inr (.inl (.inl ht)), fun l nl => ?_⟩
    have hf2 := s2 _ _ hf
    have nlH : H l = none := s1.free (s2.free nl)
    have nfl : f ≠ l := ne_of_none hf2 nl
    refine ⟨fun j σ H3 => ∃ (vs ys : List V) (ds' : List PyData) (v3 : Option V), nodesL ds' = j ∧ j ≤ 100000 ∧ Same H H3 ∧ H3 f = some (.lst ys) ∧ H3 l = some (.lst vs) ∧ DaAll H vs ds' ∧ allB ks ds' = true ∧ ys.length + tagsL ds' = tagsL ds ∧ ys.length + j ≤ 100000 ∧ σ = [some (.ref a), some (.ref f), some (.ref l), v3],
      ⟨nodesL ds.reverse, xs.reverse, [], ds.reverse, none, rfl, ?_, same_at (s1.trans s2) nlH, ?_, upd_same, hx.rev, ?_, ?_, ?_, rfl⟩, ?_⟩
    · rw [nodesL_rev]
      exact few
    · rw [upd_ne nfl]
      exact hf2
    · rw [allB_rev]
      exact hall
    · rw [tagsL_rev, List.length_nil, Nat.zero_add]
    · rw [nodesL_rev, List.length_nil, Nat.zero_add]
      exact few
    rintro j σ H3 ⟨vs, ys, ds', v3, rfl, jb, s3, hf3, hl3, hda, hall', htag, hb, rfl⟩
    refine ⟨_, rfl, !vs.isEmpty, .inl ⟨vs, .inl (.inl hl3), rfl⟩, ?_⟩
    cases hE : vs.isEmpty with
    | true =>
      refine iteF ?_
      have e : vs = [] := List.isEmpty_iff.mp hE
      subst e
      cases hda
      exact ⟨_, rfl, q f ys _ s3 hf3 (by simpa [tagsL] using htag)⟩
    | false =>
      refine iteT ?_
      have ne : vs ≠ [] := fun z => by
        rw [z] at hE
        cases hE
      obtain ⟨v, d1, hv, eds, hd1, hrest⟩ := hda.snoc ne
      have en : nodesL ds' = nodesL ds'.dropLast + nodes d1 := by
        rw [eds, nodesL_app]
        simp [nodesL]
      have et : tagsL ds' = tagsL ds'.dropLast + tagsN d1 := by
        rw [eds, tagsL_app]
        simp [tagsL]
      have eall : (allB ks ds'.dropLast && treeB ks d1) = true := by
        rw [eds, allB_app] at hall'
        simpa [allB] using hall'
      rw [Bool.and_eq_true] at eall
      obtain ⟨b, z, xs1, ds1, rfl, rfl, eb, hxs, hmem, hkids⟩ := treeB_tup eall.2 hd1
      refine ⟨fun σ H8 => ∃ i, i < nodesL ds' ∧ ∃ (vs ys : List V) (ds' : List PyData) (v3 : Option V), nodesL ds' = i ∧ i ≤ 100000 ∧ Same H H8 ∧ H8 f = some (.lst ys) ∧ H8 l = some (.lst vs) ∧ DaAll H vs ds' ∧ allB ks ds' = true ∧ ys.length + tagsL ds' = tagsL ds ∧ ys.length + i ≤ 100000 ∧ σ = [some (.ref a), some (.ref f), some (.ref l), v3], fun σ' H' h => h, ?_⟩
      refine ⟨_, rfl, .inl ⟨rfl, _, .inl (.inl hl3)⟩, l, vs, .ref b, rfl, rfl, hl3, hv, ?_⟩
      have s4 : Same H (upd H3 l (.lst vs.dropLast)) := same_at s3 nlH
      have hf4 : (upd H3 l (.lst vs.dropLast)) f = some (.lst ys) := by rw [upd_ne nfl]; exact hf3
      have hl4 : (upd H3 l (.lst vs.dropLast)) l = some (.lst vs.dropLast) := upd_same
      generalize upd H3 l (.lst vs.dropLast) = H4 at s4 hf4 hl4 ⊢
      have eb4 := rd_same eb s4
      refine ⟨_, rfl, _, _, _, _, _, rfl, .ty "int", (hd1.same s4).ty, kit_ty (kit_int _), _, rfl, ?_⟩
      refine iteF ?_
      refine ⟨_, rfl, .inl ⟨rfl, _, .inl (.inl hf4)⟩, _, rfl, b, _, _, .str z, rfl, rfl, .inl eb4, atI_nat (j := 0) rfl, _, rfl, b, _, rfl, .inr (.inl eb4), _, _, rfl, rfl, by show 2 ≤ sizeLine; decide, fun t4 nt4 => ?_⟩
      have s5 := same_upd (o := .tup [.str z, .int (((V.str z :: xs1).length : Nat) - 1)]) nt4
      have nfH : H f = none := nf
      refine ⟨f, ys, _, rfl, rfl, s5 _ _ hf4, ?_, ?_⟩
      · rw [sizeLine_eq]
        omega
      have s6 : Same H (upd (upd H4 t4 (.tup [.str z, .int (((V.str z :: xs1).length : Nat) - 1)])) f (.lst (ys ++ [.ref t4]))) := same_at (s4.trans s5) nfH
      have hf6 : (upd (upd H4 t4 (.tup [.str z, .int (((V.str z :: xs1).length : Nat) - 1)])) f (.lst (ys ++ [.ref t4]))) f = some (.lst (ys ++ [.ref t4])) := upd_same
      have hl6 : (upd (upd H4 t4 (.tup [.str z, .int (((V.str z :: xs1).length : Nat) - 1)])) f (.lst (ys ++ [.ref t4]))) l = some (.lst vs.dropLast) := by
        rw [upd_ne (Ne.symm nfl)]
        exact s5 _ _ hl4
      generalize upd (upd H4 t4 (.tup [.str z, .int (((V.str z :: xs1).length : Nat) - 1)])) f (.lst (ys ++ [.ref t4])) = H6 at s6 hf6 hl6 ⊢
      refine ⟨_, rfl, .inl ⟨rfl, _, .inl (.inl hl6)⟩, _, rfl, b, _, rfl, .inl (rd_same eb s6), Nat.succ_pos _, fun r nr => ?_⟩
      have s7 := same_upd (o := .tup ((V.str z :: xs1).drop 1).reverse) nr
      have hr7 : (upd H6 r (.tup ((V.str z :: xs1).drop 1).reverse)) r = some (.tup xs1.reverse) := upd_same
      have nlr : l ≠ r := ne_of_none hl6 nr
      have nfr : f ≠ r := ne_of_none hf6 nr
      have lv := len_nodes ds'.dropLast
      have lr := hrest.length
      have l1 := hxs.length
      have n1 := len_nodes ds1
      have nd1 : nodes (.tuple (.str z :: ds1)) = 1 + (1 + nodesL ds1) := by simp only [nodes, nodesL]
      have td1 : tagsN (.tuple (.str z :: ds1)) = 1 + tagsL ds1 := by simp only [tagsN, tagsT]
      refine ⟨l, r, vs.dropLast, xs1.reverse, rfl, rfl, s7 _ _ hl6, .inl (.inl hr7), ?_, ?_⟩
      · rw [List.length_reverse, l1, lr, sizeLine_eq]
        omega
      · refine ⟨nodesL (ds'.dropLast ++ ds1.reverse), ?_, _, ys ++ [.ref t4], _, _, rfl, ?_, same_at (s6.trans s7) nlH, ?_, upd_same, hrest.app hxs.rev, ?_, ?_, ?_, rfl⟩
        · rw [nodesL_app, nodesL_rev]
          omega
        · rw [nodesL_app, nodesL_rev]
          omega
        · rw [upd_ne nfl]
          exact s7 _ _ hf6
        · rw [allB_app, allB_rev, eall.1, hkids]
          rfl
        · rw [tagsL_app, tagsL_rev, List.length_append, List.length_singleton]
          omega
        · rw [nodesL_app, nodesL_rev, List.length_append, List.length_singleton]
          omega
theorem ok_forest {f f1 : Addr} {fd fd1 : FuncData} {k : Nat} (F : Fun K "size_of_forest" "size_of_forest" s_size_of_forest f fd) (T : TxtT mg) (F_nodes_ahead : Fun K "nodes_ahead" "nodes_ahead" s_nodes_ahead f1 fd1) (b_nodes_ahead : Binds K fd1 ["patterns"] []) (g_nodes_ahead : mg "nodes_ahead" = some (.ref f1)) (G_nodes_ahead : FnOk P w K mg base CX0 1 f1 fd1 ["patterns"] spAhead) : FnOk P w K mg base CX0 (k + 2) f fd ["trees"] spForest := by
  refine F.ok sc_size_of_forest (fun vs H Q E h => ?_) (fun cdv A outer s H vs Q E hr h => ?_)
  · obtain ⟨a, ks, xs, ds, rfl, _⟩ := h
    rfl
  · obtain ⟨a, ks, xs, ds, rfl, ea, hx, hall, few, q⟩ := h
    refine ⟨_, (pss_one (ps_ret (pe_callB call_len_seq (by rfl) T.n_len (by decide +kernel) (pa_cons (pe_call G_nodes_ahead (hr.mono (by omega)) (by rfl) g_nodes_ahead F_nodes_ahead.kp b_nodes_ahead .nil pass0 (pa_cons (pv 0) pa_nil)) pa_nil)))), ?_⟩
    refine ⟨_, rfl, ⟨a, ks, xs, ds, rfl, ea, hx, hall, few, fun r ys H' s h l => ?_⟩⟩
    refine ⟨r, ys, rfl, .inl (.inl (.inl h)), ?_⟩
    rw [l]
    exact q _ s
theorem ok_size_of {f f1 : Addr} {fd fd1 : FuncData} {k : Nat} (F : Fun K "size_of" "size_of" s_size_of f fd) (F_size_of_forest : Fun K "size_of_forest" "size_of_forest" s_size_of_forest f1 fd1) (b_size_of_forest : Binds K fd1 ["trees"] []) (g_size_of_forest : mg "size_of_forest" = some (.ref f1)) (G_size_of_forest : FnOk P w K mg base CX0 2 f1 fd1 ["trees"] spForest) : FnOk P w K mg base CX0 (k + 3) f fd ["tree"] spSizeOf := by
  refine F.ok sc_size_of (fun vs H Q E h => ?_) (fun cdv A outer s H vs Q E hr h => ?_)
  · obtain ⟨ks, x, d, rfl, _⟩ := h
    rfl
  · obtain ⟨ks, x, d, rfl, hx, ht, few, q⟩ := h
    refine ⟨_, (pss_one (ps_ret (pe_call G_size_of_forest (hr.mono (by omega)) (by rfl) g_size_of_forest F_size_of_forest.kp b_size_of_forest .nil pass0 (pa_cons (pe_tup (pa_cons (pv 0) pa_nil)) pa_nil)))), ?_⟩
    refine ⟨_, rfl, by show 1 ≤ sizeLine; decide, fun t nt => ?_⟩
    have s1 := same_upd (o := .tup [x]) nt
    refine ⟨t, ks, [x], [d], rfl, .inl upd_same, .cons (hx.same s1) .nil, by simp [allB, ht], by simpa [nodesL] using few, fun H' s => ?_⟩
    have e : tagsL [d] = tagsN d := by simp [tagsL]
    rw [e]
    exact q _ (s1.trans s)
end
end My

namespace My
open PySem PySem.Spec PyProof.Rows L2
section
variable {P : Program} {w : World} {K : PySem.W.Frag} {mg : Str → Option Value} {base : Heap}
theorem ok_tags_of {f : Addr} {fd : FuncData} {k : Nat} (F : Fun K "_law_tags_of" "_law_tags_of" s_law_tags_of f fd) (T : TxtT mg) : FnOk P w K mg base CX0 (k + 1) f fd ["tree"] spSizeOf := by
  refine F.ok sc_law_tags_of (fun vs H Q E h => ?_) (fun cdv A outer s H vs Q E hr h => ?_)
  · obtain ⟨ks, x, d, rfl, _⟩ := h
    rfl
  · obtain ⟨ks, x, d, rfl, hx, ht, few, q⟩ := h
    refine ⟨_, (pss_cons (ps_par (i := 1) (j := 2) (by rfl) sc_law_tags_of.nd rfl rfl (by decide) rfl rfl (pa_cons pe_int (pa_cons (pe_lst (pa_cons (pv 0) pa_nil)) pa_nil)) (by rfl))
  (pss_cons (ps_while PassesOwn.never (pt_cmpR (op_neNil hr.units) (pv 2) (pe_lst pa_nil) (nomark _))
   (pss_cons (ps_set (i := 3) sc_law_tags_of.nd rfl (.inl rfl) (pe_bm0 PySem.F.plainAttrs_list PySem.F.slot_list_pop PySem.F.type_list_pop mt_pop (pv 2)))
  (pss_cons (ps_set (i := 1) sc_law_tags_of.nd rfl (.inl rfl) (pe_op op_add (pv 1) pe_int))
  (pss_one (ps_expr (pe_bm PySem.F.plainAttrs_list PySem.F.slot_list_extend PySem.F.type_list_extend mt_extend (pv 2) (pa_cons (pe_callTy call_list_of (by rfl) T.n_list (by decide +kernel) (pa_cons (pe_slice sl_X (pv 3) (po_some pe_int) po_none) pa_nil)) pa_nil)))))))
  (pss_one (ps_ret (pv 1))))), ?_⟩
    refine ⟨_, rfl, by show 1 ≤ sizeLine; decide, fun l nl => ⟨_, _, rfl, ?_⟩⟩
    have nlH : H l = none := nl
    refine ⟨fun j σ H3 => ∃ (vs : List V) (ds' : List PyData) (n : Int) (v3 : Option V), nodesL ds' = j ∧ j ≤ 100000 ∧ Same H H3 ∧ H3 l = some (.lst vs) ∧ DaAll H vs ds' ∧ allB ks ds' = true ∧ n + (tagsL ds' : Nat) = (tagsN d : Nat) ∧ σ = [some x, some (.int n), some (.ref l), v3],
      ⟨nodesL [d], [x], [d], 0, none, rfl, ?_, same_at (same_rfl H) nlH, upd_same, .cons hx .nil, ?_, ?_, rfl⟩, ?_⟩
    · simpa [nodesL] using few
    · simp [allB, ht]
    · simp [tagsL]
    rintro j σ H3 ⟨vs, ds', n, v3, rfl, jb, s3, hl3, hda, hall', htag, rfl⟩
    refine ⟨_, rfl, by show 0 ≤ sizeLine; decide, fun o no => ?_⟩
    have so : Same H3 (upd H3 o (.lst [])) := same_upd no
    have ho : (upd H3 o (.lst [])) o = some (.lst []) := upd_same
    generalize upd H3 o (.lst []) = H4 at so ho ⊢
    have hl4 := so _ _ hl3
    have s4 := s3.trans so
    refine ⟨l, o, vs, rfl, rfl, hl4, ho, _, rfl, ?_⟩
    cases hE : vs.isEmpty with
    | true =>
      refine iteF ?_
      have e : vs = [] := List.isEmpty_iff.mp hE
      subst e
      cases hda
      have en : n = (tagsN d : Nat) := by
        simp only [tagsL] at htag
        omega
      subst en
      exact ⟨_, rfl, q _ s4⟩
    | false =>
      refine iteT ?_
      have ne : vs ≠ [] := fun z => by
        rw [z] at hE
        cases hE
      obtain ⟨v, d1, hv, eds, hd1, hrest⟩ := hda.snoc ne
      have en : nodesL ds' = nodesL ds'.dropLast + nodes d1 := by
        rw [eds, nodesL_app]
        simp [nodesL]
      have et : tagsL ds' = tagsL ds'.dropLast + tagsN d1 := by
        rw [eds, tagsL_app]
        simp [tagsL]
      have eall : (allB ks ds'.dropLast && treeB ks d1) = true := by
        rw [eds, allB_app] at hall'
        simpa [allB] using hall'
      rw [Bool.and_eq_true] at eall
      obtain ⟨b, z, xs1, ds1, rfl, rfl, eb, hxs, hmem, hkids⟩ := treeB_tup eall.2 hd1
      refine ⟨fun σ H8 => ∃ i, i < nodesL ds' ∧ ∃ (vs : List V) (ds' : List PyData) (n : Int) (v3 : Option V), nodesL ds' = i ∧ i ≤ 100000 ∧ Same H H8 ∧ H8 l = some (.lst vs) ∧ DaAll H vs ds' ∧ allB ks ds' = true ∧ n + (tagsL ds' : Nat) = (tagsN d : Nat) ∧ σ = [some x, some (.int n), some (.ref l), v3], fun σ' H' h => h, ?_⟩
      refine ⟨_, rfl, .inl ⟨rfl, _, .inl (.inl hl4)⟩, l, vs, .ref b, rfl, rfl, hl4, hv, ?_⟩
      have s5 : Same H (upd H4 l (.lst vs.dropLast)) := same_at s4 nlH
      have hl5 : (upd H4 l (.lst vs.dropLast)) l = some (.lst vs.dropLast) := upd_same
      generalize upd H4 l (.lst vs.dropLast) = H5 at s5 hl5 ⊢
      refine ⟨_, rfl, _, _, rfl, rfl, ?_⟩
      refine ⟨_, rfl, .inl ⟨rfl, _, .inl (.inl hl5)⟩, _, rfl, _, rfl, b, _, rfl, rd_same eb s5, fun r H6 s6 hr6 => ?_⟩
      rw [cut_tail (V.str z :: xs1) (Nat.succ_pos _)] at hr6
      refine ⟨r, _, rfl, .inr (.inl hr6), fun m nm => ?_⟩
      have s7 := same_upd (o := .lst ((V.str z :: xs1).drop 1)) nm
      have hm7 : (upd H6 m (.lst ((V.str z :: xs1).drop 1))) m = some (.lst xs1) := upd_same
      generalize upd H6 m (.lst ((V.str z :: xs1).drop 1)) = H7 at s7 hm7 ⊢
      have hl7 := s7 _ _ (s6 _ _ hl5)
      have lv := len_nodes ds'.dropLast
      have lr := hrest.length
      have l1 := hxs.length
      have n1 := len_nodes ds1
      have nd1 : nodes (.tuple (.str z :: ds1)) = 1 + (1 + nodesL ds1) := by simp only [nodes, nodesL]
      have td1 : tagsN (.tuple (.str z :: ds1)) = 1 + tagsL ds1 := by simp only [tagsN, tagsT]
      refine ⟨l, m, vs.dropLast, xs1, rfl, rfl, hl7, hm7, ?_, ?_⟩
      · rw [l1, lr, sizeLine_eq]
        omega
      · refine ⟨nodesL (ds'.dropLast ++ ds1), ?_, _, _, _, _, rfl, ?_, same_at ((s5.trans s6).trans s7) nlH, upd_same, hrest.app hxs, ?_, ?_, rfl⟩
        · rw [nodesL_app]
          omega
        · rw [nodesL_app]
          omega
        · rw [allB_app, eall.1, hkids]
          rfl
        · rw [tagsL_app]
          omega
end
end My

namespace My
open PySem PySem.Spec PyProof.Rows L2
theorem But.set {p D : Addr} {H H' : Hp} {o : HO} (h : But p H H') (n : H D = none) : But p H (upd H' D o) := ⟨fun b u e m => by
  rw [upd_ne (ne_of_none e n)]
  exact h.1 b u e m, fun z => by
  by_cases y : p = D
  · subst y
    rw [upd_same] at z
    cases z
  · rw [upd_ne y] at z
    exact h.2 z⟩
theorem Pot.upd {H : Hp} {p c D : Addr} {o : HO} (h : Pot H p c) (n1 : p ≠ D) (n2 : c ≠ D) : Pot (L2.upd H D o) p c := by
  obtain ⟨ns, pl, am, sz, h1, h2, h3⟩ := h
  exact ⟨ns, pl, am, sz, by rw [upd_ne n1]; exact h1, by rw [upd_ne n2]; exact h2, h3⟩
theorem Pot.p {H : Hp} {p c : Addr} (h : Pot H p c) : ∃ xs, H p = some (.lst xs) := by
  obtain ⟨ns, pl, am, sz, h1, h2, h3⟩ := h
  exact ⟨_, h1⟩
theorem Pot.c {H : Hp} {p c : Addr} (h : Pot H p c) : ∃ xs, H c = some (.lst xs) := by
  obtain ⟨ns, pl, am, sz, h1, h2, h3⟩ := h
  exact ⟨_, h2⟩
theorem Pot.ne {H : Hp} {p c D : Addr} (h : Pot H p c) (n : H D = none) : p ≠ D ∧ c ≠ D := by
  obtain ⟨xs, e⟩ := h.p
  obtain ⟨ys, g⟩ := h.c
  exact ⟨ne_of_none e n, ne_of_none g n⟩
theorem Pot.but0 {H : Hp} {p c : Addr} (h : Pot H p c) : But p H H := by
  obtain ⟨xs, e⟩ := h.p
  exact .of e (same_rfl H)
theorem Pot.but1 {H H' : Hp} {p c : Addr} (h : Pot H p c) (s : Same H H') : But p H H' := by
  obtain ⟨xs, e⟩ := h.p
  exact .of (s _ _ e) s
theorem Prs.but {p c : Addr} {H H' : Hp} (b : But p H H') (hP : Pot H p c) {rs : List Addr} {ks : List (Str × Int)} (h : Prs H rs ks) : Prs H' rs ks := by
  obtain ⟨xs, ep⟩ := hP.p
  induction h with
  | nil => exact .nil
  | cons e _ ih =>
    refine .cons ?_ ih
    rcases e with e | ⟨o, e⟩
    · refine .inl (b.1 _ _ e fun z => ?_)
      rw [z, ep] at e
      cases e
    · refine .inr ⟨o, b.1 _ _ e fun z => ?_⟩
      rw [z, ep] at e
      cases e
theorem seq_nat {n j : Nat} (h : j < n) : seqIndex? (j : Int) n = some j := by
  refine (ixN_seq ?_).1
  unfold ixN
  rw [if_pos (by omega), if_pos (by omega)]
  rfl
/-- a word: the stem with another letter at its place -/
theorem fits_few {n : Nat} (h : n ≤ 100) : n ≤ sizeLine := Nat.le_of_lt (small1000 (by omega))
theorem eraseIdx_map {α β : Type} (f : α → β) : ∀ (l : List α) (j : Nat), (l.map f).eraseIdx j = (l.eraseIdx j).map f
  | [], _ => rfl
  | _ :: _, 0 => rfl
  | a :: r, j + 1 => by
    rw [List.map_cons, List.eraseIdx_cons_succ, List.eraseIdx_cons_succ, List.map_cons, eraseIdx_map f r j]
def TAGS : List Str := ["leaf", "join", "a", "z9", "node", "b2b", "tip", "eightabc"]
/-- a drawn kind -/
structure Rk (ks : List (Str × Int)) : Prop where
  few : ks.length ≤ 8
  nd : (ks.map (·.1)).Nodup
  leaf : ∃ q ∈ ks, q.2 = 0
  node : ∃ q ∈ ks, 0 < q.2
  all : ∀ q ∈ ks, q.1 ∈ TAGS ∧ 0 ≤ q.2 ∧ q.2 ≤ 4
structure spKind (vs : List V) (H : Hp) (Q : VK) (E : XK) : Prop where
  ex : ∃ (p c : Addr) (most : Nat), vs = [.ref p, .int most] ∧ Pot H p c ∧ 2 ≤ most ∧ most ≤ 8 ∧ ∀ (a : Addr) (ks : List (Str × Int)) (H' : Hp), But p H H' → Pot H' p c → KindF H' a ks → Rk ks → Q (.ref a) H'
structure TxtM (mg : Str → Option Value) : Prop where
  n_range : mg "range" = none
  n_len : mg "len" = none
  n_tuple : mg "tuple" = none
abbrev s_law_some_kind : Stmt := topS 13
theorem sc_law_some_kind : FnScope ["deck", "most", "parts", "turn", "tags", "found", "tag"] ["deck", "most"] (defScope s_law_some_kind) := ⟨rfl, rfl, rfl, by decide +kernel, rfl, by decide +kernel, by decide +kernel⟩
theorem get_split {α : Type} {l : List α} {j : Nat} {x : α} (h : l[j]? = some x) : ∀ y, y ∈ l ↔ y = x ∨ y ∈ l.eraseIdx j := by
  induction l generalizing j with
  | nil => cases h
  | cons a r ih =>
    intro y
    cases j with
    | zero =>
      cases h
      simp
    | succ j =>
      have h' : r[j]? = some x := h
      have z := ih h' y
      rw [List.mem_cons, List.eraseIdx_cons_succ, List.mem_cons, z]
      constructor
      · rintro (h | h | h)
        · exact .inr (.inl h)
        · exact .inl h
        · exact .inr (.inr h)
      · rintro (h | h | h)
        · exact .inr (.inl h)
        · exact .inl h
        · exact .inr (.inr h)
theorem nodup_erase {α : Type} {l : List α} {j : Nat} {x : α} (h : l[j]? = some x) (nd : l.Nodup) : x ∉ l.eraseIdx j ∧ (l.eraseIdx j).Nodup := by
  induction l generalizing j with
  | nil => cases h
  | cons a r ih =>
    rw [List.nodup_cons] at nd
    cases j with
    | zero =>
      cases h
      exact ⟨nd.1, nd.2⟩
    | succ j =>
      have h' : r[j]? = some x := h
      obtain ⟨i1, i2⟩ := ih h' nd.2
      rw [List.eraseIdx_cons_succ, List.nodup_cons]
      have mx : x ∈ r := List.mem_of_getElem? h'
      refine ⟨fun z => ?_, fun z => nd.1 (((get_split h') a).mpr (.inr z)), i2⟩
      rcases List.mem_cons.mp z with z | z
      · exact nd.1 (z ▸ mx)
      · exact i1 z
section
variable {P : Program} {w : World} {K : PySem.W.Frag} {mg : Str → Option Value} {base : Heap}
theorem ok_some_kind {f fb fp : Addr} {fd fdb fdp : FuncData} {k : Nat} (F : Fun K "_law_some_kind" "_law_some_kind" s_law_some_kind f fd) (T : TxtM mg) (F__law_below : Fun K "_law_below" "_law_below" s_law_below fb fdb) (b__law_below : Binds K fdb ["deck", "bound"] []) (g__law_below : mg "_law_below" = some (.ref fb)) (G__law_below : FnOk P w K mg base CX0 2 fb fdb ["deck", "bound"] spBelow)
    (F__law_pick : Fun K "_law_pick" "_law_pick" s_law_pick fp fdp) (b__law_pick : Binds K fdp ["deck", "some"] []) (g__law_pick : mg "_law_pick" = some (.ref fp)) (G__law_pick : FnOk P w K mg base CX0 3 fp fdp ["deck", "some"] (spPick K)) : FnOk P w K mg base CX0 (k + 4) f fd ["deck", "most"] spKind := by
  refine F.ok sc_law_some_kind (fun vs H Q E h => ?_) (fun cdv A outer s H vs Q E hr h => ?_)
  · obtain ⟨p, c, m, rfl, _⟩ := h
    rfl
  · obtain ⟨p, c, most, rfl, hP, m2, m8, q⟩ := h
    refine ⟨_, (pss_cons (ps_set (i := 2) sc_law_some_kind.nd rfl (.inl rfl) (pe_lst (pa_cons pe_int (pa_cons (pe_call G__law_pick (hr.mono (by omega)) (by rfl) g__law_pick F__law_pick.kp b__law_pick .nil pass0 (pa_cons (pv 0) (pa_cons (pe_lst (pa_cons pe_int (pa_cons pe_int (pa_cons pe_int (pa_cons pe_int (pa_cons pe_int pa_nil)))))) pa_nil))) pa_nil))))
  (pss_cons (ps_for PassesOwn.never rfl (pi_range1 (by rfl) T.n_range (pa_cons (pe_call G__law_below (hr.mono (by omega)) (by rfl) g__law_below F__law_below.kp b__law_below .nil pass0 (pa_cons (pv 0) (pa_cons (pe_op op_sub (pv 1) pe_int) pa_nil))) pa_nil)) (pg_name (i := 3) sc_law_some_kind.nd rfl (.inl rfl))
   (pss_one (ps_expr (pe_bm PySem.F.plainAttrs_list PySem.F.slot_list_append PySem.F.type_list_append mt_append (pv 2) (pa_cons (pe_call G__law_pick (hr.mono (by omega)) (by rfl) g__law_pick F__law_pick.kp b__law_pick .nil pass0 (pa_cons (pv 0) (pa_cons (pe_lst (pa_cons pe_int (pa_cons pe_int (pa_cons pe_int (pa_cons pe_int (pa_cons pe_int (pa_cons pe_int (pa_cons pe_int pa_nil)))))))) pa_nil))) pa_nil)))))
  (pss_cons (ps_par (i := 4) (j := 5) (by rfl) sc_law_some_kind.nd rfl rfl (by decide) rfl rfl (pa_cons (pe_lst (pa_cons pe_str (pa_cons pe_str (pa_cons pe_str (pa_cons pe_str (pa_cons pe_str (pa_cons pe_str (pa_cons pe_str (pa_cons pe_str pa_nil))))))))) (pa_cons (pe_lst pa_nil) pa_nil)) (by rfl))
  (pss_cons (ps_while PassesOwn.never (pt_cmpR (op_neNil hr.units) (pv 2) (pe_lst pa_nil) (nomark _))
   (pss_cons (ps_set (i := 6) sc_law_some_kind.nd rfl (.inl rfl) (pe_bm PySem.F.plainAttrs_list PySem.F.slot_list_pop PySem.F.type_list_pop mt_popAt (pv 4) (pa_cons (pe_call G__law_below (hr.mono (by omega)) (by rfl) g__law_below F__law_below.kp b__law_below .nil pass0 (pa_cons (pv 0) (pa_cons (pe_callB call_len_seq (by rfl) T.n_len (by decide +kernel) (pa_cons (pv 4) pa_nil)) pa_nil))) pa_nil)))
  (pss_one (ps_expr (pe_bm PySem.F.plainAttrs_list PySem.F.slot_list_append PySem.F.type_list_append mt_append (pv 5) (pa_cons (pe_tup (pa_cons (pv 6) (pa_cons (pe_bm PySem.F.plainAttrs_list PySem.F.slot_list_pop PySem.F.type_list_pop mt_popAt (pv 2) (pa_cons (pe_call G__law_below (hr.mono (by omega)) (by rfl) g__law_below F__law_below.kp b__law_below .nil pass0 (pa_cons (pv 0) (pa_cons (pe_callB call_len_seq (by rfl) T.n_len (by decide +kernel) (pa_cons (pv 2) pa_nil)) pa_nil))) pa_nil)) pa_nil))) pa_nil))))))
  (pss_one (ps_ret (pe_callTy call_tupleF (by rfl) T.n_tuple (by decide +kernel) (pa_cons (pv 5) pa_nil)))))))), ?_⟩
    clear G__law_below G__law_pick
    -- parts = [0, pick(..)]
    refine ⟨_, rfl, by show 5 ≤ sizeLine; decide, fun l1 n1 => ?_⟩
    have s1 := same_upd (o := .lst [.int 2, .int 2, .int 2, .int 3, .int 4]) n1
    obtain ⟨np1, nc1⟩ := hP.ne n1
    refine ⟨p, c, l1, _, rfl, hP.same s1, .inl (.inl upd_same), (fun z => nomatch z), by show 5 < 1073741824; decide, fun H' hb => .inl (.inl (hb.1 _ _ upd_same (Ne.symm np1))), fun x H2 hx hP2 b2 => ?_⟩
    obtain ⟨n, rfl, hn1, hn4⟩ : ∃ n : Int, x = .int n ∧ 0 < n ∧ n ≤ 4 := by
      simp only [List.mem_cons, List.not_mem_nil, or_false] at hx
      rcases hx with rfl | rfl | rfl | rfl | rfl <;> exact ⟨_, rfl, by decide, by decide⟩
    have bH2 : But p H H2 := (hP.but1 s1).trans b2
    refine ⟨by show 2 ≤ sizeLine; decide, fun L nL => ?_⟩
    have nLH : H L = none := bH2.free nL
    obtain ⟨npL, ncL⟩ := hP2.ne nL
    have s3 := same_upd (o := .lst [.int 0, .int n]) nL
    have bH3 : But p H (upd H2 L (.lst [.int 0, .int n])) := bH2.set nLH
    have hP3 := hP2.same s3
    have hL3 : (upd H2 L (.lst [.int 0, .int n])) L = some (.lst ([0, n].map V.int)) := upd_same
    generalize upd H2 L (.lst [.int 0, .int n]) = H3 at bH3 hP3 hL3 s3 ⊢
    -- for turn in range(below(deck, most - 1))
    refine ⟨_, rfl, _, rfl, _, _, rfl, rfl, p, c, _, rfl, hP3, by omega, by omega, fun t H4 t0 t1 hP4 b4 => ?_⟩
    obtain ⟨tn, rfl⟩ : ∃ tn : Nat, t = (tn : Int) := ⟨t.toNat, by omega⟩
    have hL4 := b4.1 _ _ hL3 (Ne.symm npL)
    have bH4 := bH3.trans b4
    refine ⟨tn, rfl, by omega, by omega, for_range (n := tn) (fun i σ H5 => But p H H5 ∧ Pot H5 p c ∧ ∃ (ns : List Int) (v3 : Option V), H5 L = some (.lst (ns.map V.int)) ∧ ns.length = 2 + i ∧ 0 ∈ ns ∧ n ∈ ns ∧ (∀ y ∈ ns, 0 ≤ y ∧ y ≤ 4) ∧ σ = [some (.ref p), some (.int most), some (.ref L), v3, none, none, none]) ⟨bH4, hP4, [0, n], none, hL4, rfl, List.mem_cons_self, List.mem_cons_of_mem _ List.mem_cons_self, ?_, rfl⟩ ?_ ?_⟩
    · intro y hy
      simp only [List.mem_cons, List.not_mem_nil, or_false] at hy
      rcases hy with rfl | rfl <;> omega
    · rintro i σ H5 hi ⟨bH5, hP5, ns, v3, hL5, ln, z0, zn, all, rfl⟩
      refine ⟨_, rfl, .inl ⟨rfl, _, .inl (.inl hL5)⟩, ?_⟩
      refine ⟨_, rfl, by show 7 ≤ sizeLine; decide, fun l nl => ?_⟩
      have sl := same_upd (o := .lst [.int 0, .int 0, .int 1, .int 1, .int 2, .int 3, .int 4]) nl
      obtain ⟨npl, ncl⟩ := hP5.ne nl
      refine ⟨p, c, l, _, rfl, hP5.same sl, .inl (.inl upd_same), (fun z => nomatch z), by show 7 < 1073741824; decide, fun H' hb => .inl (.inl (hb.1 _ _ upd_same (Ne.symm npl))), fun x H6 hx hP6 b6 => ?_⟩
      obtain ⟨m, rfl, m0, m4⟩ : ∃ n : Int, x = .int n ∧ 0 ≤ n ∧ n ≤ 4 := by
        simp only [List.mem_cons, List.not_mem_nil, or_false] at hx
        rcases hx with rfl | rfl | rfl | rfl | rfl | rfl | rfl <;> exact ⟨_, rfl, by decide, by decide⟩
      have hL6 := b6.1 _ _ (sl _ _ hL5) (Ne.symm npL)
      refine ⟨L, _, _, rfl, rfl, hL6, ?_, ?_⟩
      · rw [List.length_map, ln]
        exact small1000 (by omega)
      · refine ⟨((bH5.same sl).trans b6).set nLH, hP6.upd npL ncL, ns ++ [m], _, ?_, ?_, ?_, ?_, ?_, rfl⟩
        · rw [upd_same, List.map_append]
          rfl
        · rw [List.length_append, ln]
          rfl
        · exact List.mem_append_left _ z0
        · exact List.mem_append_left _ zn
        · intro y hy
          rcases List.mem_append.mp hy with hy | hy
          · exact all y hy
          · rw [List.mem_singleton.mp hy]
            exact ⟨m0, m4⟩
    · rintro σ H5 ⟨bH5, hP5, ns, v3, hL5, ln, z0, zn, all, rfl⟩
      -- tags, found
      refine ⟨by show 8 ≤ sizeLine; decide, fun G0 nG => ⟨by show 0 ≤ sizeLine; decide, fun F0 nF => ⟨_, _, rfl, ?_⟩⟩⟩
      have eT : [V.str "leaf", .str "join", .str "a", .str "z9", .str "node", .str "b2b", .str "tip", .str "eightabc"] = TAGS.map V.str := rfl
      have s6 : Same H5 (upd H5 G0 (.lst (TAGS.map V.str))) := same_upd nG
      have nF' : (upd H5 G0 (.lst (TAGS.map V.str))) F0 = none := nF
      have s7 : Same (upd H5 G0 (.lst (TAGS.map V.str))) (upd (upd H5 G0 (.lst (TAGS.map V.str))) F0 (.lst [])) := same_upd nF'
      have nGH : H G0 = none := bH5.free nG
      have hG7 : (upd (upd H5 G0 (.lst (TAGS.map V.str))) F0 (.lst [])) G0 = some (.lst (TAGS.map V.str)) := s7 _ _ upd_same
      have hL7 := s7 _ _ (s6 _ _ hL5)
      have hF7 : (upd (upd H5 G0 (.lst (TAGS.map V.str))) F0 (.lst [])) F0 = some (.lst []) := upd_same
      have hP7 := (hP5.same s6).same s7
      have nFH : H F0 = none := bH5.free (s6.free nF)
      have bH7 : But p H (upd (upd H5 G0 (.lst (TAGS.map V.str))) F0 (.lst [])) := (bH5.set nGH).set nFH
      obtain ⟨npG, ncG⟩ := hP5.ne nG
      obtain ⟨npF, ncF⟩ := (hP5.same s6).ne nF
      have nLG : L ≠ G0 := ne_of_none hL5 nG
      have nLF : L ≠ F0 := ne_of_none (s6 _ _ hL5) nF
      have nGF : G0 ≠ F0 := ne_of_none (show (upd H5 G0 (.lst (TAGS.map V.str))) G0 = some (.lst (TAGS.map V.str)) from upd_same) nF
      generalize hH7 : upd (upd H5 G0 (.lst (TAGS.map V.str))) F0 (.lst []) = H7 at hG7 hL7 hF7 hP7 bH7
      have hH7' : upd (upd H5 G0 (.lst [V.str "leaf", .str "join", .str "a", .str "z9", .str "node", .str "b2b", .str "tip", .str "eightabc"])) F0 (.lst []) = H7 := hH7
      rw [hH7']
      refine ⟨fun j σ H8 => ∃ (ns : List Int) (ts : List Str) (ks : List (Str × Int)) (rs : List Addr) (v3 v6 : Option V), ns.length = j ∧ But p H H8 ∧ Pot H8 p c ∧ H8 L = some (.lst (ns.map V.int)) ∧ H8 G0 = some (.lst (ts.map V.str)) ∧ H8 F0 = some (.lst (rs.map V.ref)) ∧ Prs H8 rs ks ∧ ns.length ≤ ts.length ∧ ts.length ≤ 8 ∧ ns.length + ks.length ≤ 8 ∧ ts.Nodup ∧ (∀ y ∈ ts, y ∈ TAGS) ∧ (ks.map (·.1)).Nodup ∧ (∀ q ∈ ks, q.1 ∉ ts) ∧
          (0 ∈ ns ∨ ∃ q ∈ ks, q.2 = 0) ∧ (n ∈ ns ∨ ∃ q ∈ ks, q.2 = n) ∧ (∀ y ∈ ns, 0 ≤ y ∧ y ≤ 4) ∧ (∀ q ∈ ks, q.1 ∈ TAGS ∧ 0 ≤ q.2 ∧ q.2 ≤ 4) ∧ σ = [some (.ref p), some (.int most), some (.ref L), v3, some (.ref G0), some (.ref F0), v6],
        ⟨ns.length, ns, TAGS, [], [], v3, none, rfl, bH7, hP7, hL7, hG7, hF7, .nil, ?_, by decide, ?_, by decide, fun _ z => z, by simp, fun _ z => (nomatch z), .inl z0, .inl zn, all, fun _ z => (nomatch z), rfl⟩, ?_⟩
      · rw [ln]
        show _ ≤ 8
        omega
      · rw [ln, List.length_nil]
        omega
      rintro j σ H8 ⟨ns, ts, ks, rs, v3, v6, rfl, bH8, hP8, hL8, hG8, hF8, pr, lt, lt8, l8, ndt, alt, ndk, dis, z0, zn, all, allk, rfl⟩
      refine ⟨_, rfl, by show 0 ≤ sizeLine; decide, fun o no => ?_⟩
      have so : Same H8 (upd H8 o (.lst [])) := same_upd no
      have ho : (upd H8 o (.lst [])) o = some (.lst []) := upd_same
      have bH9 := bH8.same so
      generalize upd H8 o (.lst []) = H9 at so ho bH9 ⊢
      have hP9 := hP8.same so
      have hL9 := so _ _ hL8
      have hG9 := so _ _ hG8
      have hF9 := so _ _ hF8
      have pr9 := pr.same so
      refine ⟨L, o, ns.map V.int, rfl, rfl, hL9, ho, _, rfl, ?_⟩
      cases hE : (ns.map V.int).isEmpty with
      | true =>
        refine iteF ?_
        have e : ns = [] := by
          cases ns with
          | nil => rfl
          | cons => cases hE
        subst e
        refine ⟨_, rfl, F0, _, rfl, .inl (.inl hF9), fun a ob na nob => ?_⟩
        have sa := same_upd (o := .frz ob (.tup (rs.map V.ref))) na
        refine q a ks _ (bH9.same sa) (hP9.same sa) ⟨rs, ob, upd_same, nob, pr9.same sa⟩ ⟨by simpa using l8, ndk, ?_, ?_, allk⟩
        · rcases z0 with z | z
          · cases z
          · exact z
        · rcases zn with z | ⟨y, hy, ey⟩
          · cases z
          · exact ⟨y, hy, by omega⟩
      | false =>
        refine iteT ?_
        have l0 : 0 < ns.length := by
          cases ns with
          | nil => cases hE
          | cons => exact Nat.succ_pos _
        refine ⟨fun σ H8' => ∃ i, i < ns.length ∧ ∃ (ns : List Int) (ts : List Str) (ks : List (Str × Int)) (rs : List Addr) (v3 v6 : Option V), ns.length = i ∧ But p H H8' ∧ Pot H8' p c ∧ H8' L = some (.lst (ns.map V.int)) ∧ H8' G0 = some (.lst (ts.map V.str)) ∧ H8' F0 = some (.lst (rs.map V.ref)) ∧ Prs H8' rs ks ∧ ns.length ≤ ts.length ∧ ts.length ≤ 8 ∧ ns.length + ks.length ≤ 8 ∧ ts.Nodup ∧ (∀ y ∈ ts, y ∈ TAGS) ∧ (ks.map (·.1)).Nodup ∧ (∀ q ∈ ks, q.1 ∉ ts) ∧
          (0 ∈ ns ∨ ∃ q ∈ ks, q.2 = 0) ∧ (n ∈ ns ∨ ∃ q ∈ ks, q.2 = n) ∧ (∀ y ∈ ns, 0 ≤ y ∧ y ≤ 4) ∧ (∀ q ∈ ks, q.1 ∈ TAGS ∧ 0 ≤ q.2 ∧ q.2 ≤ 4) ∧ σ = [some (.ref p), some (.int most), some (.ref L), v3, some (.ref G0), some (.ref F0), v6], fun σ' H' h => h, ?_⟩
        -- tag = tags.pop(below(deck, len(tags)))
        refine ⟨_, rfl, .inl ⟨rfl, _, .inl (.inl hG9)⟩, _, rfl, _, rfl, G0, _, rfl, .inl (.inl (.inl hG9)), p, c, _, rfl, hP9, ?_, ?_, fun t HA t0 t1 hPA bA => ?_⟩
        · rw [List.length_map]
          omega
        · rw [List.length_map]
          omega
        rw [List.length_map] at t1
        obtain ⟨tn, rfl⟩ : ∃ tn : Nat, t = (tn : Int) := ⟨t.toNat, by omega⟩
        have htn : tn < ts.length := by omega
        have eT : ts[tn]? = some ts[tn] := List.getElem?_eq_getElem htn
        have bHA := bH9.trans bA
        have hGA := bA.1 _ _ hG9 (Ne.symm npG)
        have hLA := bA.1 _ _ hL9 (Ne.symm npL)
        have hFA := bA.1 _ _ hF9 (Ne.symm npF)
        refine ⟨G0, ts.map V.str, (tn : Int), tn, .str ts[tn], rfl, rfl, hGA, by omega, by omega, seq_nat (by rw [List.length_map]; exact htn), by rw [List.getElem?_map, eT]; rfl, ?_⟩
        rw [eraseIdx_map]
        have bHB : But p H (upd HA G0 (.lst ((ts.eraseIdx tn).map V.str))) := bHA.set nGH
        have hPB : Pot (upd HA G0 (.lst ((ts.eraseIdx tn).map V.str))) p c := hPA.upd npG ncG
        have hGB : (upd HA G0 (.lst ((ts.eraseIdx tn).map V.str))) G0 = some (.lst ((ts.eraseIdx tn).map V.str)) := upd_same
        have hLB : (upd HA G0 (.lst ((ts.eraseIdx tn).map V.str))) L = some (.lst (ns.map V.int)) := by rw [upd_ne nLG]; exact hLA
        have hFB : (upd HA G0 (.lst ((ts.eraseIdx tn).map V.str))) F0 = some (.lst (rs.map V.ref)) := by rw [upd_ne (Ne.symm nGF)]; exact hFA
        have prA : Prs HA rs ks := pr9.but bA hP9
        have prB : Prs (upd HA G0 (.lst ((ts.eraseIdx tn).map V.str))) rs ks := prA.grow hGA
        generalize upd HA G0 (.lst ((ts.eraseIdx tn).map V.str)) = HB at bHB hPB hGB hLB hFB prB ⊢
        -- found.append((tag, parts.pop(below(deck, len(parts)))))
        refine ⟨_, rfl, .inl ⟨rfl, _, .inl (.inl hFB)⟩, _, rfl, _, rfl, .inl ⟨rfl, _, .inl (.inl hLB)⟩, _, rfl, _, rfl, L, _, rfl, .inl (.inl (.inl hLB)), p, c, _, rfl, hPB, ?_, ?_, fun u HC u0 u1 hPC bC => ?_⟩
        · rw [List.length_map]
          omega
        · rw [List.length_map]
          omega
        rw [List.length_map] at u1
        obtain ⟨un, rfl⟩ : ∃ un : Nat, u = (un : Int) := ⟨u.toNat, by omega⟩
        have hun : un < ns.length := by omega
        have eU : ns[un]? = some ns[un] := List.getElem?_eq_getElem hun
        have bHC := bHB.trans bC
        have hGC := bC.1 _ _ hGB (Ne.symm npG)
        have hLC := bC.1 _ _ hLB (Ne.symm npL)
        have hFC := bC.1 _ _ hFB (Ne.symm npF)
        refine ⟨L, ns.map V.int, (un : Int), un, .int ns[un], rfl, rfl, hLC, by omega, by omega, seq_nat (by rw [List.length_map]; exact hun), by rw [List.getElem?_map, eU]; rfl, ?_⟩
        rw [eraseIdx_map]
        have bHD : But p H (upd HC L (.lst ((ns.eraseIdx un).map V.int))) := bHC.set nLH
        have hPD : Pot (upd HC L (.lst ((ns.eraseIdx un).map V.int))) p c := hPC.upd npL ncL
        have hLD : (upd HC L (.lst ((ns.eraseIdx un).map V.int))) L = some (.lst ((ns.eraseIdx un).map V.int)) := upd_same
        have hGD : (upd HC L (.lst ((ns.eraseIdx un).map V.int))) G0 = some (.lst ((ts.eraseIdx tn).map V.str)) := by rw [upd_ne (Ne.symm nLG)]; exact hGC
        have hFD : (upd HC L (.lst ((ns.eraseIdx un).map V.int))) F0 = some (.lst (rs.map V.ref)) := by rw [upd_ne (Ne.symm nLF)]; exact hFC
        have prC : Prs HC rs ks := prB.but bC hPB
        have prD : Prs (upd HC L (.lst ((ns.eraseIdx un).map V.int))) rs ks := prC.grow hLC
        generalize upd HC L (.lst ((ns.eraseIdx un).map V.int)) = HD at bHD hPD hGD hLD hFD prD ⊢
        refine ⟨by show 2 ≤ sizeLine; decide, fun r nr => ?_⟩
        have sr : Same HD (upd HD r (.tup [.str ts[tn], .int ns[un]])) := same_upd nr
        have hr : (upd HD r (.tup [.str ts[tn], .int ns[un]])) r = some (.tup [.str ts[tn], .int ns[un]]) := upd_same
        have bHE := bHD.same sr
        generalize upd HD r (.tup [.str ts[tn], .int ns[un]]) = HE at sr hr bHE ⊢
        have hFE := sr _ _ hFD
        have nrF : r ≠ F0 := fun z => by
          rw [z, hFE] at hr
          cases hr
        have lrs := pr.length
        refine ⟨F0, _, _, rfl, rfl, hFE, ?_, ?_⟩
        · rw [List.length_map, lrs]
          exact small1000 (by omega)
        obtain ⟨mT, ndT⟩ := nodup_erase eT ndt
        have splT := get_split eT
        have splN := get_split eU
        have leN : (ns.eraseIdx un).length = ns.length - 1 := List.length_eraseIdx_of_lt hun
        have leT : (ts.eraseIdx tn).length = ts.length - 1 := List.length_eraseIdx_of_lt htn
        have inT : ts[tn] ∈ ts := List.getElem_mem htn
        have inN : ns[un] ∈ ns := List.getElem_mem hun
        refine ⟨(ns.eraseIdx un).length, by omega, ns.eraseIdx un, ts.eraseIdx tn, ks ++ [(ts[tn], ns[un])], rs ++ [r], _, _, rfl, bHE.set nFH, (hPD.same sr).upd npF ncF, ?_, ?_, ?_, ?_, by omega, by omega, ?_, ndT, fun y hy => alt y ((splT y).mpr (.inr hy)), ?_, ?_, ?_, ?_, fun y hy => all y ((splN y).mpr (.inr hy)), ?_, rfl⟩
        · rw [upd_ne nLF]
          exact sr _ _ hLD
        · rw [upd_ne nGF]
          exact sr _ _ hGD
        · rw [upd_same, List.map_append]
          rfl
        · refine Prs.snoc ((prD.same sr).grow hFE) (.inl ?_)
          rw [upd_ne nrF]
          exact hr
        · rw [List.length_append, List.length_singleton]
          omega
        · rw [List.map_append]
          refine List.nodup_append.mpr ⟨ndk, by simp, ?_⟩
          intro a ha b hb z
          obtain ⟨y, hy, rfl⟩ := List.mem_map.mp ha
          simp only [List.map_cons, List.map_nil, List.mem_singleton] at hb
          have e : y.1 = ts[tn] := z.trans hb
          exact dis y hy (by rw [e]; exact inT)
        · intro y hy m
          rcases List.mem_append.mp hy with hy | hy
          · exact dis y hy ((splT _).mpr (.inr m))
          · rw [List.mem_singleton.mp hy] at m
            exact mT m
        · rcases z0 with z | ⟨y, hy, ey⟩
          · rcases (splN 0).mp z with e | e
            · exact .inr ⟨_, List.mem_append_right _ List.mem_cons_self, e.symm⟩
            · exact .inl e
          · exact .inr ⟨y, List.mem_append_left _ hy, ey⟩
        · rcases zn with z | ⟨y, hy, ey⟩
          · rcases (splN n).mp z with e | e
            · exact .inr ⟨_, List.mem_append_right _ List.mem_cons_self, e.symm⟩
            · exact .inl e
          · exact .inr ⟨y, List.mem_append_left _ hy, ey⟩
        · intro y hy
          rcases List.mem_append.mp hy with hy | hy
          · exact allk y hy
          · rw [List.mem_singleton.mp hy]
            exact ⟨alt _ inT, all _ inN⟩
end
end My

namespace My
open PySem PySem.Spec PyProof.Rows L2
/-! ### small data -/
mutual
def smB : PyData → Bool
  | .str z => decide (z.length ≤ 100) && z.cps.toList.all fun c => decide (c < 1114112)
  | .int i => decide (i.natAbs ≤ 1000)
  | .tuple ds => smL ds
  | .list ds => smL ds
  | .dict kvs => kvs.isEmpty
  | .none | .bool _ => true
def smL : List PyData → Bool
  | [] => true
  | d :: r => smB d && smL r
end
theorem smL_drop {n : Nat} : ∀ {ds : List PyData}, smL ds = true → smL (ds.drop n) = true := by
  induction n with
  | zero => intro ds h; simpa using h
  | succ n ih =>
    intro ds h
    cases ds with
    | nil => simpa using h
    | cons d r =>
      simp only [smL, Bool.and_eq_true] at h
      exact ih h.2
theorem smL_at : ∀ {ds : List PyData} {i : Nat} {d : PyData}, smL ds = true → ds[i]? = some d → smB d = true
  | [], _, _, _, e => by cases e
  | d0 :: r, 0, _, h, e => by
    cases e
    simp only [smL, Bool.and_eq_true] at h
    exact h.1
  | d0 :: r, i + 1, _, h, e => by
    simp only [smL, Bool.and_eq_true] at h
    exact smL_at h.2 (i := i) e
theorem sm_str {z : Str} (h : smB (.str z) = true) : z.length ≤ 100 ∧ ∀ c ∈ z.cps.toList, c < 1114112 := by
  simp only [smB, Bool.and_eq_true, decide_eq_true_eq, List.all_eq_true] at h
  exact h
theorem depth_at : ∀ {ds : List PyData} {i : Nat} {d : PyData} {n : Nat}, PyData.depthAll ds ≤ n → ds[i]? = some d → d.depth ≤ n
  | [], _, _, _, _, e => by cases e
  | d0 :: r, 0, _, n, h, e => by
    cases e
    simp only [PyData.depthAll] at h
    omega
  | d0 :: r, i + 1, _, n, h, e => by
    simp only [PyData.depthAll] at h
    exact depth_at (by omega) (i := i) e
theorem tags_ok : ∀ z ∈ TAGS, z.length ≤ 8 ∧ ∀ c ∈ z.cps.toList, c < 1114112 := by decide +kernel
theorem Prs.item {H : Hp} {rs : List Addr} {ks : List (Str × Int)} (h : Prs H rs ks) {i : Nat} {x : V} (e : (rs.map V.ref)[i]? = some x) : ∃ r p, x = .ref r ∧ ks[i]? = some p ∧ Rd H r (.tup [.str p.1, .int p.2]) := by
  rw [List.getElem?_map] at e
  cases hr : rs[i]? with
  | none => rw [hr] at e; cases e
  | some r =>
    rw [hr] at e
    cases e
    obtain ⟨p, hp, h2⟩ := h.get hr
    exact ⟨r, p, rfl, hp, h2⟩
theorem take_next {α β : Type} {f : α → β} {l : List α} {i : Nat} {a : α} (h : l[i]? = some a) : (l.take i).map f ++ [f a] = (l.take (i + 1)).map f := by
  rw [List.take_add_one, h, List.map_append]
  rfl
theorem empty_snoc (xs : List V) (v : V) : (xs ++ [v]).isEmpty = false := by cases xs <;> rfl
theorem in_bools (ks : List (Str × Int)) : ∀ ds : List PyData, (!inV (.bl false) (ds.map fun d => V.bl (treeB ks d))) = allB ks ds
  | [] => rfl
  | d :: r => by
    have ih := in_bools ks r
    unfold inV at ih ⊢
    rw [List.map_cons, List.any_cons, Bool.not_or, ih]
    simp only [allB]
    congr 1
    cases treeB ks d <;> rfl
theorem flat_bools (ks : List (Str × Int)) (ds : List PyData) : (ds.map fun d => V.bl (treeB ks d)).all flatV = true := by
  rw [List.all_eq_true]
  intro x hx
  obtain ⟨d, _, rfl⟩ := List.mem_map.mp hx
  rfl
theorem nodes_at : ∀ {ds : List PyData} {i : Nat} {d : PyData}, ds[i]? = some d → nodes d ≤ nodesL ds
  | [], _, _, e => by cases e
  | d0 :: r, 0, _, e => by
    cases e
    simp only [nodesL]
    omega
  | d0 :: r, i + 1, _, e => by
    have h := nodes_at (ds := r) (i := i) e
    simp only [nodesL]
    omega
structure spLawTree (n : Nat) (vs : List V) (H : Hp) (Q : VK) (E : XK) : Prop where
  ex : ∃ (a : Addr) (ks : List (Str × Int)) (rs : List Addr) (x : V) (d : PyData), vs = [.ref a, x] ∧ Rd H a (.tup (rs.map V.ref)) ∧ Prs H rs ks ∧ Rk ks ∧ Da H x d ∧ smB d = true ∧ nodes d ≤ 1000 ∧ d.depth ≤ n ∧ ∀ H', Same H H' → Q (.bl (treeB ks d)) H'
/-- what the calls within keep: nothing where there are none -/
def spBack : Nat → Sp
  | 0 => fun _ _ _ _ => False
  | n + 1 => fun vs H Q E => spLawTree n vs H Q E
abbrev s_law_is_tree : Stmt := topS 15
theorem sc_law_is_tree : FnScope ["kind", "thing", "pair", "part"] ["kind", "thing"] (defScope s_law_is_tree) := ⟨rfl, rfl, rfl, by decide +kernel, rfl, by decide +kernel, by decide +kernel⟩
section
variable {P : Program} {w : World} {K : PySem.W.Frag} {mg : Str → Option Value} {base : Heap}
theorem ok_never {k : Nat} {f : Addr} {fd : FuncData} {ps : List Str} : FnOk P w K mg base CX0 k f fd ps fun _ _ _ _ => False := ⟨fun _ _ _ _ h => h.elim, fun _ _ _ _ _ _ _ _ _ _ _ _ _ h => h.elim⟩
theorem step_law_tree {f : Addr} {fd : FuncData} {n : Nat} (F__law_is_tree : Fun K "_law_is_tree" "_law_is_tree" s_law_is_tree f fd) (T : TxtT mg) (b__law_is_tree : Binds K fd ["kind", "thing"] []) (g__law_is_tree : mg "_law_is_tree" = some (.ref f)) (G__law_is_tree : FnOk P w K mg base CX0 n f fd ["kind", "thing"] (spBack n)) : FnOk P w K mg base CX0 (n + 1) f fd ["kind", "thing"] (spLawTree n) := by
  refine F__law_is_tree.ok sc_law_is_tree (fun vs H Q E h => ?_) (fun cdv A outer s H vs Q E hr h => ?_)
  · obtain ⟨a, ks, rs, x, d, rfl, _⟩ := h
    rfl
  · obtain ⟨a, ks, rs, x, d, rfl, ea, pr, hK, hx, hsm, few, hdep, q⟩ := h
    refine ⟨_, (pss_cons (ps_if (PW.pt (pw_or (pt_not (pt_val (pe_callB call_isi (by rfl) T.n_isinstance (by decide +kernel) (pa_cons (pv 1) (pa_cons (pe_bltn (v := .ty "tuple") (by rfl) T.n_tuple (by decide +kernel) rfl) pa_nil))))) (pw_or (pt_cmpR op_eq (pe_callB call_len_seq (by rfl) T.n_len (by decide +kernel) (pa_cons (pv 1) pa_nil)) pe_int (nomark _)) (pw_or1 (pt_not (pt_val (pe_callB call_isi (by rfl) T.n_isinstance (by decide +kernel) (pa_cons (pe_ix ix_tup (pv 1) pe_int (fun _ _ => rfl)) (pa_cons (pe_bltn (v := .ty "str") (by rfl) T.n_str (by decide +kernel) rfl) pa_nil)))))))))
   (pss_one (ps_ret pe_bl))
   pss_nil)
  (pss_cons (ps_if (pt_cmpR (op_eqNil hr.units) (pe_lc (own := [("pair", 2)]) (g := gName 2) rfl sc_law_is_tree.nd (pi_tup (pv 0)) (blkOk_by (own := [("pair", 2)]) (N := ["kind", "thing", "pair", "part"]) (sc := defScope s_law_is_tree) (by decide +kernel)) (fun _ _ _ _ _ => (pg_name (i := 2) sc_law_is_tree.nd rfl (.inl rfl))) (fun _ _ _ _ _ => (pts_one (pt_cmpR (op_eqDK (K := K) rfl hr.units) (pv 2) (pe_tup (pa_cons (pe_ix (r := rIxT K) ix_tup (pv 1) pe_int (fun _ _ => rfl)) (pa_cons (pe_op op_sub (pe_callB (call_len_seqK (K := K) rfl) (by rfl) T.n_len (by decide +kernel) (pa_cons (pv 1) pa_nil)) pe_int) pa_nil))) (nomark _)))) (fun _ _ _ _ _ => (pv 2))) (pe_lst pa_nil) (nomark _))
   (pss_one (ps_ret pe_bl))
   pss_nil)
  (pss_one (ps_ret (pe_cmpR op_notIn_seq pe_bl (pe_lc (own := [("part", 3)]) (g := gName 3) rfl sc_law_is_tree.nd (pi_tup (pe_slice sl_X (pv 1) (po_some pe_int) po_none)) (blkOk_by (own := [("part", 3)]) (N := ["kind", "thing", "pair", "part"]) (sc := defScope s_law_is_tree) (by decide +kernel)) (fun _ _ _ _ _ => (pg_name (i := 3) sc_law_is_tree.nd rfl (.inl rfl))) (fun _ _ _ _ _ => pts_nil) (fun _ _ _ _ _ => (pe_call G__law_is_tree (hr.mono (by omega)) (by rfl) g__law_is_tree F__law_is_tree.kp b__law_is_tree .nil pass0 (pa_cons (pv 0) (pa_cons (pv 3) pa_nil))))) rfl))))), ?_⟩
    clear G__law_is_tree
    have lr := pr.length
    refine ⟨_, rfl, _, _, _, _, dT d, rfl, .ty "tuple", hx.ty, kit_ty (kit_tup d), _, rfl, ?_⟩
    cases hx with
    | @tup b xs ds e h =>
      have lx := h.length
      refine iteF ?_
      refine ⟨_, rfl, b, xs, rfl, .inr (.inl e), rfl, _, eq_len0 _, ?_⟩
      cases h with
      | nil =>
        refine iteT ?_
        exact q H (same_rfl H)
      | @cons v vs d0 ds0 hv0 ht =>
        have sm0 : smB d0 = true ∧ smL ds0 = true := by
          simp only [smB, smL, Bool.and_eq_true] at hsm
          exact hsm
        refine iteF ?_
        refine ⟨_, rfl, b, _, _, v, rfl, rfl, .inl e, atI_nat (j := 0) rfl, _, _, _, _, dS d0, rfl, .ty "str", hv0.ty, kit_ty (kit_str d0), _, rfl, ?_⟩
        cases hv0 with
        | str z =>
          refine iteF ?_
          obtain ⟨zl, zv⟩ := sm_str sm0.1
          have lds : vs.length = ds0.length := ht.length
          -- [pair for pair in kind if pair == (thing[0], len(thing) - 1)] == []
          refine ⟨_, rfl, a, rfl, ⟨_, .inl ea⟩, fun D nD => ?_⟩
          refine lc_it (walk_tup (xs := rs.map V.ref)) (fun i H2 => Same H H2 ∧ ∃ ys, H2 D = some (.lst ys) ∧ ys.length ≤ i ∧ ys.isEmpty = !decide ((z, (ds0.length : Int)) ∈ ks.take i)) ⟨same_upd nD, [], upd_same, Nat.zero_le _, rfl⟩ (fun i H2 _ h => .inl (rd_same ea h.1)) ?_ ?_
          · rintro i y H2 H3 hi ⟨s2, ys, hD, ly, hy⟩ ⟨rfl, ex⟩
            obtain ⟨r, pp, rfl, hk, hr2⟩ := pr.item ex
            obtain ⟨pT, p0, p4⟩ := hK.all pp (List.mem_of_getElem? hk)
            have eb2 := rd_same e s2
            refine ⟨rfl, ?_⟩
            refine ⟨_, rfl, _, rfl, b, _, _, .str z, rfl, rfl, .inl eb2, atI_nat (j := 0) rfl, _, rfl, b, _, rfl, .inr (.inl eb2), _, _, rfl, rfl, by show 2 ≤ sizeLine; decide, fun t nt => ?_⟩
            have st := same_upd (o := .tup [.str z, .int (((V.str z :: vs).length : Nat) - 1)]) nt
            have em : ((((V.str z :: vs).length : Nat) : Int) - 1) = (ds0.length : Int) := by
              rw [List.length_cons, lds]
              omega
            have hr3 := rd_same (rd_same hr2 s2) st
            refine ⟨.tuple [.str pp.1, .int pp.2], .tuple [.str z, .int (((V.str z :: vs).length : Nat) - 1)], .tup (.inl hr3) (.cons (.str _) (.cons (.int _) .nil)), .tup (.inl (.inl upd_same)) (.cons (.str _) (.cons (.int _) .nil)), sh_pair (tags_ok _ pT).2 _, sh_pair zv _, _, rfl, ?_⟩
            rw [eqv_pair, em]
            have hD3 := st _ _ hD
            have tk : ks.take (i + 1) = ks.take i ++ [pp] := by
              rw [List.take_add_one, hk]
              rfl
            by_cases hc : (pp.1, pp.2) = (z, (ds0.length : Int))
            · rw [decide_eq_true hc]
              refine iteT ?_
              refine ⟨_, rfl, ys, hD3, ?_, ?_, ys ++ [.ref r], upd_same, ?_, ?_⟩
              · have z8 := hK.few
                have zi : i < ks.length := (List.getElem?_eq_some_iff.mp hk).1
                exact small1000 (by omega)
              · exact same_at (s2.trans st) nD
              · rw [List.length_append, List.length_singleton]
                omega
              · rw [empty_snoc, tk]
                have m : (z, (ds0.length : Int)) ∈ ks.take i ++ [pp] := List.mem_append_right _ (by rw [← hc]; exact List.mem_cons_self)
                rw [decide_eq_true m]
                rfl
            · rw [decide_eq_false hc]
              refine iteF ?_
              refine ⟨s2.trans st, ys, hD3, by omega, ?_⟩
              rw [hy, tk]
              have m : ((z, (ds0.length : Int)) ∈ ks.take i ++ [pp]) ↔ (z, (ds0.length : Int)) ∈ ks.take i := by
                rw [List.mem_append, List.mem_singleton]
                constructor
                · rintro (h | h)
                  · exact h
                  · exact absurd h.symm hc
                · exact .inl
              rw [decide_eq_decide.mpr m]
          · rintro H2 ⟨s2, ys, hD, ly, hy⟩
            rw [List.length_map, lr, List.take_length] at hy
            refine ⟨by show 0 ≤ sizeLine; decide, fun o no => ?_⟩
            have so := same_upd (o := .lst []) no
            have s3 := s2.trans so
            refine ⟨D, o, ys, rfl, rfl, so _ _ hD, upd_same, _, rfl, ?_⟩
            rw [hy]
            generalize upd H2 o (.lst []) = H3 at so s3 ⊢
            have hTree : treeB ks (.tuple (.str z :: ds0)) = (decide ((z, (ds0.length : Int)) ∈ ks) && allB ks ds0) := by
              simp only [treeB, headB, tailB]
            by_cases hm : (z, (ds0.length : Int)) ∈ ks
            · rw [decide_eq_true hm]
              refine iteF ?_
              -- False not in [_law_is_tree(kind, part) for part in thing[1:]]
              refine ⟨_, rfl, _, rfl, b, _, rfl, rd_same e s3, fun r H4 s4 hr4 => ?_⟩
              rw [cut_tail (V.str z :: vs) (Nat.succ_pos _)] at hr4
              have hr4 : Rd H4 r (.tup vs) := hr4
              have s5 := s3.trans s4
              refine ⟨r, rfl, ⟨_, .inl hr4⟩, fun B nB => ?_⟩
              have nBH : H B = none := s5.free nB
              refine lc_it (walk_tup (xs := vs)) (fun i H5 => Same H4 H5 ∧ H5 B = some (.lst ((ds0.take i).map fun d => V.bl (treeB ks d)))) ⟨same_upd nB, upd_same⟩ (fun i H5 _ h => .inl (rd_same hr4 h.1)) ?_ ?_
              · rintro i y H5 H6 hi ⟨s6, hB⟩ ⟨rfl, ex⟩
                obtain ⟨d1, hd1, hy1⟩ := ht.get ex
                refine ⟨rfl, ?_⟩
                unfold tYes
                dsimp only
                rw [if_pos rfl]
                have s7 := s5.trans s6
                have dep1 : d1.depth + 1 ≤ n := by
                  simp only [PyData.depth, PyData.depthAll] at hdep
                  have z1 := depth_at (n := PyData.depthAll ds0) (Nat.le_refl _) hd1
                  omega
                have nod1 : nodes d1 ≤ 1000 := by
                  have z1 : nodes d1 ≤ nodesL ds0 := nodes_at hd1
                  simp only [nodes, nodesL] at few
                  omega
                obtain ⟨m, rfl⟩ : ∃ m, n = m + 1 := ⟨n - 1, by omega⟩
                refine ⟨_, rfl, _, rfl, ⟨a, ks, rs, y, d1, rfl, rd_same ea s7, pr.same s7, hK, hy1.same s7, smL_at sm0.2 hd1, nod1, by omega, fun H7 s8 => ?_⟩⟩
                refine ⟨_, s8 _ _ hB, ?_, ?_, ?_⟩
                · rw [List.length_map, List.length_take]
                  have z1 := len_nodes ds0
                  simp only [nodes, nodesL] at few
                  exact small1000 (by omega)
                · exact same_at (s6.trans s8) nB
                · rw [upd_same, take_next hd1]
              · rintro H5 ⟨s6, hB⟩
                rw [lds, List.take_length] at hB
                refine ⟨B, _, rfl, .inl (.inl (.inl hB)), rfl, flat_bools ks ds0, ?_⟩
                show Q (.bl (if true = true then !inV (.bl false) (ds0.map fun d => V.bl (treeB ks d)) else _)) H5
                rw [if_pos rfl, in_bools]
                have e2 : treeB ks (.tuple (.str z :: ds0)) = allB ks ds0 := by rw [hTree, decide_eq_true hm, Bool.true_and]
                rw [← e2]
                exact q _ (s5.trans s6)
            · rw [decide_eq_false hm]
              refine iteT ?_
              have e2 : treeB ks (.tuple (.str z :: ds0)) = false := by rw [hTree, decide_eq_false hm, Bool.false_and]
              rw [e2] at q
              exact q _ s3
        | _ =>
          refine iteT ?_
          exact q H (same_rfl H)
    | _ =>
      refine iteT ?_
      exact q H (same_rfl H)
theorem ok_law_tree {f : Addr} {fd : FuncData} (F : Fun K "_law_is_tree" "_law_is_tree" s_law_is_tree f fd) (T : TxtT mg) (b : Binds K fd ["kind", "thing"] []) (g : mg "_law_is_tree" = some (.ref f)) : ∀ n, FnOk P w K mg base CX0 (n + 1) f fd ["kind", "thing"] (spLawTree n)
  | 0 => step_law_tree F T b g ok_never
  | n + 1 => step_law_tree F T b g (ok_law_tree F T b g n)
end
end My

namespace My
open PySem PySem.Spec PyProof.Rows L2
/-! ### the heap without the deck -/
def Out (p : Addr) (H : Hp) : Hp := fun a => if a = p then none else H a
theorem out_ne {p a : Addr} {H : Hp} (n : a ≠ p) : Out p H a = H a := if_neg n
theorem out_some {p a : Addr} {H : Hp} {o : HO} (e : Out p H a = some o) : a ≠ p ∧ H a = some o := by
  unfold Out at e
  by_cases z : a = p
  · rw [if_pos z] at e
    cases e
  · rw [if_neg z] at e
    exact ⟨z, e⟩
theorem out_but {p : Addr} {H H' : Hp} (b : But p H H') : Same (Out p H) (Out p H') := fun a o e => by
  obtain ⟨n, e⟩ := out_some e
  rw [out_ne n]
  exact b.1 a o e n
theorem out_same {p : Addr} {H H' : Hp} (s : Same H H') : Same (Out p H) (Out p H') := fun a o e => by
  obtain ⟨n, e⟩ := out_some e
  rw [out_ne n]
  exact s a o e
theorem out_sub {p : Addr} {H : Hp} : Same (Out p H) H := fun a o e => (out_some e).2
theorem rd_out {p a : Addr} {H : Hp} {L xs : List V} (hp : H p = some (.lst L)) (e : Rd H a (.tup xs)) : Rd (Out p H) a (.tup xs) := by
  rcases e with e | ⟨o, e⟩
  · refine .inl ?_
    rw [out_ne fun z => ?_]
    · exact e
    · rw [z, hp] at e
      cases e
  · refine .inr ⟨o, ?_⟩
    rw [out_ne fun z => ?_]
    · exact e
    · rw [z, hp] at e
      cases e
theorem Rd.but {p c a : Addr} {H H' : Hp} {xs : List V} (b : But p H H') (hP : Pot H p c) (e : Rd H a (.tup xs)) : Rd H' a (.tup xs) := by
  obtain ⟨L, hp⟩ := hP.p
  exact rd_same (rd_same (rd_out hp e) (out_but b)) out_sub
/-- the heap without some lists -/
def Outs (L : List Addr) (H : Hp) : Hp := fun a => if a ∈ L then none else H a
theorem outs_ne {L : List Addr} {a : Addr} {H : Hp} (n : a ∉ L) : Outs L H a = H a := if_neg n
theorem outs_some {L : List Addr} {a : Addr} {H : Hp} {o : HO} (e : Outs L H a = some o) : a ∉ L ∧ H a = some o := by
  unfold Outs at e
  by_cases z : a ∈ L
  · rw [if_pos z] at e
    cases e
  · rw [if_neg z] at e
    exact ⟨z, e⟩
theorem outs_but {L : List Addr} {p : Addr} (m : p ∈ L) {H H' : Hp} (b : But p H H') : Same (Outs L H) (Outs L H') := fun a o e => by
  obtain ⟨n, e⟩ := outs_some e
  rw [outs_ne n]
  exact b.1 a o e fun z => n (z ▸ m)
theorem outs_same {L : List Addr} {H H' : Hp} (s : Same H H') : Same (Outs L H) (Outs L H') := fun a o e => by
  obtain ⟨n, e⟩ := outs_some e
  rw [outs_ne n]
  exact s a o e
theorem outs_sub {L : List Addr} {H : Hp} : Same (Outs L H) H := fun a o e => (outs_some e).2
theorem outs_upd {L : List Addr} {H : Hp} {l : Addr} {o : HO} (m : l ∈ L) : Outs L (upd H l o) = Outs L H := by
  funext b
  unfold Outs
  by_cases z : b ∈ L
  · rw [if_pos z, if_pos z]
  · rw [if_neg z, if_neg z, upd_ne fun e => z (by rw [e]; exact m)]
/-- lists stand there -/
def Dk (L : List Addr) (H : Hp) : Prop := ∀ b ∈ L, ∃ xs, H b = some (.lst xs)
theorem Dk.same {L : List Addr} {H H' : Hp} (d : Dk L H) (s : Same H H') : Dk L H' := fun b hb => (d b hb).imp fun xs e => s _ _ e
theorem Dk.but {L : List Addr} {p c : Addr} {H H' : Hp} (d : Dk L H) (b : But p H H') (hP : Pot H' p c) : Dk L H' := fun a ha => by
  by_cases z : a = p
  · rw [z]
    exact hP.p
  · obtain ⟨xs, e⟩ := d a ha
    exact ⟨xs, b.1 _ _ e z⟩
theorem rd_outs {L : List Addr} {a : Addr} {H : Hp} {xs : List V} (d : Dk L H) (e : Rd H a (.tup xs)) : Rd (Outs L H) a (.tup xs) := by
  rcases e with e | ⟨o, e⟩
  · refine .inl ?_
    rw [outs_ne fun z => ?_]
    · exact e
    · obtain ⟨ys, g⟩ := d a z
      rw [g] at e
      cases e
  · refine .inr ⟨o, ?_⟩
    rw [outs_ne fun z => ?_]
    · exact e
    · obtain ⟨ys, g⟩ := d a z
      rw [g] at e
      cases e
/-- what keeps the tuples keeps the trees -/
def TK (H H' : Hp) : Prop := ∀ a xs, Rd H a (.tup xs) → Rd H' a (.tup xs)
theorem tk_same {H H' : Hp} (s : Same H H') : TK H H' := fun _ _ e => rd_same e s
theorem tk_but {p c : Addr} {H H' : Hp} (b : But p H H') (hP : Pot H p c) : TK H H' := fun _ _ e => Rd.but b hP e
theorem tk_upd {H : Hp} {B : Addr} {xs : List V} {o : HO} (h : H B = some (.lst xs)) : TK H (upd H B o) := fun a ys e => by
  rcases e with e | ⟨ob, e⟩
  · refine .inl ?_
    rw [upd_ne fun z => ?_]
    · exact e
    · rw [z, h] at e
      cases e
  · refine .inr ⟨ob, ?_⟩
    rw [upd_ne fun z => ?_]
    · exact e
    · rw [z, h] at e
      cases e
theorem TK.trans {H H1 H2 : Hp} (a : TK H H1) (b : TK H1 H2) : TK H H2 := fun c xs e => b c xs (a c xs e)
mutual
theorem Da.keep {ks : List (Str × Int)} {H H' : Hp} (k : TK H H') : ∀ (d : PyData) (v : V), treeB ks d = true → Da H v d → Da H' v d
  | .tuple ds, v, ht, h => by
    simp only [treeB, Bool.and_eq_true] at ht
    cases h with
    | tup e hx => exact .tup (k _ _ e) (DaAll.keepT k ds _ ht.1 ht.2 hx)
  | .none, _, ht, _ | .bool _, _, ht, _ | .int _, _, ht, _ | .str _, _, ht, _ | .list _, _, ht, _ | .dict _, _, ht, _ => by simp [treeB] at ht
theorem DaAll.keepT {ks : List (Str × Int)} {H H' : Hp} (k : TK H H') : ∀ (ds : List PyData) (vs : List V), headB ks ds = true → tailB ks ds = true → DaAll H vs ds → DaAll H' vs ds
  | [], _, hh, _, _ => by simp [headB] at hh
  | d0 :: r, _, hh, ht, h => by
    simp only [tailB] at ht
    cases h with
    | cons h0 hr =>
      have r' := DaAll.keepL k r _ ht hr
      cases d0 with
      | str z =>
        cases h0
        exact .cons (.str z) r'
      | _ => simp [headB] at hh
theorem DaAll.keepL {ks : List (Str × Int)} {H H' : Hp} (k : TK H H') : ∀ (ds : List PyData) (vs : List V), allB ks ds = true → DaAll H vs ds → DaAll H' vs ds
  | [], _, _, h => by
    cases h
    exact .nil
  | d0 :: r, _, ht, h => by
    simp only [allB, Bool.and_eq_true] at ht
    cases h with
    | cons h0 hr => exact .cons (Da.keep k d0 _ ht.1 h0) (DaAll.keepL k r _ ht.2 hr)
end
theorem smL_app : ∀ a b : List PyData, smL (a ++ b) = (smL a && smL b)
  | [], b => by simp [smL]
  | d :: r, b => by
    rw [List.cons_append]
    simp only [smL]
    rw [smL_app r b, Bool.and_assoc]
theorem depthAll_app : ∀ a b : List PyData, PyData.depthAll (a ++ b) = max (PyData.depthAll a) (PyData.depthAll b)
  | [], b => by simp [PyData.depthAll]
  | d :: r, b => by
    rw [List.cons_append]
    simp only [PyData.depthAll]
    rw [depthAll_app r b]
    omega
def NB : Nat → Nat
  | 0 => 2
  | n + 1 => 2 + 4 * NB n
structure spSomeTree (n : Nat) (vs : List V) (H : Hp) (Q : VK) (E : XK) : Prop where
  ex : ∃ (p c a : Addr) (ks : List (Str × Int)) (rs : List Addr) (deep : Int), vs = [.ref p, .ref a, .int deep] ∧ deep ≤ n ∧ Pot H p c ∧ Rd H a (.tup (rs.map V.ref)) ∧ Prs H rs ks ∧ Rk ks ∧
    ∀ v d H', But p H H' → Pot H' p c → Da H' v d → treeB ks d = true → smB d = true → nodes d ≤ NB n → d.depth ≤ n + 1 → Q v H'
def spBackS : Nat → Sp
  | 0 => fun _ _ _ _ => False
  | n + 1 => fun vs H Q E => spSomeTree n vs H Q E
theorem eq_int (u i : Int) : V.bl (decide (V.int u = V.int i)) = V.bl (decide (u = i)) := by
  congr 1
  refine decide_eq_decide.mpr ⟨fun h => ?_, fun h => by rw [h]⟩
  cases h
  rfl
abbrev s_law_some_tree : Stmt := topS 14
theorem sc_law_some_tree : FnScope ["deck", "kind", "deep", "some", "tag", "parts", "pair", "part"] ["deck", "kind", "deep"] (defScope s_law_some_tree) := ⟨rfl, rfl, rfl, by decide +kernel, rfl, by decide +kernel, by decide +kernel⟩
section
variable {P : Program} {w : World} {K : PySem.W.Frag} {mg : Str → Option Value} {base : Heap}
theorem step_some_tree {f fp : Addr} {fd fdp : FuncData} {n : Nat} (F__law_some_tree : Fun K "_law_some_tree" "_law_some_tree" s_law_some_tree f fd) (T : TxtM mg) (F__law_pick : Fun K "_law_pick" "_law_pick" s_law_pick fp fdp) (b__law_pick : Binds K fdp ["deck", "some"] []) (g__law_pick : mg "_law_pick" = some (.ref fp)) (G__law_pick : FnOk P w K mg base CX0 3 fp fdp ["deck", "some"] (spPick K))
    (b__law_some_tree : Binds K fd ["deck", "kind", "deep"] []) (g__law_some_tree : mg "_law_some_tree" = some (.ref f)) (G__law_some_tree : FnOk P w K mg base CX0 (n + 3) f fd ["deck", "kind", "deep"] (spBackS n)) : FnOk P w K mg base CX0 (n + 4) f fd ["deck", "kind", "deep"] (spSomeTree n) := by
  refine F__law_some_tree.ok sc_law_some_tree (fun vs H Q E h => ?_) (fun cdv A outer s H vs Q E hr h => ?_)
  · obtain ⟨p, c, a, ks, rs, deep, rfl, _⟩ := h
    rfl
  · obtain ⟨p, c, a, ks, rs, deep, rfl, hdeep, hP, ea, pr, hK, q⟩ := h
    refine ⟨_, (pss_cons (ps_setLc (i := 3) (own := [("pair", 6)]) (g := gName 6) rfl sc_law_some_tree.nd rfl rfl (sw_true rfl rfl rfl (by decide +kernel)) (pi_tup (pv 1)) (blkOk_by (own := [("pair", 6)]) (N := ["deck", "kind", "deep", "some", "tag", "parts", "pair", "part"]) (sc := defScope s_law_some_tree) (by decide +kernel)) (fun _ _ _ _ _ => (pg_name (i := 6) sc_law_some_tree.nd rfl (.inl rfl))) (fun _ _ _ _ _ => (pts_one (PW.pt (pw_or (pt_cmpR op_eq (pe_ix (r := rIxT K) ix_tup (pv 6) pe_int (fun _ _ => rfl)) pe_int (nomark _)) (pw_or1 (pt_cmpR op_gt (pv 2) pe_int (nomark _))))))) (fun _ _ _ _ _ => (pv 6)))
  (pss_cons (ps_asg (pe_call G__law_pick (hr.mono (by omega)) (by rfl) g__law_pick F__law_pick.kp b__law_pick .nil pass0 (pa_cons (pv 0) (pa_cons (pv 3) pa_nil))) (pg_tup rfl (pgs_cons (pg_name (i := 4) sc_law_some_tree.nd rfl (.inl rfl)) (pgs_cons (pg_name (i := 5) sc_law_some_tree.nd rfl (.inl rfl)) pgs_nil))))
  (pss_one (ps_ret (pe_op op_catX (pe_tup (pa_cons (pv 4) pa_nil)) (pe_callTy call_tuple_of (by rfl) T.n_tuple (by decide +kernel) (pa_cons (pe_lc (own := [("part", 7)]) (g := gName 7) rfl sc_law_some_tree.nd (pi_range1 (by rfl) T.n_range (pa_cons (pv 5) pa_nil)) (blkOk_by (own := [("part", 7)]) (N := ["deck", "kind", "deep", "some", "tag", "parts", "pair", "part"]) (sc := defScope s_law_some_tree) (by decide +kernel)) (fun _ _ _ _ _ => (pg_name (i := 7) sc_law_some_tree.nd rfl (.inl rfl))) (fun _ _ _ _ _ => pts_nil) (fun _ _ _ _ _ => (pe_call G__law_some_tree (hr.mono (by omega)) (by rfl) g__law_some_tree F__law_some_tree.kp b__law_some_tree .nil pass0 (pa_cons (pv 0) (pa_cons (pv 1) (pa_cons (pe_op op_sub (pv 2) pe_int) pa_nil)))))) pa_nil))))))), ?_⟩
    clear G__law_some_tree G__law_pick
    have lr := pr.length
    -- some = [pair for pair in kind if pair[1] == 0 or deep > 0]
    refine ⟨_, rfl, a, rfl, ⟨_, .inl ea⟩, fun D nD => ?_⟩
    obtain ⟨npD, ncD⟩ := hP.ne nD
    refine lc_it (walk_tup (xs := rs.map V.ref)) (fun i H2 => Same H H2 ∧ ∃ ys, H2 D = some (.lst ys) ∧ ys.length ≤ i ∧ (∀ v ∈ ys, ∃ (r : Addr) (q : Str × Int), v = .ref r ∧ Rd H r (.tup [.str q.1, .int q.2]) ∧ q ∈ ks ∧ (q.2 = 0 ∨ 0 < deep)) ∧ ((∃ q ∈ ks.take i, q.2 = 0) → ys ≠ [])) ⟨same_upd nD, [], upd_same, Nat.zero_le _, fun _ z => (nomatch z), ?_⟩ (fun i H2 _ h => .inl (rd_same ea h.1)) ?_ ?_
    · rintro ⟨q0, hq0, _⟩
      simp at hq0
    · rintro i y H2 H3 hi ⟨s2, ys, hD, ly, all, ne0⟩ ⟨rfl, ex⟩
      obtain ⟨r, pp, rfl, hk, hr2⟩ := pr.item ex
      have hr3 := rd_same hr2 s2
      have zi : i < ks.length := (List.getElem?_eq_some_iff.mp hk).1
      have z8 := hK.few
      have tk : ks.take (i + 1) = ks.take i ++ [pp] := by
        rw [List.take_add_one, hk]
        rfl
      have yes : (pp.2 = 0 ∨ 0 < deep) → ∃ acc, H3 D = some (.lst acc) ∧ acc.length < sizeLine ∧ Same H (upd H3 D (.lst (acc ++ [.ref r]))) ∧ ∃ ys, upd H3 D (.lst (acc ++ [.ref r])) D = some (.lst ys) ∧ ys.length ≤ i + 1 ∧ (∀ v ∈ ys, ∃ (r : Addr) (q : Str × Int), v = .ref r ∧ Rd H r (.tup [.str q.1, .int q.2]) ∧ q ∈ ks ∧ (q.2 = 0 ∨ 0 < deep)) ∧ ((∃ q ∈ ks.take (i + 1), q.2 = 0) → ys ≠ []) := by
        intro hc
        refine ⟨ys, hD, small1000 (by omega), same_at s2 nD, ys ++ [.ref r], upd_same, ?_, ?_, ?_⟩
        · rw [List.length_append, List.length_singleton]
          omega
        · intro v hv
          rcases List.mem_append.mp hv with hv | hv
          · exact all v hv
          · rw [List.mem_singleton.mp hv]
            exact ⟨r, pp, rfl, hr2, List.mem_of_getElem? hk, hc⟩
        · intro _ z
          exact absurd z (by simp)
      refine ⟨rfl, ?_⟩
      refine ⟨_, rfl, r, _, _, .int pp.2, rfl, rfl, .inl hr3, atI_nat (j := 1) rfl, rfl, _, eq_int _ _, ?_⟩
      by_cases h0 : pp.2 = 0
      · rw [decide_eq_true h0]
        refine iteT ?_
        obtain ⟨acc, h1, h2, h3⟩ := yes (.inl h0)
        exact ⟨_, rfl, acc, h1, h2, h3⟩
      · rw [decide_eq_false h0]
        refine iteF ?_
        refine ⟨_, rfl, _, _, rfl, rfl, _, rfl, ?_⟩
        by_cases h1 : 0 < deep
        · have e1 : decide (deep > 0) = true := decide_eq_true h1
          rw [e1]
          refine iteT ?_
          obtain ⟨acc, g1, g2, g3⟩ := yes (.inr h1)
          exact ⟨_, rfl, acc, g1, g2, g3⟩
        · have e1 : decide (deep > 0) = false := decide_eq_false h1
          rw [e1]
          refine iteF ?_
          refine ⟨s2, ys, hD, by omega, all, ?_⟩
          rw [tk]
          rintro ⟨q0, hq0, e0⟩
          rcases List.mem_append.mp hq0 with hq0 | hq0
          · exact ne0 ⟨q0, hq0, e0⟩
          · rw [List.mem_singleton.mp hq0] at e0
            exact absurd e0 h0
    · rintro H2 ⟨s2, ys, hD, ly, all, ne0⟩
      rw [List.length_map, lr, List.take_length] at ne0
      rw [List.length_map, lr] at ly
      have nys : ys ≠ [] := ne0 hK.leaf
      have z8 := hK.few
      have hP2 := hP.same s2
      -- tag, parts = pick(deck, some)
      refine ⟨_, rfl, _, rfl, p, c, D, ys, rfl, hP2, .inl (.inl hD), nys, by omega, fun H' hb => .inl (.inl (hb.1 _ _ hD (Ne.symm npD))), fun v H3 hv hP3 b3 => ?_⟩
      obtain ⟨r, pp, rfl, hr, hmem, hpp⟩ := all v hv
      have hr3 : Rd H3 r (.tup [.str pp.1, .int pp.2]) := Rd.but b3 hP2 (rd_same hr s2)
      obtain ⟨pT, p0, p4⟩ := hK.all pp hmem
      refine ⟨r, _, rfl, .inl hr3, rfl, _, _, rfl, _, _, rfl, rfl, ?_⟩
      -- (tag,) + tuple([.. for part in range(parts)])
      refine ⟨_, rfl, by show 1 ≤ sizeLine; decide, fun t1 nt1 => ?_⟩
      have st : Same H3 (upd H3 t1 (.tup [.str pp.1])) := same_upd nt1
      have ht1 : (upd H3 t1 (.tup [.str pp.1])) t1 = some (.tup [.str pp.1]) := upd_same
      generalize upd H3 t1 (.tup [.str pp.1]) = H4 at st ht1 ⊢
      have bH3 : But p H H3 := (hP.but1 s2).trans b3
      have bH4 := bH3.same st
      have hP4 := hP3.same st
      refine ⟨_, rfl, pp.2, rfl, by omega, by omega, fun B nB => ?_⟩
      obtain ⟨npB, ncB⟩ := hP4.ne nB
      have nBH : H B = none := bH4.free nB
      refine lc_range (n := pp.2.toNat) (fun j H5 => But p H4 H5 ∧ Pot H5 p c ∧ ∃ (vs : List V) (ds : List PyData), H5 B = some (.lst vs) ∧ DaAll H5 vs ds ∧ ds.length = j ∧ allB ks ds = true ∧ smL ds = true ∧ nodesL ds ≤ j * NB (n - 1) ∧ PyData.depthAll ds ≤ n) ⟨hP4.but1 (same_upd nB), hP4.same (same_upd nB), [], [], upd_same, .nil, rfl, rfl, rfl, by simp [nodesL], by simp [PyData.depthAll]⟩ ?_ ?_
      · rintro j H5 hj ⟨b5, hP5, vs, ds, hB5, hda, lds, hall, hsm, hno, hdp⟩
        refine ⟨rfl, ?_⟩
        unfold tYes
        dsimp only
        rw [if_pos rfl]
        refine ⟨_, rfl, _, rfl, _, rfl, _, _, rfl, rfl, ?_⟩
        cases n with
        | zero =>
          have z1 : pp.2 = 0 := by
            rcases hpp with z | z
            · exact z
            · omega
          rw [z1] at hj
          exact absurd hj (Nat.not_lt_zero _)
        | succ m =>
          have tk5 : TK H H5 := (tk_same s2).trans ((tk_but b3 hP2).trans ((tk_same st).trans (tk_but b5 hP4)))
          refine ⟨p, c, a, ks, rs, deep - 1, rfl, by omega, hP5, tk5 _ _ ea, ?_, hK, fun v d H6 b6 hP6 hv hT hS hN hD => ?_⟩
          · clear hda
            have go : ∀ {rs : List Addr} {ks : List (Str × Int)}, Prs H rs ks → Prs H5 rs ks := by
              intro rs ks h
              induction h with
              | nil => exact .nil
              | cons e _ ih => exact .cons (tk5 _ _ e) ih
            exact go pr
          have hB6 := b6.1 _ _ hB5 (Ne.symm npB)
          have lvs := hda.length
          have tk6 := tk_but b6 hP5
          have tk7 : TK H6 (upd H6 B (.lst (vs ++ [v]))) := tk_upd hB6
          refine ⟨vs, hB6, ?_, (b5.trans b6).set nB, hP6.upd npB ncB, vs ++ [v], ds ++ [d], upd_same, ?_, ?_, ?_, ?_, ?_, ?_⟩
          · exact small1000 (by omega)
          · exact (DaAll.keepL (tk6.trans tk7) ds vs hall hda).app (.cons (Da.keep tk7 d v hT hv) .nil)
          · rw [List.length_append, lds]
            rfl
          · rw [allB_app, hall]
            simp [allB, hT]
          · rw [smL_app, hsm]
            simp [smL, hS]
          · rw [nodesL_app]
            simp only [nodesL]
            rw [Nat.succ_mul]
            show _ ≤ j * NB m + NB m
            have h1 : nodesL ds ≤ j * NB m := hno
            omega
          · rw [depthAll_app]
            simp only [PyData.depthAll]
            omega
      · rintro H5 ⟨b5, hP5, vs, ds, hB5, hda, lds, hall, hsm, hno, hdp⟩
        have lvs := hda.length
        refine ⟨B, vs, rfl, .inl ⟨.inl (.inl hB5), fun u nu => ?_⟩⟩
        have su : Same H5 (upd H5 u (.tup vs)) := same_upd nu
        have hu : (upd H5 u (.tup vs)) u = some (.tup vs) := upd_same
        generalize upd H5 u (.tup vs) = H6 at su hu ⊢
        have ht6 := rd_same (Rd.but b5 hP4 (.inl ht1)) su
        refine ⟨t1, u, [.str pp.1], vs, rfl, rfl, ht6, .inl hu, ?_, fun x H7 s7 hx => ?_⟩
        · show 1 + vs.length ≤ sizeLine
          exact fits_few (by omega)
        · have hT : treeB ks (.tuple (.str pp.1 :: ds)) = true := by
            simp only [treeB, headB, tailB, hall, Bool.and_true]
            refine decide_eq_true ?_
            have e : ((ds.length : Nat) : Int) = pp.2 := by omega
            rw [e]
            exact hmem
          refine q _ (.tuple (.str pp.1 :: ds)) H7 (((bH4.trans b5).same su).same s7) ((hP5.same su).same s7) (.tup hx (.cons (.str _) ((hda.same su).same s7))) hT ?_ ?_ ?_
          · simp only [smB, smL, hsm, Bool.and_true]
            obtain ⟨g1, g2⟩ := tags_ok _ pT
            rw [decide_eq_true (by omega), Bool.true_and, List.all_eq_true]
            exact fun c hc => decide_eq_true (g2 c hc)
          · simp only [nodes, nodesL]
            cases n with
            | zero =>
              have z1 : pp.2 = 0 := by
                rcases hpp with z | z
                · exact z
                · omega
              rw [z1] at hno
              show 1 + (1 + nodesL ds) ≤ 2
              simp at hno
              omega
            | succ m =>
              show _ ≤ 2 + 4 * NB m
              have h1 : nodesL ds ≤ pp.2.toNat * NB m := hno
              have h2 : pp.2.toNat * NB m ≤ 4 * NB m := Nat.mul_le_mul_right _ (by omega)
              omega
          · simp only [PyData.depth, PyData.depthAll]
            omega
theorem ok_some_tree {f fp : Addr} {fd fdp : FuncData} (F : Fun K "_law_some_tree" "_law_some_tree" s_law_some_tree f fd) (T : TxtM mg) (Fp : Fun K "_law_pick" "_law_pick" s_law_pick fp fdp) (bp : Binds K fdp ["deck", "some"] []) (gp : mg "_law_pick" = some (.ref fp)) (Gp : FnOk P w K mg base CX0 3 fp fdp ["deck", "some"] (spPick K))
    (b : Binds K fd ["deck", "kind", "deep"] []) (g : mg "_law_some_tree" = some (.ref f)) : ∀ n, FnOk P w K mg base CX0 (n + 4) f fd ["deck", "kind", "deep"] (spSomeTree n)
  | 0 => step_some_tree F T Fp bp gp Gp b g ok_never
  | n + 1 => step_some_tree F T Fp bp gp Gp b g (ok_some_tree F T Fp bp gp Gp b g n)
end
end My

namespace My
open PySem PySem.Spec PyProof.Rows L2
theorem flat_rep {α : Type} (k : Nat) (v : α) : (List.replicate k [v]).flatten = List.replicate k v := by
  induction k with
  | zero => rfl
  | succ k ih => rw [List.replicate_succ, List.flatten_cons, ih, List.replicate_succ]; rfl
theorem DaAll.rep {H : Hp} {v : V} {d : PyData} (h : Da H v d) : ∀ k, DaAll H (List.replicate k v) (List.replicate k d)
  | 0 => .nil
  | k + 1 => by
    rw [List.replicate_succ, List.replicate_succ]
    exact .cons h (DaAll.rep h k)
theorem allB_rep {ks : List (Str × Int)} {d : PyData} (h : treeB ks d = true) : ∀ k, allB ks (List.replicate k d) = true
  | 0 => rfl
  | k + 1 => by
    rw [List.replicate_succ]
    simp only [allB, h, allB_rep h k, Bool.and_self]
theorem nodes_rep (d : PyData) : ∀ k, nodesL (List.replicate k d) = k * nodes d
  | 0 => by simp [nodesL]
  | k + 1 => by
    rw [List.replicate_succ]
    simp only [nodesL]
    rw [nodes_rep d k, Nat.succ_mul, Nat.add_comm]
/-- a leaf -/
def LeafAt (ks : List (Str × Int)) (H : Hp) (v : V) : Prop := ∃ z, Da H v (.tuple [.str z]) ∧ (z, (0 : Int)) ∈ ks
theorem leaf_tree {ks : List (Str × Int)} {z : Str} (h : (z, (0 : Int)) ∈ ks) : treeB ks (.tuple [.str z]) = true := by
  simp only [treeB, headB, tailB, allB, Bool.and_true]
  exact decide_eq_true h
theorem LeafAt.keep {ks : List (Str × Int)} {H H' : Hp} {v : V} (k : TK H H') (h : LeafAt ks H v) : LeafAt ks H' v := by
  obtain ⟨z, h1, h2⟩ := h
  exact ⟨z, Da.keep k _ _ (leaf_tree h2) h1, h2⟩
structure spLeaning (vs : List V) (H : Hp) (Q : VK) (E : XK) : Prop where
  ex : ∃ (p c a : Addr) (ks : List (Str × Int)) (rs : List Addr) (levels : Nat), vs = [.ref p, .ref a, .int levels] ∧ levels ≤ 390 ∧ Pot H p c ∧ Rd H a (.tup (rs.map V.ref)) ∧ Prs H rs ks ∧ Rk ks ∧
    ∀ v d H', But p H H' → Pot H' p c → Da H' v d → treeB ks d = true → nodes d ≤ 4000 → Q v H'
theorem Prs.keep {H H' : Hp} (k : TK H H') {rs : List Addr} {ks : List (Str × Int)} (h : Prs H rs ks) : Prs H' rs ks := by
  induction h with
  | nil => exact .nil
  | cons e _ ih => exact .cons (k _ _ e) ih
abbrev s_law_leaning : Stmt := topS 16
theorem sc_law_leaning : FnScope ["deck", "kind", "levels", "tag", "parts", "leaves", "found", "level", "place", "pair"] ["deck", "kind", "levels"] (defScope s_law_leaning) := ⟨rfl, rfl, rfl, by decide +kernel, rfl, by decide +kernel, by decide +kernel⟩
section
variable {P : Program} {w : World} {K : PySem.W.Frag} {mg : Str → Option Value} {base : Heap}
theorem ok_leaning {f fb fp : Addr} {fd fdb fdp : FuncData} {k : Nat} (F : Fun K "_law_leaning" "_law_leaning" s_law_leaning f fd) (T : TxtM mg) (F__law_below : Fun K "_law_below" "_law_below" s_law_below fb fdb) (b__law_below : Binds K fdb ["deck", "bound"] []) (g__law_below : mg "_law_below" = some (.ref fb)) (G__law_below : FnOk P w K mg base CX0 2 fb fdb ["deck", "bound"] spBelow)
    (F__law_pick : Fun K "_law_pick" "_law_pick" s_law_pick fp fdp) (b__law_pick : Binds K fdp ["deck", "some"] []) (g__law_pick : mg "_law_pick" = some (.ref fp)) (G__law_pick : FnOk P w K mg base CX0 3 fp fdp ["deck", "some"] (spPick K)) : FnOk P w K mg base CX0 (k + 4) f fd ["deck", "kind", "levels"] spLeaning := by
  refine F.ok sc_law_leaning (fun vs H Q E h => ?_) (fun cdv A outer s H vs Q E hr h => ?_)
  · obtain ⟨p, c, a, ks, rs, levels, rfl, _⟩ := h
    rfl
  · obtain ⟨p, c, a, ks, rs, levels, rfl, hlev, hP, ea, pr, hK, q⟩ := h
    refine ⟨_, (pss_cons (ps_setLc (i := 5) (own := [("tag", 3), ("parts", 4)]) (g := gTup K 2 (gCons (gName 3) (gCons (gName 4) gNil))) rfl sc_law_leaning.nd rfl rfl (sw_true rfl rfl rfl (by decide +kernel)) (pi_tup (pv 1)) (blkOk_by (own := [("tag", 3), ("parts", 4)]) (N := ["deck", "kind", "levels", "tag", "parts", "leaves", "found", "level", "place", "pair"]) (sc := defScope s_law_leaning) (by decide +kernel)) (fun _ _ _ _ _ => (pg_tup rfl (pgs_cons (pg_name (i := 3) sc_law_leaning.nd rfl (.inl rfl)) (pgs_cons (pg_name (i := 4) sc_law_leaning.nd rfl (.inl rfl)) pgs_nil)))) (fun _ _ _ _ _ => (pts_one (pt_cmpR op_eq (pv 4) pe_int (nomark _)))) (fun _ _ _ _ _ => (pe_tup (pa_cons (pv 3) pa_nil))))
  (pss_cons (ps_set (i := 6) sc_law_leaning.nd rfl (.inl rfl) (pe_call G__law_pick (hr.mono (by omega)) (by rfl) g__law_pick F__law_pick.kp b__law_pick .nil pass0 (pa_cons (pv 0) (pa_cons (pv 5) pa_nil))))
  (pss_cons (ps_for PassesOwn.never rfl (pi_range1 (by rfl) T.n_range (pa_cons (pv 2) pa_nil)) (pg_name (i := 7) sc_law_leaning.nd rfl (.inl rfl))
   (pss_cons (ps_asg (pe_call G__law_pick (hr.mono (by omega)) (by rfl) g__law_pick F__law_pick.kp b__law_pick .nil pass0 (pa_cons (pv 0) (pa_cons (pe_lc (own := [("pair", 9)]) (g := gName 9) rfl sc_law_leaning.nd (pi_tup (pv 1)) (blkOk_by (own := [("pair", 9)]) (N := ["deck", "kind", "levels", "tag", "parts", "leaves", "found", "level", "place", "pair"]) (sc := defScope s_law_leaning) (by decide +kernel)) (fun _ _ _ _ _ => (pg_name (i := 9) sc_law_leaning.nd rfl (.inl rfl))) (fun _ _ _ _ _ => (pts_one (pt_cmpR op_gt (pe_ix (r := rIxT K) ix_tup (pv 9) pe_int (fun _ _ => rfl)) pe_int (nomark _)))) (fun _ _ _ _ _ => (pv 9))) pa_nil))) (pg_tup rfl (pgs_cons (pg_name (i := 3) sc_law_leaning.nd rfl (.inl rfl)) (pgs_cons (pg_name (i := 4) sc_law_leaning.nd rfl (.inl rfl)) pgs_nil))))
  (pss_cons (ps_set (i := 8) sc_law_leaning.nd rfl (.inl rfl) (pe_call G__law_below (hr.mono (by omega)) (by rfl) g__law_below F__law_below.kp b__law_below .nil pass0 (pa_cons (pv 0) (pa_cons (pv 4) pa_nil))))
  (pss_one (ps_set (i := 6) sc_law_leaning.nd rfl (.inl rfl) (pe_op op_catX (pe_op op_catX (pe_op op_catX (pe_tup (pa_cons (pv 3) pa_nil)) (pe_op op_repX (pe_tup (pa_cons (pe_call G__law_pick (hr.mono (by omega)) (by rfl) g__law_pick F__law_pick.kp b__law_pick .nil pass0 (pa_cons (pv 0) (pa_cons (pv 5) pa_nil))) pa_nil)) (pv 8))) (pe_tup (pa_cons (pv 6) pa_nil))) (pe_op op_repX (pe_tup (pa_cons (pe_ix ix_list (pv 5) pe_int (fun _ _ => rfl)) pa_nil)) (pe_op op_sub (pe_op op_sub (pv 4) pe_int) (pv 8)))))))))
  (pss_one (ps_ret (pv 6)))))), ?_⟩
    clear G__law_pick G__law_below
    have lr := pr.length
    have z8 := hK.few
    -- leaves
    refine ⟨_, rfl, a, rfl, ⟨_, .inl ea⟩, fun D nD => ?_⟩
    obtain ⟨npD, ncD⟩ := hP.ne nD
    refine lc_it (walk_tup (xs := rs.map V.ref)) (fun i H2 => Same H H2 ∧ ∃ ys, H2 D = some (.lst ys) ∧ ys.length ≤ i ∧ (∀ v ∈ ys, LeafAt ks H2 v) ∧ ((∃ q ∈ ks.take i, q.2 = 0) → ys ≠ [])) ⟨same_upd nD, [], upd_same, Nat.zero_le _, fun _ z => (nomatch z), ?_⟩ (fun i H2 _ h => .inl (rd_same ea h.1)) ?_ ?_
    · rintro ⟨q0, hq0, _⟩
      simp at hq0
    · rintro i y H2 H3 hi ⟨s2, ys, hD, ly, all, ne0⟩ ⟨rfl, ex⟩
      obtain ⟨r, pp, rfl, hk, hr2⟩ := pr.item ex
      have hr3 := rd_same hr2 s2
      have zi : i < ks.length := (List.getElem?_eq_some_iff.mp hk).1
      have tk : ks.take (i + 1) = ks.take i ++ [pp] := by
        rw [List.take_add_one, hk]
        rfl
      refine ⟨r, _, rfl, .inl hr3, rfl, _, _, rfl, _, _, rfl, rfl, rfl, ?_⟩
      refine ⟨_, rfl, rfl, _, eq_int _ _, ?_⟩
      by_cases h0 : pp.2 = 0
      · rw [decide_eq_true h0]
        refine iteT ?_
        refine ⟨_, rfl, by show 1 ≤ sizeLine; decide, fun t nt => ?_⟩
        have st : Same H3 (upd H3 t (.tup [.str pp.1])) := same_upd nt
        have ht : (upd H3 t (.tup [.str pp.1])) t = some (.tup [.str pp.1]) := upd_same
        generalize upd H3 t (.tup [.str pp.1]) = H4 at st ht ⊢
        have hD4 := st _ _ hD
        have kD : TK H4 (upd H4 D (.lst (ys ++ [.ref t]))) := tk_upd hD4
        refine ⟨ys, hD4, small1000 (by omega), same_at (s2.trans st) nD, ys ++ [.ref t], upd_same, ?_, ?_, ?_⟩
        · rw [List.length_append, List.length_singleton]
          omega
        · intro v hv
          rcases List.mem_append.mp hv with hv | hv
          · exact (all v hv).keep ((tk_same st).trans kD)
          · rw [List.mem_singleton.mp hv]
            refine ⟨pp.1, .tup (kD _ _ (.inl ht)) (.cons (.str _) .nil), ?_⟩
            rw [← h0]
            exact List.mem_of_getElem? hk
        · intro _ z
          exact absurd z (by simp)
      · rw [decide_eq_false h0]
        refine iteF ?_
        refine ⟨s2, ys, hD, by omega, all, ?_⟩
        rw [tk]
        rintro ⟨q0, hq0, e0⟩
        rcases List.mem_append.mp hq0 with hq0 | hq0
        · exact ne0 ⟨q0, hq0, e0⟩
        · rw [List.mem_singleton.mp hq0] at e0
          exact absurd e0 h0
    · rintro H2 ⟨s2, ys, hD, ly, all, ne0⟩
      rw [List.length_map, lr, List.take_length] at ne0
      rw [List.length_map, lr] at ly
      have nys : ys ≠ [] := ne0 hK.leaf
      have hP2 := hP.same s2
      have bH2 := hP.but1 s2
      -- found
      refine ⟨_, rfl, _, rfl, p, c, D, ys, rfl, hP2, .inl (.inl hD), nys, by omega, fun H' hb => .inl (.inl (hb.1 _ _ hD (Ne.symm npD))), fun v H3 hv hP3 b3 => ?_⟩
      have k3 : TK H2 H3 := tk_but b3 hP2
      have hD3 := b3.1 _ _ hD (Ne.symm npD)
      have all3 : ∀ v ∈ ys, LeafAt ks H3 v := fun v hv => (all v hv).keep k3
      obtain ⟨z, hz, mz⟩ := all3 v hv
      have kH3 : TK H H3 := (tk_same s2).trans k3
      refine ⟨_, rfl, levels, rfl, by omega, by omega, for_range (n := levels) (fun i σ H5 => But p H H5 ∧ Pot H5 p c ∧ TK H H5 ∧ H5 D = some (.lst ys) ∧ (∀ v ∈ ys, LeafAt ks H5 v) ∧ ∃ (v : V) (d : PyData) (v3 v4 v7 v8 v9 : Option V), Da H5 v d ∧ treeB ks d = true ∧ nodes d ≤ 2 + 8 * i ∧ σ = [some (.ref p), some (.ref a), some (.int levels), v3, v4, some (.ref D), some v, v7, v8, v9]) ⟨bH2.trans b3, hP3, kH3, hD3, all3, v, .tuple [.str z], _, _, _, _, _, hz, leaf_tree mz, by simp [nodes, nodesL], rfl⟩ ?_ ?_⟩
      · rintro i σ H5 hi ⟨bH5, hP5, k5, hD5, all5, v5, d5, v3, v4, v7, v8, v9, hv5, hT5, hN5, rfl⟩
        have ea5 := k5 _ _ ea
        have pr5 := pr.keep k5
        obtain ⟨npD5, ncD5⟩ : p ≠ D ∧ c ≠ D := ⟨npD, ncD⟩
        -- [pair for pair in kind if pair[1] > 0]
        refine ⟨_, rfl, _, rfl, a, rfl, ⟨_, .inl ea5⟩, fun B nB => ?_⟩
        obtain ⟨npB, ncB⟩ := hP5.ne nB
        have nDB : D ≠ B := ne_of_none hD5 nB
        refine lc_it (walk_tup (xs := rs.map V.ref)) (fun i H6 => Same H5 H6 ∧ ∃ zs, H6 B = some (.lst zs) ∧ zs.length ≤ i ∧ (∀ v ∈ zs, ∃ (r : Addr) (q : Str × Int), v = .ref r ∧ Rd H5 r (.tup [.str q.1, .int q.2]) ∧ q ∈ ks ∧ 0 < q.2) ∧ ((∃ q ∈ ks.take i, 0 < q.2) → zs ≠ [])) ⟨same_upd nB, [], upd_same, Nat.zero_le _, fun _ z => (nomatch z), ?_⟩ (fun i H6 _ h => .inl (rd_same ea5 h.1)) ?_ ?_
        · rintro ⟨q0, hq0, _⟩
          simp at hq0
        · rintro j y H6 H7 hj ⟨s6, zs, hB, lz, allz, ne0⟩ ⟨rfl, ex⟩
          obtain ⟨r, pp, rfl, hk, hr2⟩ := pr5.item ex
          have zj : j < ks.length := (List.getElem?_eq_some_iff.mp hk).1
          have tk : ks.take (j + 1) = ks.take j ++ [pp] := by
            rw [List.take_add_one, hk]
            rfl
          refine ⟨rfl, ?_⟩
          refine ⟨_, rfl, r, _, _, .int pp.2, rfl, rfl, .inl (rd_same hr2 s6), atI_nat (j := 1) rfl, _, _, rfl, rfl, _, rfl, ?_⟩
          by_cases h0 : 0 < pp.2
          · have e1 : decide (pp.2 > 0) = true := decide_eq_true h0
            rw [e1]
            refine iteT ?_
            refine ⟨_, rfl, zs, hB, small1000 (by omega), same_at s6 nB, zs ++ [.ref r], upd_same, ?_, ?_, ?_⟩
            · rw [List.length_append, List.length_singleton]
              omega
            · intro v hv
              rcases List.mem_append.mp hv with hv | hv
              · exact allz v hv
              · rw [List.mem_singleton.mp hv]
                exact ⟨r, pp, rfl, hr2, List.mem_of_getElem? hk, h0⟩
            · intro _ z
              exact absurd z (by simp)
          · have e1 : decide (pp.2 > 0) = false := decide_eq_false h0
            rw [e1]
            refine iteF ?_
            refine ⟨s6, zs, hB, by omega, allz, ?_⟩
            rw [tk]
            rintro ⟨q0, hq0, e0⟩
            rcases List.mem_append.mp hq0 with hq0 | hq0
            · exact ne0 ⟨q0, hq0, e0⟩
            · rw [List.mem_singleton.mp hq0] at e0
              exact absurd e0 h0
        · rintro H6 ⟨s6, zs, hB, lz, allz, ne0⟩
          rw [List.length_map, lr, List.take_length] at ne0
          rw [List.length_map, lr] at lz
          have nzs : zs ≠ [] := ne0 hK.node
          have hP6 := hP5.same s6
          have bH6 := bH5.same s6
          refine ⟨p, c, B, zs, rfl, hP6, .inl (.inl hB), nzs, by omega, fun H' hb => .inl (.inl (hb.1 _ _ hB (Ne.symm npB))), fun v H7 hv hP7 b7 => ?_⟩
          obtain ⟨r, pp, rfl, hr, hmem, hpos⟩ := allz v hv
          obtain ⟨pT, p0, p4⟩ := hK.all pp hmem
          have k7 : TK H5 H7 := (tk_same s6).trans (tk_but b7 hP6)
          have bH7 := bH6.trans b7
          refine ⟨r, _, rfl, .inl (k7 _ _ hr), rfl, _, _, rfl, _, _, rfl, rfl, ?_⟩
          -- place
          refine ⟨_, rfl, _, rfl, p, c, _, rfl, hP7, by omega, by omega, fun pl H8 pl0 pl1 hP8 b8 => ?_⟩
          have k8 : TK H5 H8 := k7.trans (tk_but b8 hP7)
          have bH8 := bH7.trans b8
          have hD8 : H8 D = some (.lst ys) := b8.1 _ _ (b7.1 _ _ (s6 _ _ hD5) (Ne.symm npD)) (Ne.symm npD)
          -- (tag,)
          refine ⟨_, rfl, by show 1 ≤ sizeLine; decide, fun t1 n1 => ?_⟩
          have s9 : Same H8 (upd H8 t1 (.tup [.str pp.1])) := same_upd n1
          have h1 : Rd (upd H8 t1 (.tup [.str pp.1])) t1 (.tup [.str pp.1]) := .inl upd_same
          generalize upd H8 t1 (.tup [.str pp.1]) = H9 at s9 h1 ⊢
          have hP9 := hP8.same s9
          have hD9 := s9 _ _ hD8
          -- (pick(deck, leaves),) * place
          refine ⟨_, rfl, _, rfl, p, c, D, ys, rfl, hP9, .inl (.inl hD9), nys, by omega, fun H' hb => .inl (.inl (hb.1 _ _ hD9 (Ne.symm npD))), fun lv HA hlv hPA bA => ?_⟩
          have kA : TK H9 HA := tk_but bA hP9
          refine ⟨by show 1 ≤ sizeLine; decide, fun t2 n2 => ?_⟩
          have sB : Same HA (upd HA t2 (.tup [lv])) := same_upd n2
          have h2 : Rd (upd HA t2 (.tup [lv])) t2 (.tup [lv]) := .inl upd_same
          generalize upd HA t2 (.tup [lv]) = HB at sB h2 ⊢
          refine ⟨_, rfl, t2, pl, [lv], rfl, rfl, h2, (fun z => nomatch z), pl0, by omega, by show 1 ≤ 1000; decide, fun r2 HC sC hr2 => ?_⟩
          rw [flat_rep] at hr2
          have h1C : Rd HC t1 (.tup [.str pp.1]) := rd_same (rd_same (kA _ _ h1) sB) sC
          refine ⟨t1, r2, _, _, rfl, rfl, h1C, hr2, ?_, fun x1 HD' sD hx1 => ?_⟩
          · show 1 + (List.replicate pl.toNat lv).length ≤ sizeLine
            rw [List.length_replicate]
            exact fits_few (by omega)
          -- (found,)
          refine ⟨_, rfl, by show 1 ≤ sizeLine; decide, fun t3 n3 => ?_⟩
          have sE : Same HD' (upd HD' t3 (.tup [v5])) := same_upd n3
          have h3 : Rd (upd HD' t3 (.tup [v5])) t3 (.tup [v5]) := .inl upd_same
          generalize upd HD' t3 (.tup [v5]) = HE at sE h3 ⊢
          refine ⟨x1, t3, _, _, rfl, rfl, rd_same hx1 sE, h3, ?_, fun x2 HF sF hx2 => ?_⟩
          · show ([V.str pp.1] ++ List.replicate pl.toNat lv).length + 1 ≤ sizeLine
            rw [List.length_append, List.length_replicate]
            exact fits_few (by show 1 + pl.toNat + 1 ≤ 100; omega)
          have hDF : HF D = some (.lst ys) := sF _ _ (sE _ _ (sD _ _ (sC _ _ (sB _ _ (bA.1 _ _ hD9 (Ne.symm npD))))))
          -- (leaves[0],) * (parts - 1 - place)
          obtain ⟨lf, ys', rfl⟩ : ∃ a l, ys = a :: l := List.exists_cons_of_ne_nil nys
          refine ⟨_, rfl, D, _, _, lf, rfl, rfl, .inl (.inl hDF), atI_nat (j := 0) rfl, by show 1 ≤ sizeLine; decide, fun t4 n4 => ?_⟩
          have sG : Same HF (upd HF t4 (.tup [lf])) := same_upd n4
          have h4 : Rd (upd HF t4 (.tup [lf])) t4 (.tup [lf]) := .inl upd_same
          generalize upd HF t4 (.tup [lf]) = HG at sG h4 ⊢
          refine ⟨_, rfl, _, _, rfl, rfl, _, rfl, _, _, rfl, rfl, t4, pp.2 - 1 - pl, [lf], rfl, rfl, h4, (fun z => nomatch z), by omega, by omega, by show 1 ≤ 1000; decide, fun r4 HH sH hr4 => ?_⟩
          rw [flat_rep] at hr4
          refine ⟨x2, r4, _, _, rfl, rfl, rd_same (rd_same hx2 sG) sH, hr4, ?_, fun x3 HI sI hx3 => ?_⟩
          · rw [List.length_append, List.length_append, List.length_replicate, List.length_replicate]
            exact fits_few (by show 1 + pl.toNat + 1 + _ ≤ 100; omega)
          have kAI : TK HA HI := (((((((tk_same sB).trans (tk_same sC)).trans (tk_same sD)).trans (tk_same sE)).trans (tk_same sF)).trans (tk_same sG)).trans (tk_same sH)).trans (tk_same sI)
          have k8I : TK H8 HI := (tk_same s9).trans (kA.trans kAI)
          have k5I : TK H5 HI := k8.trans k8I
          have sAI : Same HA HI := ((((((sB.trans sC).trans sD).trans sE).trans sF).trans sG).trans sH).trans sI
          have allI : ∀ v ∈ lf :: ys', LeafAt ks HI v := fun v hv => (all5 v hv).keep k5I
          obtain ⟨z1, hz1, mz1⟩ := allI lv hlv
          obtain ⟨z2, hz2, mz2⟩ := allI lf List.mem_cons_self
          have hv5I := Da.keep k5I _ _ hT5 hv5
          have hall : allB ks (List.replicate pl.toNat (.tuple [.str z1]) ++ [d5] ++ List.replicate (pp.2 - 1 - pl).toNat (.tuple [.str z2])) = true := by
            rw [allB_app, allB_app, allB_rep (leaf_tree mz1), allB_rep (leaf_tree mz2)]
            simp [allB, hT5]
          have hlen : ((List.replicate pl.toNat (PyData.tuple [.str z1]) ++ [d5] ++ List.replicate (pp.2 - 1 - pl).toNat (PyData.tuple [.str z2])).length : Int) = pp.2 := by
            rw [List.length_append, List.length_append, List.length_replicate, List.length_replicate, List.length_singleton]
            omega
          have eV : [V.str pp.1] ++ List.replicate pl.toNat lv ++ [v5] ++ List.replicate (pp.2 - 1 - pl).toNat lf = V.str pp.1 :: (List.replicate pl.toNat lv ++ [v5] ++ List.replicate (pp.2 - 1 - pl).toNat lf) := by simp
          refine ⟨(bH8.same s9).trans (bA.same sAI), hPA.same sAI, k5.trans k5I, sI _ _ (sH _ _ (sG _ _ hDF)), allI, .ref x3, .tuple (.str pp.1 :: (List.replicate pl.toNat (.tuple [.str z1]) ++ [d5] ++ List.replicate (pp.2 - 1 - pl).toNat (.tuple [.str z2]))), _, _, _, _, _, .tup hx3 ?_, ?_, ?_, rfl⟩
          · rw [eV]
            exact .cons (.str _) (((DaAll.rep hz1 _).app (.cons hv5I .nil)).app (DaAll.rep hz2 _))
          · simp only [treeB, headB, tailB, hall, Bool.and_true]
            refine decide_eq_true ?_
            rw [hlen]
            exact hmem
          · have n1 : nodes (PyData.tuple [.str z1]) = 2 := by simp [nodes, nodesL]
            have n2 : nodes (PyData.tuple [.str z2]) = 2 := by simp [nodes, nodesL]
            simp only [nodes, nodesL]
            rw [nodesL_app, nodesL_app, nodes_rep, nodes_rep, n1, n2]
            simp only [nodesL]
            omega
      · rintro σ H5 ⟨bH5, hP5, k5, hD5, all5, v5, d5, v3, v4, v7, v8, v9, hv5, hT5, hN5, rfl⟩
        exact ⟨_, rfl, q v5 d5 H5 bH5 hP5 hv5 hT5 (by omega)⟩
end
end My

namespace My
open PySem PySem.Spec PyProof.Rows L2
/-! ### an expression, then what follows, with a word between them -/
def tCutE (te : TE) : TE := fun σ H Q => ∃ M : VK, te σ H M ∧ ∀ v H', M v H' → Q v H'
theorem pe_cut {X : Cx} {e : Expr} {te : TE} (h : PE X e te) : PE X e (tCutE te) := ⟨fun pins s σ H Q I ⟨M, hm, hq⟩ => thn (h.run pins s σ H M I hm) fun v s' ⟨x, H', I', r, m⟩ => ⟨x, H', I', r, hq x H' m⟩⟩
/-! ### data without lists and dicts -/
mutual
def pur : PyData → Bool
  | .tuple ds => purL ds
  | .list _ | .dict _ => false
  | .none | .bool _ | .int _ | .str _ => true
def purL : List PyData → Bool
  | [] => true
  | d :: r => pur d && purL r
end
mutual
theorem pur_no : ∀ d : PyData, pur d = true → noL d = true ∧ d.hasDict = false
  | .tuple ds, h => by
    simp only [pur] at h
    obtain ⟨a, b⟩ := purL_no ds h
    exact ⟨by simpa only [noL] using a, by simpa only [PyData.hasDict] using b⟩
  | .list _, h => by simp [pur] at h
  | .dict _, h => by simp [pur] at h
  | .none, _ => ⟨by simp only [noL], by simp only [PyData.hasDict]⟩
  | .bool _, _ => ⟨by simp only [noL], by simp only [PyData.hasDict]⟩
  | .int _, _ => ⟨by simp only [noL], by simp only [PyData.hasDict]⟩
  | .str _, _ => ⟨by simp only [noL], by simp only [PyData.hasDict]⟩
theorem purL_no : ∀ ds : List PyData, purL ds = true → noLs ds = true ∧ PyData.hasDictAll ds = false
  | [], _ => ⟨by simp only [noLs], by simp only [PyData.hasDictAll]⟩
  | d :: r, h => by
    simp only [purL, Bool.and_eq_true] at h
    obtain ⟨a, b⟩ := pur_no d h.1
    obtain ⟨a', b'⟩ := purL_no r h.2
    exact ⟨by simp only [noLs, a, a', Bool.and_self], by simp only [PyData.hasDictAll, b, b', Bool.or_self]⟩
end
mutual
theorem tree_pur {ks : List (Str × Int)} : ∀ d : PyData, treeB ks d = true → pur d = true
  | .tuple ds, h => by
    simp only [treeB, Bool.and_eq_true] at h
    simp only [pur]
    exact tree_purT ds h.1 h.2
  | .none, h | .bool _, h | .int _, h | .str _, h | .list _, h | .dict _, h => by simp [treeB] at h
theorem tree_purT {ks : List (Str × Int)} : ∀ ds : List PyData, headB ks ds = true → tailB ks ds = true → purL ds = true
  | [], h, _ => by simp [headB] at h
  | d0 :: r, hh, ht => by
    simp only [tailB] at ht
    have hr := tree_purL r ht
    simp only [purL, hr, Bool.and_true]
    cases d0 with
    | str z => simp only [pur]
    | _ => simp [headB] at hh
theorem tree_purL {ks : List (Str × Int)} : ∀ ds : List PyData, allB ks ds = true → purL ds = true
  | [], _ => by simp only [purL]
  | d0 :: r, h => by
    simp only [allB, Bool.and_eq_true] at h
    simp only [purL, tree_pur d0 h.1, tree_purL r h.2, Bool.and_self]
end
theorem purL_app : ∀ a b : List PyData, purL (a ++ b) = (purL a && purL b)
  | [], b => by simp [purL]
  | d :: r, b => by
    rw [List.cons_append]
    simp only [purL]
    rw [purL_app r b, Bool.and_assoc]
theorem noLs_app : ∀ a b : List PyData, noLs (a ++ b) = (noLs a && noLs b)
  | [], b => by simp [noLs]
  | d :: r, b => by
    rw [List.cons_append]
    simp only [noLs]
    rw [noLs_app r b, Bool.and_assoc]
theorem hasDict_app : ∀ a b : List PyData, PyData.hasDictAll (a ++ b) = (PyData.hasDictAll a || PyData.hasDictAll b)
  | [], b => by simp [PyData.hasDictAll]
  | d :: r, b => by
    rw [List.cons_append]
    simp only [PyData.hasDictAll]
    rw [hasDict_app r b, Bool.or_assoc]
/-- no list, or no dict -/
def one2 (d : PyData) : Prop := noL d = true ∨ d.hasDict = false
theorem one2_pur {d : PyData} (h : pur d = true) : one2 d := .inl (pur_no d h).1
/-- a thing that is drawn: away from the deck, small -/
def Gd (p : List Addr) (N M : Nat) (H : Hp) (v : V) : Prop := ∃ d, Da (Outs p H) v d ∧ smB d = true ∧ one2 d ∧ nodes d ≤ N ∧ d.depth ≤ M
theorem Gd.same {p : List Addr} {N M : Nat} {H H' : Hp} {v : V} (h : Gd p N M H v) (s : Same H H') : Gd p N M H' v := by
  obtain ⟨d, a, b⟩ := h
  exact ⟨d, a.same (outs_same s), b⟩
theorem Gd.but {p : List Addr} {D : Addr} (m : D ∈ p) {N M : Nat} {H H' : Hp} {v : V} (h : Gd p N M H v) (s : But D H H') : Gd p N M H' v := by
  obtain ⟨d, a, b⟩ := h
  exact ⟨d, a.same (outs_but m s), b⟩
theorem Gd.le {p : List Addr} {N M N' M' : Nat} {H : Hp} {v : V} (h : Gd p N M H v) (n : N ≤ N') (m : M ≤ M') : Gd p N' M' H v := by
  obtain ⟨d, a, b, c, e, f⟩ := h
  exact ⟨d, a, b, c, Nat.le_trans e n, Nat.le_trans f m⟩
/-- what stands while the things are laid -/
structure Bs (p : List Addr) (aT aR : Addr) (z z0 : Str) (vs : List V) (ds : List PyData) (lf : V) (N M : Nat) (H : Hp) : Prop where
  dk : Dk p H
  t : Rd H aT (.tup (.str z :: vs))
  r : Rd H aR (.tup vs)
  d : DaAll (Outs p H) vs ds
  l : Da (Outs p H) lf (.tuple [.str z0])
  pu : purL ds = true
  sm : smL ds = true
  zl : z.length ≤ 8 ∧ ∀ c ∈ z.cps.toList, c < 1114112
  z0l : z0.length ≤ 8 ∧ ∀ c ∈ z0.cps.toList, c < 1114112
  n : nodesL ds + 2 ≤ N
  n100 : N ≤ 300
  m : PyData.depthAll ds + 1 ≤ M
theorem Bs.same {p : List Addr} {aT aR : Addr} {z z0 : Str} {vs : List V} {ds : List PyData} {lf : V} {N M : Nat} {H H' : Hp} (b : Bs p aT aR z z0 vs ds lf N M H) (s : Same H H') : Bs p aT aR z z0 vs ds lf N M H' := by
  obtain ⟨h1, h2, h3, h4, h5, h6, h7, h8, h9, ha, hb, hc⟩ := b
  exact ⟨h1.same s, rd_same h2 s, rd_same h3 s, h4.same (outs_same s), h5.same (outs_same s), h6, h7, h8, h9, ha, hb, hc⟩
theorem sm_name {z : Str} (h : z.length ≤ 9 ∧ ∀ c ∈ z.cps.toList, c < 1114112) : smB (.str z) = true := by
  simp only [smB]
  rw [decide_eq_true (by omega), Bool.true_and, List.all_eq_true]
  exact fun c hc => decide_eq_true (h.2 c hc)
section
variable {p : List Addr} {aT aR : Addr} {z z0 : Str} {vs : List V} {ds : List PyData} {lf : V} {N M : Nat} {σ : L2.St}
/-- te makes a thing -/
def MkG (p : List Addr) (aT aR : Addr) (z z0 : Str) (vs : List V) (ds : List PyData) (lf : V) (N M : Nat) (te : TE) (σ : L2.St) : Prop := ∀ (H : Hp) (Q : VK), Bs p aT aR z z0 vs ds lf N M H → (∀ v H', Same H H' → Gd p (N + 9) (M + 2) H' v → Q v H') → te σ H Q
/-- te makes a small thing -/
def MkS (p : List Addr) (aT aR : Addr) (z z0 : Str) (vs : List V) (ds : List PyData) (lf : V) (N M : Nat) (te : TE) (σ : L2.St) : Prop := ∀ (H : Hp) (Q : VK), Bs p aT aR z z0 vs ds lf N M H → (∀ v H', Same H H' → Gd p 4 1 H' v → Q v H') → te σ H Q
def MkGL (p : List Addr) (aT aR : Addr) (z z0 : Str) (vs : List V) (ds : List PyData) (lf : V) (N M : Nat) (ta : TA) (σ : L2.St) (n : Nat) : Prop := ∀ (H : Hp) (Q : List V → Hp → Prop), Bs p aT aR z z0 vs ds lf N M H → (∀ xs H', Same H H' → (∀ x ∈ xs, Gd p (N + 9) (M + 2) H' x) → xs.length = n → Q xs H') → ta σ H Q
theorem mg_nil : MkGL p aT aR z z0 vs ds lf N M tNil σ 0 := fun H Q b q => q [] H (same_rfl H) (fun _ z => nomatch z) rfl
theorem mg_cons {te : TE} {ta : TA} {n : Nat} (h : MkG p aT aR z z0 vs ds lf N M te σ) (r : MkGL p aT aR z z0 vs ds lf N M ta σ n) : MkGL p aT aR z z0 vs ds lf N M (tCons te ta) σ (n + 1) :=
  fun H Q b q => h H _ b fun v H1 s1 g1 => r H1 _ (b.same s1) fun xs H2 s2 g2 l2 => q (v :: xs) H2 (s1.trans s2) (fun x hx => (List.mem_cons.mp hx).elim (fun e => e ▸ g1.same s2) (g2 x)) (by rw [List.length_cons, l2])
theorem same_out {H H' : Hp} {l : Addr} (s : Same H H') (n : H l = none) : Same H (Out l H') := fun b o e => by
  rw [out_ne (ne_of_none e n)]
  exact s b o e
theorem out_upd {H : Hp} {l : Addr} {o : HO} : Out l (upd H l o) = Out l H := by
  funext b
  unfold Out
  by_cases z : b = l
  · rw [if_pos z, if_pos z]
  · rw [if_neg z, if_neg z, upd_ne z]
theorem mg_lst {ta : TA} {n : Nat} (h : MkGL p aT aR z z0 vs ds lf N M ta σ n) (hn : n ≤ 100) {H : Hp} {Q : VK} (b : Bs p aT aR z z0 vs ds lf N M H) (q : ∀ l xs H', Same H H' → (∀ x ∈ xs, Gd p (N + 9) (M + 2) (Out l H') x) → xs.length = n → H l = none → H' l = some (.lst xs) → Q (.ref l) H') : tLst ta σ H Q :=
  h H _ b fun xs H1 s1 g1 l1 => ⟨fits_few (by omega), fun l nl => q l xs _ (s1.trans (same_upd nl)) (fun x hx => (g1 x hx).same (same_out (same_upd nl) nl)) l1 (s1.free nl) upd_same⟩
theorem mg_small {te : TE} (h : MkS p aT aR z z0 vs ds lf N M te σ) : MkG p aT aR z z0 vs ds lf N M te σ := fun H Q b q => h H Q b fun v H' s g => q v H' s (g.le (by omega) (by omega))
theorem ms_c {v : V} (h : ∀ H, Gd p 4 1 H v) : MkS p aT aR z z0 vs ds lf N M (tC v) σ := fun H Q _ q => q v H (same_rfl H) (h H)
/-- (x,) + rest -/
theorem mg_head {te : TE} (h : MkS p aT aR z z0 vs ds lf N M te σ) (hσ : σ[5]? = some (some (.ref aR))) : MkG p aT aR z z0 vs ds lf N M (tOp rCatX (tTup (tCons te tNil)) (tVar 5)) σ := by
  intro H Q b q
  refine h H _ b fun v H1 s1 g1 => ⟨by show 1 ≤ sizeLine; decide, fun t nt => ?_⟩
  have s2 : Same H1 (upd H1 t (.tup [v])) := same_upd nt
  have ht : Rd (upd H1 t (.tup [v])) t (.tup [v]) := .inl upd_same
  generalize upd H1 t (.tup [v]) = H2 at s2 ht ⊢
  have b2 := b.same (s1.trans s2)
  have ld := b2.d.length
  have ln := len_nodes ds
  have bn := b.n
  have b100 := b.n100
  refine ⟨_, hσ, t, aR, [v], vs, rfl, rfl, ht, b2.r, ?_, fun x H3 s3 hx => ?_⟩
  · show 1 + vs.length ≤ sizeLine
    rw [sizeLine_eq]
    omega
  obtain ⟨d, hd, hsm, h12, hn, hm⟩ := (g1.same s2).same s3
  have b3 := b2.same s3
  obtain ⟨pn, pd⟩ := purL_no ds b.pu
  refine q (.ref x) H3 ((s1.trans s2).trans s3) ⟨.tuple (d :: ds), .tup (rd_outs b3.dk hx) (.cons hd b3.d), ?_, ?_, ?_, ?_⟩
  · simp only [smB, smL, hsm, b.sm, Bool.and_self]
  · rcases h12 with e | e
    · exact .inl (by simp only [noL, noLs, e, pn, Bool.and_self])
    · exact .inr (by simp only [PyData.hasDict, PyData.hasDictAll, e, pd, Bool.or_self])
  · simp only [nodes, nodesL]
    omega
  · have bm := b.m
    simp only [PyData.depth, PyData.depthAll]
    omega
end
end My

namespace My
open PySem PySem.Spec PyProof.Rows L2
section
variable {p : List Addr} {aT aR : Addr} {z z0 : Str} {vs : List V} {ds : List PyData} {lf : V} {N M : Nat} {σ : L2.St}
/-- a small thing without lists and dicts -/
def Gp (p : List Addr) (H : Hp) (v : V) : Prop := ∃ d, Da (Outs p H) v d ∧ smB d = true ∧ pur d = true ∧ nodes d ≤ 3 ∧ d.depth ≤ 1
theorem Gp.same {p : List Addr} {H H' : Hp} {v : V} (h : Gp p H v) (s : Same H H') : Gp p H' v := by
  obtain ⟨d, a, b⟩ := h
  exact ⟨d, a.same (outs_same s), b⟩
def MkP (p : List Addr) (aT aR : Addr) (z z0 : Str) (vs : List V) (ds : List PyData) (lf : V) (N M : Nat) (te : TE) (σ : L2.St) : Prop := ∀ (H : Hp) (Q : VK), Bs p aT aR z z0 vs ds lf N M H → (∀ v H', Same H H' → Gp p H' v → Q v H') → te σ H Q
theorem mp_s {te : TE} (h : MkP p aT aR z z0 vs ds lf N M te σ) : MkS p aT aR z z0 vs ds lf N M te σ := fun H Q b q => h H Q b fun v H' s ⟨d, a, e, f, g, i⟩ => q v H' s ⟨d, a, e, one2_pur f, by omega, i⟩
theorem mp_g {te : TE} (h : MkP p aT aR z z0 vs ds lf N M te σ) : MkG p aT aR z z0 vs ds lf N M te σ := mg_small (mp_s h)
theorem mp_c {v : V} (h : ∀ H, Gp p H v) : MkP p aT aR z z0 vs ds lf N M (tC v) σ := fun H Q _ q => q v H (same_rfl H) (h H)
theorem gp_non {H : Hp} : Gp p H .non := ⟨.none, .non, by simp [smB], by simp [pur], by simp [nodes], by simp [PyData.depth]⟩
theorem gp_bl {H : Hp} {b : Bool} : Gp p H (.bl b) := ⟨.bool b, .bl b, by simp [smB], by simp [pur], by simp [nodes], by simp [PyData.depth]⟩
theorem gp_int {H : Hp} {i : Int} (h : i.natAbs ≤ 1000) : Gp p H (.int i) := ⟨.int i, .int i, by simp only [smB]; exact decide_eq_true h, by simp [pur], by simp [nodes], by simp [PyData.depth]⟩
theorem gp_str {H : Hp} {x : Str} (h : x.length ≤ 9 ∧ ∀ c ∈ x.cps.toList, c < 1114112) : Gp p H (.str x) := ⟨.str x, .str x, sm_name h, by simp [pur], by simp [nodes], by simp [PyData.depth]⟩
theorem mp_tag (h : σ[4]? = some (some (.str z))) : MkP p aT aR z z0 vs ds lf N M (tVar 4) σ := fun H Q b q => ⟨_, h, q _ H (same_rfl H) (gp_str ⟨by have := b.zl.1; omega, b.zl.2⟩)⟩
theorem mp_leaf (h : σ[6]? = some (some lf)) : MkP p aT aR z z0 vs ds lf N M (tVar 6) σ := fun H Q b q => ⟨_, h, q _ H (same_rfl H) ⟨.tuple [.str z0], b.l, by
  have e := sm_name (z := z0) ⟨by have := b.z0l.1; omega, b.z0l.2⟩
  simp only [smB, smL, Bool.and_true] at e ⊢
  exact e, by simp [pur, purL], by simp [nodes, nodesL], by simp [PyData.depth, PyData.depthAll]⟩⟩
theorem mp_plus (h : σ[4]? = some (some (.str z))) : MkP p aT aR z z0 vs ds lf N M (tOp (fun x y H Q => ∃ i j, x = .str i ∧ y = .str j ∧ i.length + j.length ≤ sizeLine ∧ Q (.str (i ++ j)) H) (tVar 4) (tC (.str "a"))) σ := by
  intro H Q b q
  have hl := b.zl.1
  have e : ("a" : Str).length = 1 := rfl
  refine ⟨_, h, z, "a", rfl, rfl, ?_, q _ H (same_rfl H) (gp_str ⟨?_, ?_⟩)⟩
  · rw [e]
    exact fits_few (by omega)
  · rw [strLen_append, e]
    omega
  · intro c hc
    have e2 : (z ++ ("a" : Str)).cps.toList = z.cps.toList ++ [97] := by
      show (z.cps ++ ("a" : Str).cps).toList = _
      rw [Array.toList_append]
      rfl
    rw [e2] at hc
    rcases List.mem_append.mp hc with hc | hc
    · exact b.zl.2 c hc
    · rw [List.mem_singleton.mp hc]
      decide
theorem ne_deck {H : Hp} {t : Addr} (b : Bs p aT aR z z0 vs ds lf N M H) (n : H t = none) : t ∉ p := by
  intro e
  obtain ⟨xs, g⟩ := b.dk t e
  rw [g] at n
  cases n
theorem mg_tup1 {te : TE} (h : MkP p aT aR z z0 vs ds lf N M te σ) : MkG p aT aR z z0 vs ds lf N M (tTup (tCons te tNil)) σ := by
  intro H Q b q
  refine h H _ b fun v H1 s1 g1 => ⟨by show 1 ≤ sizeLine; decide, fun t nt => ?_⟩
  have b1 := b.same s1
  have nt' := ne_deck b1 nt
  have s2 : Same H1 (upd H1 t (.tup [v])) := same_upd nt
  obtain ⟨d, hd, e1, e2, e3, e4⟩ := g1.same s2
  refine q (.ref t) _ (s1.trans s2) ⟨.tuple [d], .tup (.inl (by rw [outs_ne nt', upd_same])) (.cons hd .nil), ?_, one2_pur ?_, ?_, ?_⟩
  · simp only [smB, smL, e1, Bool.and_self]
  · simp only [pur, purL, e2, Bool.and_self]
  · simp only [nodes, nodesL]
    omega
  · simp only [PyData.depth, PyData.depthAll]
    omega
theorem mg_tup2 {te tf : TE} (h : MkP p aT aR z z0 vs ds lf N M te σ) (g : MkP p aT aR z z0 vs ds lf N M tf σ) : MkG p aT aR z z0 vs ds lf N M (tTup (tCons te (tCons tf tNil))) σ := by
  intro H Q b q
  refine h H _ b fun v H1 s1 g1 => g H1 _ (b.same s1) fun u H2 s2 g2 => ⟨by show 2 ≤ sizeLine; decide, fun t nt => ?_⟩
  have b2 := (b.same s1).same s2
  have nt' := ne_deck b2 nt
  have s3 : Same H2 (upd H2 t (.tup [v, u])) := same_upd nt
  obtain ⟨d, hd, e1, e2, e3, e4⟩ := (g1.same s2).same s3
  obtain ⟨d', hd', f1, f2, f3, f4⟩ := g2.same s3
  refine q (.ref t) _ ((s1.trans s2).trans s3) ⟨.tuple [d, d'], .tup (.inl (by rw [outs_ne nt', upd_same])) (.cons hd (.cons hd' .nil)), ?_, one2_pur ?_, ?_, ?_⟩
  · simp only [smB, smL, e1, f1, Bool.and_self]
  · simp only [pur, purL, e2, f2, Bool.and_self]
  · simp only [nodes, nodesL]
    omega
  · simp only [PyData.depth, PyData.depthAll]
    omega
theorem mg_tup0 : MkG p aT aR z z0 vs ds lf N M (tTup tNil) σ := by
  intro H Q b q
  refine ⟨by show 0 ≤ sizeLine; decide, fun t nt => ?_⟩
  have nt' := ne_deck b nt
  refine q (.ref t) _ (same_upd nt) ⟨.tuple [], .tup (.inl (by rw [outs_ne nt', upd_same])) .nil, by simp [smB, smL], one2_pur (by simp [pur, purL]), ?_, ?_⟩
  · simp only [nodes, nodesL]
    omega
  · simp only [PyData.depth, PyData.depthAll]
    omega
/-- (tag,) as a small thing -/
theorem ms_tagT (h : σ[4]? = some (some (.str z))) : MkS p aT aR z z0 vs ds lf N M (tTup (tCons (tVar 4) tNil)) σ := by
  intro H Q b q
  refine ⟨_, h, by show 1 ≤ sizeLine; decide, fun t nt => ?_⟩
  have nt' := ne_deck b nt
  have e := sm_name (z := z) ⟨by have := b.zl.1; omega, b.zl.2⟩
  refine q (.ref t) _ (same_upd nt) ⟨.tuple [.str z], .tup (.inl (by rw [outs_ne nt', upd_same])) (.cons (.str z) .nil), ?_, one2_pur (by simp [pur, purL]), ?_, ?_⟩
  · simp only [smB, smL, Bool.and_true] at e ⊢
    exact e
  · simp only [nodes, nodesL]
    omega
  · simp only [PyData.depth, PyData.depthAll]
    omega
theorem ms_tagL (h : σ[4]? = some (some (.str z))) : MkS p aT aR z z0 vs ds lf N M (tLst (tCons (tVar 4) tNil)) σ := by
  intro H Q b q
  refine ⟨_, h, by show 1 ≤ sizeLine; decide, fun t nt => ?_⟩
  have nt' := ne_deck b nt
  have e := sm_name (z := z) ⟨by have := b.zl.1; omega, b.zl.2⟩
  refine q (.ref t) _ (same_upd nt) ⟨.list [.str z], .lst (by rw [outs_ne nt', upd_same]) (.cons (.str z) .nil), ?_, .inr (by simp [PyData.hasDict, PyData.hasDictAll]), ?_, ?_⟩
  · simp only [smB, smL, Bool.and_true] at e ⊢
    exact e
  · simp only [nodes, nodesL]
    omega
  · simp only [PyData.depth, PyData.depthAll]
    omega
theorem ms_dict : MkS p aT aR z z0 vs ds lf N M tDNewK σ := by
  intro H Q b q t nt
  have nt' := ne_deck b nt
  refine q (.ref t) _ (same_upd nt) ⟨.dict [], .dct (by rw [outs_ne nt', upd_same]), by simp [smB], .inl (by simp [noL]), by simp [nodes], ?_⟩
  simp [PyData.depth, PyData.depthKv]
/-- (rest, tag) -/
theorem mg_restTag (h5 : σ[5]? = some (some (.ref aR))) (h4 : σ[4]? = some (some (.str z))) : MkG p aT aR z z0 vs ds lf N M (tTup (tCons (tVar 5) (tCons (tVar 4) tNil))) σ := by
  intro H Q b q
  refine ⟨_, h5, _, h4, by show 2 ≤ sizeLine; decide, fun t nt => ?_⟩
  have nt' := ne_deck b nt
  have e := sm_name (z := z) ⟨by have := b.zl.1; omega, b.zl.2⟩
  have bn := b.n
  have bm := b.m
  have s2 : Same H (upd H t (.tup [.ref aR, .str z])) := same_upd nt
  have b2 := b.same s2
  refine q (.ref t) _ s2 ⟨.tuple [.tuple ds, .str z], .tup (.inl (by rw [outs_ne nt', upd_same])) (.cons (.tup (rd_outs b2.dk b2.r) b2.d) (.cons (.str z) .nil)), ?_, one2_pur ?_, ?_, ?_⟩
  · simp only [smB, smL, Bool.and_true] at e ⊢
    rw [b.sm, Bool.true_and]
    exact e
  · simp only [pur, purL, b.pu, Bool.and_self]
  · simp only [nodes, nodesL]
    omega
  · simp only [PyData.depth, PyData.depthAll]
    omega
/-- [tree] -/
theorem mg_treeL (h : σ[2]? = some (some (.ref aT))) : MkG p aT aR z z0 vs ds lf N M (tLst (tCons (tVar 2) tNil)) σ := by
  intro H Q b q
  refine ⟨_, h, by show 1 ≤ sizeLine; decide, fun t nt => ?_⟩
  have nt' := ne_deck b nt
  have e := sm_name (z := z) ⟨by have := b.zl.1; omega, b.zl.2⟩
  have bn := b.n
  have bm := b.m
  have s2 : Same H (upd H t (.lst [.ref aT])) := same_upd nt
  have b2 := b.same s2
  obtain ⟨_, hd⟩ := purL_no ds b.pu
  refine q (.ref t) _ s2 ⟨.list [.tuple (.str z :: ds)], .lst (by rw [outs_ne nt', upd_same]) (.cons (.tup (rd_outs b2.dk b2.t) (.cons (.str z) b2.d)) .nil), ?_, .inr ?_, ?_, ?_⟩
  · simp only [smB, smL, Bool.and_true] at e ⊢
    rw [b.sm, Bool.and_true]
    exact e
  · simp only [PyData.hasDict, PyData.hasDictAll, hd, Bool.or_self]
  · simp only [nodes, nodesL]
    omega
  · simp only [PyData.depth, PyData.depthAll]
    omega
end
end My

namespace My
open PySem PySem.Spec PyProof.Rows L2
theorem cut_pre (xs : List V) (n : Nat) (h : n ≤ xs.length) : cutV xs none (some (n : Int)) = xs.take n := by
  unfold cutV
  rw [HT.sIx_none, HT.sIx_nat, Nat.sub_zero, Nat.min_eq_left h, List.drop_zero]
theorem cut_post (xs : List V) (n : Nat) (h : n ≤ xs.length) : cutV xs (some (n : Int)) none = xs.drop n := by
  unfold cutV
  rw [HT.sIx_none, HT.sIx_nat, Nat.min_eq_left h, List.take_of_length_le (by rw [List.length_drop]; exact Nat.le_refl _)]
theorem cut_one (xs : List V) : cutV xs (some 1) none = xs.drop 1 := by
  cases xs with
  | nil => rfl
  | cons a r => exact cut_tail _ (Nat.succ_pos _)
theorem nodes_part : ∀ {ds : List PyData} {i : Nat} {d : PyData}, ds[i]? = some d → nodesL ds = nodesL (ds.take i) + nodes d + nodesL (ds.drop (i + 1))
  | [], _, _, e => by cases e
  | d0 :: r, 0, _, e => by
    cases e
    simp [nodesL]
  | d0 :: r, i + 1, _, e => by
    have h := nodes_part (ds := r) (i := i) e
    rw [List.take_succ_cons, List.drop_succ_cons]
    simp only [nodesL]
    omega
theorem smL_take {n : Nat} : ∀ {ds : List PyData}, smL ds = true → smL (ds.take n) = true := by
  induction n with
  | zero => intro ds h; simp [smL]
  | succ n ih =>
    intro ds h
    cases ds with
    | nil => simpa using h
    | cons d r =>
      simp only [smL, Bool.and_eq_true] at h
      rw [List.take_succ_cons]
      simp only [smL, h.1, ih h.2, Bool.and_self]
theorem purL_take {n : Nat} : ∀ {ds : List PyData}, purL ds = true → purL (ds.take n) = true := by
  induction n with
  | zero => intro ds h; simp [purL]
  | succ n ih =>
    intro ds h
    cases ds with
    | nil => simpa using h
    | cons d r =>
      simp only [purL, Bool.and_eq_true] at h
      rw [List.take_succ_cons]
      simp only [purL, h.1, ih h.2, Bool.and_self]
theorem purL_drop {n : Nat} : ∀ {ds : List PyData}, purL ds = true → purL (ds.drop n) = true := by
  induction n with
  | zero => intro ds h; simpa using h
  | succ n ih =>
    intro ds h
    cases ds with
    | nil => simpa using h
    | cons d r =>
      simp only [purL, Bool.and_eq_true] at h
      rw [List.drop_succ_cons]
      exact ih h.2
theorem depth_take (ds : List PyData) (n : Nat) : PyData.depthAll (ds.take n) ≤ PyData.depthAll ds := by
  have h := depthAll_app (ds.take n) (ds.drop n)
  rw [List.take_append_drop] at h
  omega
theorem depth_drop (ds : List PyData) (n : Nat) : PyData.depthAll (ds.drop n) ≤ PyData.depthAll ds := by
  have h := depthAll_app (ds.take n) (ds.drop n)
  rw [List.take_append_drop] at h
  omega
theorem allB_at {ks : List (Str × Int)} : ∀ {ds : List PyData} {i : Nat} {d : PyData}, allB ks ds = true → ds[i]? = some d → treeB ks d = true
  | [], _, _, _, e => by cases e
  | d0 :: r, 0, _, h, e => by
    cases e
    simp only [allB, Bool.and_eq_true] at h
    exact h.1
  | d0 :: r, i + 1, _, h, e => by
    simp only [allB, Bool.and_eq_true] at h
    exact allB_at h.2 (i := i) e
theorem tree_depth {ks : List (Str × Int)} {d : PyData} (h : treeB ks d = true) : 1 ≤ d.depth := by
  cases d with
  | tuple ds =>
    simp only [PyData.depth]
    omega
  | _ => simp [treeB] at h
structure spBent (n : Nat) (vs : List V) (H : Hp) (Q : VK) (E : XK) : Prop where
  ex : ∃ (Ls : List Addr) (p c a : Addr) (ks : List (Str × Int)) (rs : List Addr) (x : V) (d : PyData), vs = [.ref p, .ref a, x] ∧ p ∈ Ls ∧ Dk Ls H ∧ Pot H p c ∧ Rd H a (.tup (rs.map V.ref)) ∧ Prs H rs ks ∧ Rk ks ∧ Da (Outs Ls H) x d ∧ treeB ks d = true ∧ smB d = true ∧ nodes d ≤ 300 ∧ d.depth ≤ n + 1 ∧
    ∀ v H', But p H H' → Pot H' p c → Gd Ls (nodes d + 9) (d.depth + 2) H' v → Q v H'
def spBackB : Nat → Sp
  | 0 => fun _ _ _ _ => False
  | n + 1 => fun vs H Q E => spBent n vs H Q E
structure TxtB (mg : Str → Option Value) : Prop where
  n_len : mg "len" = none
  n_list : mg "list" = none
abbrev s_law_bent : Stmt := topS 17
theorem sc_law_bent : FnScope ["deck", "kind", "tree", "place", "tag", "rest", "leaf", "some", "pair"] ["deck", "kind", "tree"] (defScope s_law_bent) := ⟨rfl, rfl, rfl, by decide +kernel, rfl, by decide +kernel, by decide +kernel⟩
section
variable {P : Program} {w : World} {K : PySem.W.Frag} {mg : Str → Option Value} {base : Heap}
theorem step_bent {f fb fp : Addr} {fd fdb fdp : FuncData} {n : Nat} (F__law_bent : Fun K "_law_bent" "_law_bent" s_law_bent f fd) (T : TxtB mg) (F__law_below : Fun K "_law_below" "_law_below" s_law_below fb fdb) (b__law_below : Binds K fdb ["deck", "bound"] []) (g__law_below : mg "_law_below" = some (.ref fb)) (G__law_below : FnOk P w K mg base CX0 2 fb fdb ["deck", "bound"] spBelow)
    (F__law_pick : Fun K "_law_pick" "_law_pick" s_law_pick fp fdp) (b__law_pick : Binds K fdp ["deck", "some"] []) (g__law_pick : mg "_law_pick" = some (.ref fp)) (G__law_pick : FnOk P w K mg base CX0 3 fp fdp ["deck", "some"] (spPick K))
    (b__law_bent : Binds K fd ["deck", "kind", "tree"] []) (g__law_bent : mg "_law_bent" = some (.ref f)) (G__law_bent : FnOk P w K mg base CX0 (n + 3) f fd ["deck", "kind", "tree"] (spBackB n)) : FnOk P w K mg base CX0 (n + 4) f fd ["deck", "kind", "tree"] (spBent n) := by
  refine F__law_bent.ok sc_law_bent (fun vs H Q E h => ?_) (fun cdv A outer s H vs Q E hr h => ?_)
  · obtain ⟨Ls, p, c, a, ks, rs, x, d, rfl, _⟩ := h
    rfl
  · obtain ⟨Ls, p, c, a, ks, rs, x, d, rfl, mp, dk, hP, ea, pr, hK, hx, hT, hS, hN, hD, q⟩ := h
    refine ⟨_, (C8.pss_cut (ps_if (PW.pt (pw_and (pt_cmpR op_gt (pe_callB call_len_seq (by rfl) T.n_len (by decide +kernel) (pa_cons (pv 2) pa_nil)) pe_int (nomark _)) (pw_and1 (pt_cmpR op_gt (pe_call G__law_below (hr.mono (by omega)) (by rfl) g__law_below F__law_below.kp b__law_below .nil pass0 (pa_cons (pv 0) (pa_cons pe_int pa_nil))) pe_int (nomark _)))))
   (pss_cons (ps_set (i := 3) sc_law_bent.nd rfl (.inl rfl) (pe_op op_add pe_int (pe_call G__law_below (hr.mono (by omega)) (by rfl) g__law_below F__law_below.kp b__law_below .nil pass0 (pa_cons (pv 0) (pa_cons (pe_op op_sub (pe_callB call_len_seq (by rfl) T.n_len (by decide +kernel) (pa_cons (pv 2) pa_nil)) pe_int) pa_nil)))))
  (pss_one (ps_ret (pe_op op_catX (pe_op op_catX (pe_slice sl_X (pv 2) po_none (po_some (pv 3))) (pe_tup (pa_cons (pe_call G__law_bent (hr.mono (by omega)) (by rfl) g__law_bent F__law_bent.kp b__law_bent .nil pass0 (pa_cons (pv 0) (pa_cons (pv 1) (pa_cons (pe_ix ix_tup (pv 2) (pv 3) (fun _ _ => rfl)) pa_nil)))) pa_nil))) (pe_slice sl_X (pv 2) (po_some (pe_op op_add (pv 3) pe_int)) po_none)))))
   pss_nil)
  (pss_cons (ps_par (i := 4) (j := 5) (by rfl) sc_law_bent.nd rfl rfl (by decide) rfl rfl (pa_cons (pe_ix ix_tup (pv 2) pe_int (fun _ _ => rfl)) (pa_cons (pe_slice sl_X (pv 2) (po_some pe_int) po_none) pa_nil)) (by rfl))
  (pss_cons (ps_set (i := 6) sc_law_bent.nd rfl (.inl rfl) (pe_ix ix_list (pe_lc (own := [("pair", 8)]) (g := gName 8) rfl sc_law_bent.nd (pi_tup (pv 1)) (blkOk_by (own := [("pair", 8)]) (N := ["deck", "kind", "tree", "place", "tag", "rest", "leaf", "some", "pair"]) (sc := defScope s_law_bent) (by decide +kernel)) (fun _ _ _ _ _ => (pg_name (i := 8) sc_law_bent.nd rfl (.inl rfl))) (fun _ _ _ _ _ => (pts_one (pt_cmpR op_eq (pe_ix (r := rIxT K) ix_tup (pv 8) pe_int (fun _ _ => rfl)) pe_int (nomark _)))) (fun _ _ _ _ _ => (pe_tup (pa_cons (pe_ix (r := rIxT K) ix_tup (pv 8) pe_int (fun _ _ => rfl)) pa_nil)))) pe_int (fun _ _ => rfl)))
  (pss_cons (ps_set (i := 7) sc_law_bent.nd rfl (.inl rfl) (pe_cut (pe_lst (pa_cons (pe_op op_catX (pe_tup (pa_cons (pe_op op_add_str (pv 4) pe_str) pa_nil)) (pv 5)) (pa_cons (pe_op op_catX (pe_tup (pa_cons (pv 4) pa_nil)) (pe_slice sl_X (pv 5) (po_some pe_int) po_none)) (pa_cons (pe_op op_catX (pv 2) (pe_tup (pa_cons (pv 6) pa_nil))) (pa_cons (pe_op op_cat (pe_lst (pa_cons (pv 4) pa_nil)) (pe_callTy call_list_of (by rfl) T.n_list (by decide +kernel) (pa_cons (pv 5) pa_nil))) (pa_cons (pv 4) (pa_cons (pe_tup pa_nil) (pa_cons pe_non (pa_cons pe_bl (pa_cons pe_int pa_nil))))))))))))
  (pss_cons (ps_expr (pe_bm PySem.F.plainAttrs_list PySem.F.slot_list_append PySem.F.type_list_append mt_append (pv 7) (pa_cons (pe_tup (pa_cons (pv 4) (pa_cons (pv 6) pa_nil))) pa_nil)))
  (pss_cons (ps_set (i := 7) sc_law_bent.nd rfl (.inl rfl) (pe_op op_cat (pv 7) (pe_cut (pe_lst (pa_cons (pe_tup (pa_cons (pv 5) (pa_cons (pv 4) pa_nil))) (pa_cons (pe_tup (pa_cons (pv 4) (pa_cons (pv 4) pa_nil))) (pa_cons (pe_tup (pa_cons (pv 4) (pa_cons pe_non pa_nil))) (pa_cons (pe_op op_catX (pe_tup (pa_cons (pe_tup (pa_cons (pv 4) pa_nil)) pa_nil)) (pv 5)) (pa_cons (pe_op op_catX (pe_tup (pa_cons pe_int pa_nil)) (pv 5)) (pa_cons (pe_tup (pa_cons pe_non pa_nil)) (pa_cons (pe_tup (pa_cons pe_str pa_nil)) (pa_cons (pe_lst (pa_cons (pv 2) pa_nil)) (pa_cons pe_dnewK pa_nil)))))))))))))
  (pss_cons (ps_set (i := 7) sc_law_bent.nd rfl (.inl rfl) (pe_op op_cat (pv 7) (pe_cut (pe_lst (pa_cons (pe_op op_catX (pe_tup (pa_cons (pe_lst (pa_cons (pv 4) pa_nil)) pa_nil)) (pv 5)) (pa_cons (pe_op op_catX (pe_tup (pa_cons pe_dnewK pa_nil)) (pv 5)) pa_nil))))))
  (pss_one (ps_ret (pe_call G__law_pick (hr.mono (by omega)) (by rfl) g__law_pick F__law_pick.kp b__law_pick .nil pass0 (pa_cons (pv 0) (pa_cons (pe_op op_cat (pv 7) (pe_lst (pa_cons (pe_op op_catX (pe_tup (pa_cons (pe_call G__law_pick (hr.mono (by omega)) (by rfl) g__law_pick F__law_pick.kp b__law_pick .nil pass0 (pa_cons (pv 0) (pa_cons (pe_lc (own := [("pair", 8)]) (g := gName 8) rfl sc_law_bent.nd (pi_tup (pv 1)) (blkOk_by (own := [("pair", 8)]) (N := ["deck", "kind", "tree", "place", "tag", "rest", "leaf", "some", "pair"]) (sc := defScope s_law_bent) (by decide +kernel)) (fun _ _ _ _ _ => (pg_name (i := 8) sc_law_bent.nd rfl (.inl rfl))) (fun _ _ _ _ _ => pts_nil) (fun _ _ _ _ _ => (pe_ix (r := rIxT K) ix_tup (pv 8) pe_int (fun _ _ => rfl)))) pa_nil))) pa_nil)) (pv 5)) pa_nil))) pa_nil)))))))))))), ?_⟩
    clear G__law_bent G__law_pick G__law_below
    obtain ⟨aT, z, vs, ds, rfl, rfl, eT, hvs, mem, hall⟩ := treeB_tup hT hx
    have eTH : Rd H aT (.tup (.str z :: vs)) := rd_same eT outs_sub
    have lds := hvs.length
    have lr := pr.length
    have z8 := hK.few
    have nds := len_nodes ds
    simp only [nodes, nodesL] at hN q
    simp only [smB, smL, Bool.and_eq_true] at hS
    simp only [PyData.depth, PyData.depthAll] at hD q
    refine ⟨fun σ H2 => But p H H2 ∧ Pot H2 p c ∧ σ = [some (.ref p), some (.ref a), some (.ref aT), none, none, none, none, none, none], ?_, ?_⟩
    · refine ⟨_, rfl, aT, _, rfl, .inr (.inl eTH), _, _, rfl, rfl, _, rfl, ?_⟩
      by_cases h1 : 1 < ((V.str z :: vs).length : Int)
      · rw [decide_eq_true h1]
        refine iteT ?_
        refine ⟨_, rfl, p, c, _, rfl, hP, by decide, by decide, fun t H2 t0 t1 hP2 b2 => ?_⟩
        refine ⟨_, _, rfl, rfl, _, rfl, ?_⟩
        by_cases h2 : 0 < t
        · have e2 : decide ((0 : Int) < t) = true := decide_eq_true h2
          rw [e2]
          refine iteT ?_
          have k2 : TK H H2 := tk_but b2 hP
          have eT2 := k2 _ _ eTH
          -- place
          refine ⟨_, rfl, _, rfl, aT, _, rfl, .inr (.inl eT2), _, _, rfl, rfl, p, c, _, rfl, hP2, by omega, ?_, fun u H3 u0 u1 hP3 b3 => ⟨_, _, rfl, rfl, ?_⟩⟩
          · rw [List.length_cons]
            omega
          obtain ⟨un, rfl⟩ : ∃ un : Nat, u = (un : Int) := ⟨u.toNat, by omega⟩
          rw [List.length_cons] at u1 h1
          have hun : un < ds.length := by omega
          have k3 : TK H H3 := k2.trans (tk_but b3 hP2)
          have bH3 := b2.trans b3
          have eT3 := k3 _ _ eTH
          have e1u : (1 : Int) + (un : Int) = ((un + 1 : Nat) : Int) := by omega
          -- tree[:place]
          refine ⟨_, rfl, _, rfl, _, rfl, aT, _, rfl, eT3, fun r1 H4 s4 hr1 => ?_⟩
          rw [e1u, cut_pre _ (un + 1) (by rw [List.length_cons]; omega)] at hr1
          -- (_law_bent(deck, kind, tree[place]),)
          have eV : (V.str z :: vs)[un + 1]? = some vs[un] := by
            rw [List.getElem?_cons_succ]
            exact List.getElem?_eq_getElem (by omega)
          obtain ⟨d1, hd1, hv1⟩ := hvs.get (List.getElem?_eq_getElem (show un < vs.length by omega))
          have hT1 : treeB ks d1 = true := allB_at hall hd1
          have hS1 : smB d1 = true := smL_at hS.2 hd1
          have hN1 := nodes_at hd1
          have hD1 := depth_at (n := PyData.depthAll ds) (Nat.le_refl _) hd1
          have dp1 := tree_depth hT1
          refine ⟨_, rfl, _, rfl, _, rfl, _, rfl, aT, _, _, vs[un], rfl, rfl, .inl (rd_same eT3 s4), (by rw [e1u]; exact atI_nat eV), ?_⟩
          cases n with
          | zero => omega
          | succ m =>
            have bH4 := bH3.same s4
            have k4 : TK H H4 := k3.trans (tk_same s4)
            have hv4 : Da (Outs Ls H4) vs[un] d1 := (hv1.same (outs_but mp bH4))
            refine ⟨Ls, p, c, a, ks, rs, vs[un], d1, rfl, mp, dk.but bH4 (hP3.same s4), hP3.same s4, k4 _ _ ea, pr.keep k4, hK, hv4, hT1, hS1, by omega, by omega, fun v H5 b5 hP5 hG => ?_⟩
            refine ⟨by show 1 ≤ sizeLine; decide, fun t2 n2 => ?_⟩
            have s6 : Same H5 (upd H5 t2 (.tup [v])) := same_upd n2
            have h6 : Rd (upd H5 t2 (.tup [v])) t2 (.tup [v]) := .inl upd_same
            generalize upd H5 t2 (.tup [v]) = H6 at s6 h6 ⊢
            have k46 : TK H4 H6 := (tk_but b5 (hP3.same s4)).trans (tk_same s6)
            refine ⟨r1, t2, _, _, rfl, rfl, k46 _ _ hr1, h6, ?_, fun x7 H7 s7 hx7 => ?_⟩
            · rw [List.length_take, List.length_cons]
              exact Nat.le_of_lt (small1000 (by rw [List.length_singleton]; omega))
            -- tree[place + 1:]
            have k7 : TK H H7 := k4.trans (k46.trans (tk_same s7))
            refine ⟨_, rfl, _, rfl, _, _, rfl, rfl, _, rfl, aT, _, rfl, k7 _ _ eTH, fun r8 H8 s8 hr8 => ?_⟩
            have e2u : ((1 : Int) + (un : Int) + 1) = ((un + 2 : Nat) : Int) := by omega
            rw [e2u, cut_post _ (un + 2) (by rw [List.length_cons]; omega)] at hr8
            refine ⟨x7, r8, _, _, rfl, rfl, rd_same hx7 s8, hr8, ?_, fun x9 H9 s9 hx9 => ?_⟩
            · rw [List.length_append, List.length_take, List.length_drop, List.length_cons]
              exact Nat.le_of_lt (small1000 (by rw [List.length_singleton]; omega))
            have bH9 : But p H H9 := (((((bH4.trans b5).same s6).same s7).same s8).same s9)
            have s59 : Same H5 H9 := ((s6.trans s7).trans s8).trans s9
            have hP9 := hP5.same s59
            obtain ⟨d', hd', hsm', h12', hn', hm'⟩ := hG.same s59
            have dk9 := dk.but bH9 hP9
            have hvs9 : DaAll (Outs Ls H9) (V.str z :: vs) (.str z :: ds) := .cons (.str _) (hvs.same (outs_but mp bH9))
            have hpt := nodes_part hd1
            have et := depth_take ds un
            have ed := depth_drop ds (un + 1)
            have pu := tree_purL ds hall
            refine q (.ref x9) H9 bH9 hP9 ⟨.tuple ((PyData.str z :: ds).take (un + 1) ++ [d'] ++ (PyData.str z :: ds).drop (un + 2)), .tup (rd_outs dk9 hx9) (((hvs9.take (un + 1)).app (.cons hd' .nil)).app (hvs9.drop (un + 2))), ?_, ?_, ?_, ?_⟩
            · simp only [smB]
              rw [smL_app, smL_app, List.take_succ_cons, List.drop_succ_cons]
              simp only [smL, smL_take hS.2, smL_drop hS.2, hsm', Bool.and_true]
              simpa only [smB, Bool.and_eq_true] using hS.1
            · rw [List.take_succ_cons, List.drop_succ_cons]
              obtain ⟨t1', t2'⟩ := purL_no _ (purL_take (n := un) pu)
              obtain ⟨d1', d2'⟩ := purL_no _ (purL_drop (n := un + 1) pu)
              rcases h12' with e | e
              · refine .inl ?_
                simp only [noL]
                rw [noLs_app, noLs_app]
                simp only [noLs, noL, e, t1', d1', Bool.and_self, Bool.and_true, Bool.true_and]
              · refine .inr ?_
                simp only [PyData.hasDict]
                rw [hasDict_app, hasDict_app]
                simp only [PyData.hasDictAll, PyData.hasDict, e, t2', d2', Bool.or_self, Bool.or_false, Bool.false_or]
            · rw [List.take_succ_cons, List.drop_succ_cons]
              simp only [nodes]
              rw [nodesL_app, nodesL_app]
              simp only [nodesL, nodes]
              omega
            · rw [List.take_succ_cons, List.drop_succ_cons]
              simp only [PyData.depth]
              rw [depthAll_app, depthAll_app]
              simp only [PyData.depthAll, PyData.depth]
              omega
        · have e2 : decide ((0 : Int) < t) = false := decide_eq_false h2
          rw [e2]
          refine iteF ?_
          exact ⟨b2, hP2, rfl⟩
      · rw [decide_eq_false h1]
        refine iteF ?_
        refine iteF ?_
        exact ⟨hP.but0, hP, rfl⟩
    · rintro σ H2 ⟨bH2, hP2, rfl⟩
      have k2 : TK H H2 := tk_but bH2 hP
      have eT2 := k2 _ _ eTH
      have zT : z.length ≤ 8 ∧ ∀ c ∈ z.cps.toList, c < 1114112 := tags_ok _ (hK.all _ mem).1
      -- tag, rest
      refine ⟨_, rfl, aT, _, _, .str z, rfl, rfl, .inl eT2, atI_nat (j := 0) rfl, _, rfl, _, rfl, aT, _, rfl, eT2, fun aR H3 s3 hR => ⟨_, _, rfl, ?_⟩⟩
      rw [cut_one] at hR
      have hR : Rd H3 aR (.tup vs) := hR
      have k3 : TK H H3 := k2.trans (tk_same s3)
      have ea3 := k3 _ _ ea
      have pr3 := pr.keep k3
      have hP3 := hP2.same s3
      have bH3 := bH2.same s3
      -- leaf
      refine ⟨_, rfl, a, rfl, ⟨_, .inl ea3⟩, fun D nD => ?_⟩
      refine lc_it (walk_tup (xs := rs.map V.ref)) (fun i H4 => Same H3 H4 ∧ ∃ ys, H4 D = some (.lst ys) ∧ ys.length ≤ i ∧ (∀ v ∈ ys, LeafAt ks H4 v) ∧ ((∃ q ∈ ks.take i, q.2 = 0) → ys ≠ [])) ⟨same_upd nD, [], upd_same, Nat.zero_le _, fun _ z => (nomatch z), ?_⟩ (fun i H4 _ h => .inl (rd_same ea3 h.1)) ?_ ?_
      · rintro ⟨q0, hq0, _⟩
        simp at hq0
      · rintro i y H4 H5 hi ⟨s4, ys, hD, ly, all, ne0⟩ ⟨rfl, ex⟩
        obtain ⟨r, pp, rfl, hk, hr2⟩ := pr3.item ex
        have hr3 := rd_same hr2 s4
        have zi : i < ks.length := (List.getElem?_eq_some_iff.mp hk).1
        have tk : ks.take (i + 1) = ks.take i ++ [pp] := by
          rw [List.take_add_one, hk]
          rfl
        refine ⟨rfl, ?_⟩
        refine ⟨_, rfl, r, _, _, .int pp.2, rfl, rfl, .inl hr3, atI_nat (j := 1) rfl, rfl, _, eq_int _ _, ?_⟩
        by_cases h0 : pp.2 = 0
        · rw [decide_eq_true h0]
          refine iteT ?_
          refine ⟨_, rfl, r, _, _, .str pp.1, rfl, rfl, .inl hr3, atI_nat (j := 0) rfl, by show 1 ≤ sizeLine; decide, fun t nt => ?_⟩
          have st : Same H5 (upd H5 t (.tup [.str pp.1])) := same_upd nt
          have ht : (upd H5 t (.tup [.str pp.1])) t = some (.tup [.str pp.1]) := upd_same
          generalize upd H5 t (.tup [.str pp.1]) = H6 at st ht ⊢
          have hD4 := st _ _ hD
          have kD : TK H6 (upd H6 D (.lst (ys ++ [.ref t]))) := tk_upd hD4
          refine ⟨ys, hD4, small1000 (by omega), same_at (s4.trans st) nD, ys ++ [.ref t], upd_same, ?_, ?_, ?_⟩
          · rw [List.length_append, List.length_singleton]
            omega
          · intro v hv
            rcases List.mem_append.mp hv with hv | hv
            · exact (all v hv).keep ((tk_same st).trans kD)
            · rw [List.mem_singleton.mp hv]
              refine ⟨pp.1, .tup (kD _ _ (.inl ht)) (.cons (.str _) .nil), ?_⟩
              rw [← h0]
              exact List.mem_of_getElem? hk
          · intro _ z
            exact absurd z (by simp)
        · rw [decide_eq_false h0]
          refine iteF ?_
          refine ⟨s4, ys, hD, by omega, all, ?_⟩
          rw [tk]
          rintro ⟨q0, hq0, e0⟩
          rcases List.mem_append.mp hq0 with hq0 | hq0
          · exact ne0 ⟨q0, hq0, e0⟩
          · rw [List.mem_singleton.mp hq0] at e0
            exact absurd e0 h0
      · rintro H4 ⟨s4, ys, hD, ly, all, ne0⟩
        rw [List.length_map, lr, List.take_length] at ne0
        obtain ⟨lf, ys', rfl⟩ : ∃ a l, ys = a :: l := List.exists_cons_of_ne_nil (ne0 hK.leaf)
        refine ⟨D, _, _, lf, rfl, rfl, .inl (.inl hD), atI_nat (j := 0) rfl, ?_⟩
        obtain ⟨z0, hz0, mz0⟩ := all lf List.mem_cons_self
        have z0T : z0.length ≤ 8 ∧ ∀ c ∈ z0.cps.toList, c < 1114112 := tags_ok _ (hK.all _ mz0).1
        have hP4 := hP3.same s4
        have bH4 := bH3.same s4
        have dk4 := dk.but bH4 hP4
        have kO : TK H4 (Outs Ls H4) := fun _ _ e => rd_outs dk4 e
        have b4 : Bs Ls aT aR z z0 vs ds lf (nodesL ds + 2) (PyData.depthAll ds + 1) H4 := ⟨dk4, (k3.trans (tk_same s4)) _ _ eTH, rd_same hR s4, hvs.same (outs_but mp bH4), Da.keep kO _ _ (leaf_tree mz0) hz0, tree_purL ds hall, hS.2, zT, z0T, Nat.le_refl _, by omega, Nat.le_refl _⟩
        -- some
        refine ⟨fun v H5 => ∃ l xs, v = .ref l ∧ Same H4 H5 ∧ (∀ x ∈ xs, Gd Ls (nodesL ds + 2 + 9) (PyData.depthAll ds + 1 + 2) (Out l H5) x) ∧ xs.length = 9 ∧ H4 l = none ∧ H5 l = some (.lst xs), mg_lst (n := 9) (mg_cons ?_ (mg_cons ?_ (mg_cons ?_ (mg_cons ?_ (mg_cons ?_ (mg_cons ?_ (mg_cons ?_ (mg_cons ?_ (mg_cons ?_ mg_nil))))))))) (by decide) b4 fun l xs H5 s g ln n e => ⟨l, xs, rfl, s, g, ln, n, e⟩, ?_⟩
        · exact mg_head (mp_s (mp_plus rfl)) rfl
        · intro G Q' b q'
          refine ⟨_, rfl, by show 1 ≤ sizeLine; decide, fun t nt => ?_⟩
          have s1 : Same G (upd G t (.tup [.str z])) := same_upd nt
          have h1 : Rd (upd G t (.tup [.str z])) t (.tup [.str z]) := .inl upd_same
          generalize upd G t (.tup [.str z]) = G1 at s1 h1 ⊢
          refine ⟨_, rfl, _, rfl, aR, vs, rfl, rd_same b.r s1, fun r G2 s2 hr2 => ?_⟩
          rw [cut_one] at hr2
          refine ⟨t, r, _, _, rfl, rfl, rd_same h1 s2, hr2, ?_, fun x G3 s3 hx => ?_⟩
          · rw [List.length_drop]
            exact Nat.le_of_lt (small1000 (by rw [List.length_singleton]; omega))
          have b3 := ((b.same s1).same s2).same s3
          have dd := depth_drop ds 1
          have nn := nodes_drop ds
          refine q' (.ref x) G3 ((s1.trans s2).trans s3) ⟨.tuple (.str z :: ds.drop 1), .tup (rd_outs b3.dk hx) (.cons (.str z) (b3.d.drop 1)), ?_, one2_pur ?_, ?_, ?_⟩
          · simp only [smB, smL, smL_drop hS.2, Bool.and_true]
            simpa only [smB, Bool.and_eq_true] using hS.1
          · simp only [pur, purL, purL_drop b3.pu, Bool.and_self]
          · simp only [nodes, nodesL]
            omega
          · simp only [PyData.depth, PyData.depthAll]
            omega
        · intro G Q' b q'
          refine ⟨_, rfl, _, rfl, by show 1 ≤ sizeLine; decide, fun t nt => ?_⟩
          have s1 : Same G (upd G t (.tup [lf])) := same_upd nt
          have h1 : Rd (upd G t (.tup [lf])) t (.tup [lf]) := .inl upd_same
          generalize upd G t (.tup [lf]) = G1 at s1 h1 ⊢
          refine ⟨aT, t, _, _, rfl, rfl, rd_same b.t s1, h1, ?_, fun x G3 s3 hx => ?_⟩
          · rw [List.length_cons]
            exact Nat.le_of_lt (small1000 (by rw [List.length_singleton]; omega))
          have b3 := (b.same s1).same s3
          refine q' (.ref x) G3 (s1.trans s3) ⟨.tuple ((.str z :: ds) ++ [.tuple [.str z0]]), .tup (rd_outs b3.dk hx) ((DaAll.cons (.str z) b3.d).app (.cons b3.l .nil)), ?_, one2_pur ?_, ?_, ?_⟩
          · have e0 := sm_name (z := z0) ⟨by omega, z0T.2⟩
            simp only [smB]
            rw [smL_app]
            simp only [smL, hS.2, Bool.and_true]
            simp only [smB, smL, Bool.and_true] at e0 ⊢
            rw [e0, Bool.and_true]
            simpa only [smB, Bool.and_eq_true] using hS.1
          · simp only [pur]
            rw [purL_app]
            simp only [purL, pur, b3.pu, Bool.and_self]
          · simp only [nodes]
            rw [nodesL_app]
            simp only [nodesL, nodes]
            omega
          · simp only [PyData.depth]
            rw [depthAll_app]
            simp only [PyData.depthAll, PyData.depth]
            omega
        · intro G Q' b q'
          refine ⟨_, rfl, by show 1 ≤ sizeLine; decide, fun t nt => ?_⟩
          have s1 : Same G (upd G t (.lst [.str z])) := same_upd nt
          have h1 : (upd G t (.lst [.str z])) t = some (.lst [.str z]) := upd_same
          generalize upd G t (.lst [.str z]) = G1 at s1 h1 ⊢
          refine ⟨_, rfl, aR, vs, rfl, .inr (.inl (rd_same b.r s1)), fun u nu => ?_⟩
          have s2 : Same G1 (upd G1 u (.lst vs)) := same_upd nu
          have h2 : (upd G1 u (.lst vs)) u = some (.lst vs) := upd_same
          generalize upd G1 u (.lst vs) = G2 at s2 h2 ⊢
          refine ⟨t, u, _, _, rfl, rfl, s2 _ _ h1, h2, ?_, fun x nx => ?_⟩
          · exact Nat.le_of_lt (small1000 (by rw [List.length_singleton]; omega))
          have b2 := (b.same s1).same s2
          have nx' := ne_deck b2 nx
          have s3 : Same G2 (upd G2 x (.lst ([.str z] ++ vs))) := same_upd nx
          have b3 := b2.same s3
          obtain ⟨_, hd3⟩ := purL_no ds b3.pu
          refine q' (.ref x) _ ((s1.trans s2).trans s3) ⟨.list (.str z :: ds), .lst (by rw [outs_ne nx', upd_same]; rfl) (.cons (.str z) b3.d), ?_, .inr ?_, ?_, ?_⟩
          · simp only [smB, smL, hS.2, Bool.and_true]
            simpa only [smB, Bool.and_eq_true] using hS.1
          · simp only [PyData.hasDict, PyData.hasDictAll, hd3, Bool.or_self]
          · simp only [nodes, nodesL]
            omega
          · simp only [PyData.depth, PyData.depthAll]
            omega
        · exact mp_g (mp_tag rfl)
        · exact mg_tup0
        · exact mp_g (mp_c fun _ => gp_non)
        · exact mp_g (mp_c fun _ => gp_bl)
        · exact mp_g (mp_c fun _ => gp_int (by decide))
        rintro _ H5 ⟨l1, xs1, rfl, s5, g5, len5, nl1, hl1⟩
        -- some.append((tag, leaf))
        have bH5 := bH4.same s5
        have hP5 := hP4.same s5
        refine ⟨_, rfl, .inl ⟨rfl, _, .inl (.inl hl1)⟩, _, rfl, _, rfl, by show 2 ≤ sizeLine; decide, fun t nt => ?_⟩
        have s6 : Same H5 (upd H5 t (.tup [.str z, lf])) := same_upd nt
        have h6 : (upd H5 t (.tup [.str z, lf])) t = some (.tup [.str z, lf]) := upd_same
        generalize upd H5 t (.tup [.str z, lf]) = H6 at s6 h6 ⊢
        have hl16 := s6 _ _ hl1
        have ntl : t ≠ l1 := fun e => by
          rw [e, hl16] at h6
          cases h6
        refine ⟨l1, xs1, _, rfl, rfl, hl16, ?_, ?_⟩
        · exact small1000 (by omega)
        have bH6 := bH5.same s6
        have hP6 := hP5.same s6
        obtain ⟨npl1, ncl1⟩ : p ≠ l1 ∧ c ≠ l1 := hP4.ne nl1
        have nl1H : H l1 = none := bH4.free nl1
        have bO6 : Bs Ls aT aR z z0 vs ds lf (nodesL ds + 2) (PyData.depthAll ds + 1) (Out l1 H6) := b4.same (same_out (s5.trans s6) nl1)
        have eO : Out l1 (upd H6 l1 (.lst (xs1 ++ [.ref t]))) = Out l1 H6 := out_upd
        have bH7 : But p H (upd H6 l1 (.lst (xs1 ++ [.ref t]))) := bH6.set nl1H
        have hP7 : Pot (upd H6 l1 (.lst (xs1 ++ [.ref t]))) p c := hP6.upd npl1 ncl1
        have hl17 : (upd H6 l1 (.lst (xs1 ++ [.ref t]))) l1 = some (.lst (xs1 ++ [.ref t])) := upd_same
        have k7 : TK H6 (upd H6 l1 (.lst (xs1 ++ [.ref t]))) := tk_upd hl16
        generalize upd H6 l1 (.lst (xs1 ++ [.ref t])) = H7 at eO bH7 hP7 hl17 k7 ⊢
        have bO7 : Bs Ls aT aR z z0 vs ds lf (nodesL ds + 2) (PyData.depthAll ds + 1) (Out l1 H7) := by rw [eO]; exact bO6
        have b7 := bO7.same out_sub
        have g7 : ∀ x ∈ xs1 ++ [.ref t], Gd Ls (nodesL ds + 2 + 9) (PyData.depthAll ds + 1 + 2) H7 x := by
          intro x hx
          rcases List.mem_append.mp hx with hx | hx
          · have y := (g5 x hx).same (out_same s6)
            rw [← eO] at y
            exact y.same out_sub
          · rw [List.mem_singleton.mp hx]
            have e0 := sm_name (z := z) ⟨by omega, zT.2⟩
            have e1 := sm_name (z := z0) ⟨by omega, z0T.2⟩
            refine ⟨.tuple [.str z, .tuple [.str z0]], .tup (rd_outs b7.dk (k7 _ _ (.inl h6))) (.cons (.str z) (.cons b7.l .nil)), ?_, one2_pur (by simp [pur, purL]), ?_, ?_⟩
            · simp only [smB, smL, Bool.and_true] at e0 e1 ⊢
              rw [e0, e1]
              rfl
            · simp only [nodes, nodesL]
              omega
            · simp only [PyData.depth, PyData.depthAll]
              omega
        -- some + [..]
        refine ⟨_, rfl, fun v H8 => ∃ l xs, v = .ref l ∧ Same H7 H8 ∧ (∀ x ∈ xs, Gd Ls (nodesL ds + 2 + 9) (PyData.depthAll ds + 1 + 2) (Out l H8) x) ∧ xs.length = 9 ∧ H8 l = some (.lst xs), mg_lst (n := 9) (mg_cons (mg_restTag rfl rfl) (mg_cons (mg_tup2 (mp_tag rfl) (mp_tag rfl)) (mg_cons (mg_tup2 (mp_tag rfl) (mp_c fun _ => gp_non)) (mg_cons (mg_head (ms_tagT rfl) rfl) (mg_cons (mg_head (mp_s (mp_c fun _ => gp_int (by decide))) rfl) (mg_cons (mg_tup1 (mp_c fun _ => gp_non)) (mg_cons (mg_tup1 (mp_c fun _ => gp_str ⟨by decide, by decide +kernel⟩)) (mg_cons (mg_treeL rfl) (mg_cons (mg_small ms_dict) mg_nil))))))))) (by decide) b7 fun l xs H8 s g ln n e => ⟨l, xs, rfl, s, g, ln, e⟩, ?_⟩
        rintro _ H8 ⟨l2, xs2, rfl, s8, g8, len8, hl2⟩
        refine ⟨l1, l2, _, _, rfl, rfl, s8 _ _ hl17, hl2, ?_, fun l3 nl3 => ?_⟩
        · rw [List.length_append, len5, len8, List.length_singleton]
          exact fits_few (by decide)
        have s9 : Same H8 (upd H8 l3 (.lst (xs1 ++ [.ref t] ++ xs2))) := same_upd nl3
        have hl3 : (upd H8 l3 (.lst (xs1 ++ [.ref t] ++ xs2))) l3 = some (.lst (xs1 ++ [.ref t] ++ xs2)) := upd_same
        generalize upd H8 l3 (.lst (xs1 ++ [.ref t] ++ xs2)) = H9 at s9 hl3 ⊢
        have b9 := (b7.same s8).same s9
        have g9 : ∀ x ∈ xs1 ++ [.ref t] ++ xs2, Gd Ls (nodesL ds + 2 + 9) (PyData.depthAll ds + 1 + 2) H9 x := by
          intro x hx
          rcases List.mem_append.mp hx with hx | hx
          · exact ((g7 x hx).same s8).same s9
          · exact ((g8 x hx).same out_sub).same s9
        have len9 : (xs1 ++ [V.ref t] ++ xs2).length = 19 := by
          rw [List.length_append, List.length_append, len5, len8]
          rfl
        generalize xs1 ++ [V.ref t] ++ xs2 = xs9 at hl3 g9 len9 ⊢
        -- some + [..]
        refine ⟨_, rfl, fun v HA => ∃ l xs, v = .ref l ∧ Same H9 HA ∧ (∀ x ∈ xs, Gd Ls (nodesL ds + 2 + 9) (PyData.depthAll ds + 1 + 2) (Out l HA) x) ∧ xs.length = 2 ∧ HA l = some (.lst xs), mg_lst (n := 2) (mg_cons (mg_head (ms_tagL rfl) rfl) (mg_cons (mg_head ms_dict rfl) mg_nil)) (by decide) b9 fun l xs HA s g ln n e => ⟨l, xs, rfl, s, g, ln, e⟩, ?_⟩
        rintro _ HA ⟨l4, xs4, rfl, sA, gA, lenA, hl4⟩
        refine ⟨l3, l4, _, _, rfl, rfl, sA _ _ hl3, hl4, ?_, fun l5 nl5 => ?_⟩
        · rw [len9, lenA]
          exact fits_few (by decide)
        have sB : Same HA (upd HA l5 (.lst (xs9 ++ xs4))) := same_upd nl5
        have hl5 : (upd HA l5 (.lst (xs9 ++ xs4))) l5 = some (.lst (xs9 ++ xs4)) := upd_same
        generalize upd HA l5 (.lst (xs9 ++ xs4)) = HB at sB hl5 ⊢
        have bB := (b9.same sA).same sB
        have gB : ∀ x ∈ xs9 ++ xs4, Gd Ls (nodesL ds + 2 + 9) (PyData.depthAll ds + 1 + 2) HB x := by
          intro x hx
          rcases List.mem_append.mp hx with hx | hx
          · exact ((g9 x hx).same sA).same sB
          · exact ((gA x hx).same out_sub).same sB
        have lenB : (xs9 ++ xs4).length = 21 := by
          rw [List.length_append, len9, lenA]
        generalize xs9 ++ xs4 = xsB at hl5 gB lenB ⊢
        have s7B : Same H7 HB := (s8.trans s9).trans (sA.trans sB)
        have bHB := bH7.same s7B
        have hPB := hP7.same s7B
        obtain ⟨LB, hLB⟩ := hPB.p
        have np5 : p ≠ l5 := fun e => by
          have y := hPB.p
          have y2 := ne_of_none ((s8.trans (s9.trans sA)) _ _ (hP7.p).choose_spec) nl5
          exact y2 e
        have eaB : Rd HB a (.tup (rs.map V.ref)) := ((tk_same s4).trans ((tk_same s5).trans ((tk_same s6).trans (k7.trans (tk_same s7B))))) _ _ ea3
        have prB : Prs HB rs ks := pr3.keep ((tk_same s4).trans ((tk_same s5).trans ((tk_same s6).trans (k7.trans (tk_same s7B)))))
        -- pick(deck, some + [(pick(deck, [pair[0] for pair in kind]),) + rest])
        refine ⟨_, rfl, _, rfl, _, rfl, _, rfl, a, rfl, ⟨_, .inl eaB⟩, fun D2 nD2 => ?_⟩
        have nD2p : p ≠ D2 := ne_of_none hLB nD2
        refine lc_it (walk_tup (xs := rs.map V.ref)) (fun i HC => Same HB HC ∧ HC D2 = some (.lst ((ks.take i).map fun q => V.str q.1))) ⟨same_upd nD2, upd_same⟩ (fun i HC _ h => .inl (rd_same eaB h.1)) ?_ ?_
        · rintro i y HC HD' hi ⟨sC, hD2⟩ ⟨rfl, ex⟩
          obtain ⟨r, pp, rfl, hk, hr2⟩ := prB.item ex
          have zi : i < ks.length := (List.getElem?_eq_some_iff.mp hk).1
          refine ⟨rfl, ?_⟩
          unfold tYes
          dsimp only
          rw [if_pos rfl]
          refine ⟨_, rfl, r, _, _, .str pp.1, rfl, rfl, .inl (rd_same hr2 sC), atI_nat (j := 0) rfl, _, hD2, ?_, same_at sC nD2, ?_⟩
          · rw [List.length_map, List.length_take]
            exact small1000 (by omega)
          · rw [upd_same, take_next hk]
        · rintro HC ⟨sC, hD2⟩
          rw [List.length_map, lr, List.take_length] at hD2
          have hPC := hPB.same sC
          have nks : (ks.map fun q => V.str q.1) ≠ [] := by
            obtain ⟨q0, hq0, _⟩ := hK.leaf
            intro e
            rw [List.map_eq_nil_iff] at e
            rw [e] at hq0
            cases hq0
          refine ⟨p, c, D2, _, rfl, hPC, .inl (.inl hD2), nks, by rw [List.length_map]; omega, fun H' hb => .inl (.inl (hb.1 _ _ hD2 (Ne.symm nD2p))), fun v HD' hv hPD bD => ?_⟩
          obtain ⟨q0, hq0, rfl⟩ := List.mem_map.mp hv
          have wT : q0.1.length ≤ 8 ∧ ∀ c ∈ q0.1.cps.toList, c < 1114112 := tags_ok _ (hK.all _ hq0).1
          have bBD : But p HB HD' := (hPB.but1 sC).trans bD
          refine ⟨by show 1 ≤ sizeLine; decide, fun t2 nt2 => ?_⟩
          have sE : Same HD' (upd HD' t2 (.tup [.str q0.1])) := same_upd nt2
          have hE : Rd (upd HD' t2 (.tup [.str q0.1])) t2 (.tup [.str q0.1]) := .inl upd_same
          generalize upd HD' t2 (.tup [.str q0.1]) = HE at sE hE ⊢
          have bBE := bBD.same sE
          have hRE : Rd HE aR (.tup vs) := tk_but bBE hPB _ _ bB.r
          refine ⟨_, rfl, t2, aR, _, _, rfl, rfl, hE, hRE, ?_, fun x HF sF hx => ?_⟩
          · exact Nat.le_of_lt (small1000 (by rw [List.length_singleton]; omega))
          refine ⟨by show 1 ≤ sizeLine; decide, fun l6 nl6 => ?_⟩
          have sG : Same HF (upd HF l6 (.lst [.ref x])) := same_upd nl6
          have hl6 : (upd HF l6 (.lst [.ref x])) l6 = some (.lst [.ref x]) := upd_same
          generalize upd HF l6 (.lst [.ref x]) = HG at sG hl6 ⊢
          have bBG := (bBE.same sF).same sG
          have hl5G := bBG.1 _ _ hl5 (Ne.symm np5)
          refine ⟨l5, l6, _, _, rfl, rfl, hl5G, hl6, ?_, fun l7 nl7 => ?_⟩
          · rw [lenB, List.length_singleton]
            exact fits_few (by decide)
          have sH : Same HG (upd HG l7 (.lst (xsB ++ [.ref x]))) := same_upd nl7
          have hl7 : (upd HG l7 (.lst (xsB ++ [.ref x]))) l7 = some (.lst (xsB ++ [.ref x])) := upd_same
          have hPG := ((hPD.same sE).same sF).same sG
          obtain ⟨LG, hLG⟩ := hPG.p
          have np7 : p ≠ l7 := ne_of_none hLG nl7
          generalize upd HG l7 (.lst (xsB ++ [.ref x])) = HH at sH hl7 ⊢
          have bBH := bBG.same sH
          have hPH := hPG.same sH
          refine ⟨p, c, l7, _, rfl, hPH, .inl (.inl hl7), by simp, by rw [List.length_append, lenB, List.length_singleton]; decide, fun H' hb => .inl (.inl (hb.1 _ _ hl7 (Ne.symm np7))), fun v HI hv hPI bI => ?_⟩
          refine q v HI (((bHB.trans bBH)).trans bI) hPI ?_
          have eN : 1 + (1 + nodesL ds) + 9 = nodesL ds + 2 + 9 := by omega
          have eM : max 0 (PyData.depthAll ds) + 1 + 2 = PyData.depthAll ds + 1 + 2 := by rw [Nat.zero_max]
          have fin : Gd Ls (nodesL ds + 2 + 9) (PyData.depthAll ds + 1 + 2) HI v := by
            rcases List.mem_append.mp hv with hv | hv
            · exact ((gB v hv).but mp bBH).but mp bI
            · rw [List.mem_singleton.mp hv]
              have hx2 : Rd HH x (.tup ([.str q0.1] ++ vs)) := rd_same (rd_same hx sG) sH
              have e0 := sm_name (z := q0.1) ⟨by omega, wT.2⟩
              refine Gd.but mp ⟨.tuple (.str q0.1 :: ds), .tup (rd_outs (dk.but (bHB.trans bBH) hPH) hx2) (.cons (.str _) (bB.d.same (outs_but mp bBH))), ?_, one2_pur ?_, ?_, ?_⟩ bI
              · simp only [smB, smL, hS.2, Bool.and_true]
                simpa only [smB] using e0
              · simp only [pur, purL, bB.pu, Bool.and_self]
              · simp only [nodes, nodesL]
                omega
              · simp only [PyData.depth, PyData.depthAll]
                omega
          rw [← eN, ← eM] at fin
          exact fin
theorem ok_bent {f fb fp : Addr} {fd fdb fdp : FuncData} (F : Fun K "_law_bent" "_law_bent" s_law_bent f fd) (T : TxtB mg) (Fb : Fun K "_law_below" "_law_below" s_law_below fb fdb) (bb : Binds K fdb ["deck", "bound"] []) (gb : mg "_law_below" = some (.ref fb)) (Gb : FnOk P w K mg base CX0 2 fb fdb ["deck", "bound"] spBelow)
    (Fp : Fun K "_law_pick" "_law_pick" s_law_pick fp fdp) (bp : Binds K fdp ["deck", "some"] []) (gp : mg "_law_pick" = some (.ref fp)) (Gp : FnOk P w K mg base CX0 3 fp fdp ["deck", "some"] (spPick K)) (b : Binds K fd ["deck", "kind", "tree"] []) (g : mg "_law_bent" = some (.ref f)) : ∀ n, FnOk P w K mg base CX0 (n + 4) f fd ["deck", "kind", "tree"] (spBent n)
  | 0 => step_bent F T Fb bb gb Gb Fp bp gp Gp b g ok_never
  | n + 1 => step_bent F T Fb bb gb Gb Fp bp gp Gp b g (ok_bent F T Fb bb gb Gb Fp bp gp Gp b g n)
end
end My

namespace My
open PySem PySem.Spec PyProof.Rows L2
/-! ### how long a repr is -/
theorem textFrom_piled : ∀ (ts : List Str) (k : Nat) (acc : Str), (textFrom k acc ts).length ≤ acc.length + piled ts
  | [], k, acc => by
    show acc.length ≤ acc.length + _
    omega
  | t :: r, k, acc => by
    have ih := textFrom_piled r (k + 1) (acc ++ (if k > 0 then ", " else "" : String) ++ t)
    have e : (acc ++ (if k > 0 then ", " else "" : String) ++ t : Str).length ≤ acc.length + 2 + t.length := by
      rw [strLen_append, strLen_append]
      have z : ((if k > 0 then ", " else "" : String) : Str).length ≤ 2 := by
        split
        · exact Nat.le_refl 2
        · exact Nat.zero_le 2
      omega
    rw [piled_cons]
    show (textFrom (k + 1) _ r).length ≤ _
    omega
theorem listText_piled (ts : List Str) : (listText ts).length ≤ 2 + piled ts := by
  have z := textFrom_piled ts 0 "["
  unfold listText
  rw [strLen_append]
  have e1 : ("[" : Str).length = 1 := rfl
  have e2 : ("]" : Str).length = 1 := rfl
  omega
theorem tupleText_piled (ts : List Str) : (tupleText ts).length ≤ 3 + piled ts := by
  unfold tupleText
  rw [strLen_append, strLen_append]
  have e1 : ("(" : Str).length = 1 := rfl
  have e2 : ((if ts.length == 1 then ",)" else ")" : String) : Str).length ≤ 2 := by
    split
    · exact Nat.le_refl 2
    · exact Nat.le_succ 1
  cases ts with
  | nil =>
    have e3 : (Str.join ", " []).length = 0 := rfl
    omega
  | cons t r =>
    have y := join_length_add (t :: r) (fun z => nomatch z)
    omega
theorem int_log {i : Int} (h : i.natAbs ≤ 1000) : i.natAbs.log2 < 1920 := by
  by_cases z : i.natAbs = 0
  · rw [z]
    decide
  · have y := (Nat.log2_lt z (k := 1920)).mpr (Nat.lt_of_le_of_lt h (by decide))
    exact y
mutual
theorem sm_show : ∀ d : PyData, smB d = true → d.showable = true ∧ d.shown.length + 5 ≤ 2010 * nodes d
  | .none, _ => by
    refine ⟨by simp only [PyData.showable], ?_⟩
    simp only [nodes]
    exact Nat.le_trans (show (PyData.none).shown.length + 5 ≤ 100 by decide +kernel) (by decide)
  | .bool b, _ => by
    refine ⟨by simp only [PyData.showable], ?_⟩
    simp only [nodes]
    cases b
    · exact Nat.le_trans (show (PyData.bool false).shown.length + 5 ≤ 100 by decide +kernel) (by decide)
    · exact Nat.le_trans (show (PyData.bool true).shown.length + 5 ≤ 100 by decide +kernel) (by decide)
  | .int i, h => by
    simp only [smB, decide_eq_true_eq] at h
    have l := int_log h
    refine ⟨by simp only [PyData.showable, decide_eq_true_eq]; exact l, ?_⟩
    simp only [nodes, PyData.shown]
    have z : (Str.ofString (toString i)).length ≤ 1921 := by
      rw [PySem.ofString_length]
      exact int_text_length_le (by decide) l
    omega
  | .str z, h => by
    obtain ⟨h1, h2⟩ := sm_str h
    refine ⟨by simp only [PyData.showable], ?_⟩
    have rt := PySem.StrLaws.reprText_len z fun c hc => Nat.lt_trans (h2 c hc) (by decide)
    simp only [nodes]
    rw [PyData.shown]
    omega
  | .list ds, h => by
    simp only [smB] at h
    obtain ⟨a, b⟩ := sm_shows ds h
    refine ⟨by simp only [PyData.showable]; exact a, ?_⟩
    rw [PyData.shown]
    have y := listText_piled (PyData.shownAll ds)
    simp only [nodes]
    omega
  | .tuple ds, h => by
    simp only [smB] at h
    obtain ⟨a, b⟩ := sm_shows ds h
    refine ⟨by simp only [PyData.showable]; exact a, ?_⟩
    rw [PyData.shown]
    have y := tupleText_piled (PyData.shownAll ds)
    simp only [nodes]
    omega
  | .dict kvs, h => by
    simp only [smB, List.isEmpty_iff] at h
    subst h
    refine ⟨by simp only [PyData.showable, PyData.showableKv], ?_⟩
    simp only [nodes]
    exact Nat.le_trans (show (PyData.dict []).shown.length + 5 ≤ 100 by decide +kernel) (by decide)
theorem sm_shows : ∀ ds : List PyData, smL ds = true → PyData.showableAll ds = true ∧ piled (PyData.shownAll ds) ≤ 2010 * nodesL ds
  | [], _ => ⟨by simp only [PyData.showableAll], by simp [PyData.shownAll, piled]⟩
  | d :: r, h => by
    simp only [smL, Bool.and_eq_true] at h
    obtain ⟨a, b⟩ := sm_show d h.1
    obtain ⟨a', b'⟩ := sm_shows r h.2
    refine ⟨by simp only [PyData.showableAll, a, a', Bool.and_self], ?_⟩
    simp only [PyData.shownAll, nodesL]
    rw [piled_cons]
    omega
end
theorem rp_gd {Ls : List Addr} {N M : Nat} {H : Hp} {v : V} {d : PyData} {Q : VK} (hd : Da H v d) (h1 : smB d = true) (h2 : one2 d) (h3 : nodes d ≤ 1000) (h4 : d.depth ≤ 60) (q : Q (.str d.shown) H) : rReprD [v] H Q := by
  obtain ⟨a, b⟩ := sm_show d h1
  refine ⟨v, d, rfl, hd, a, fun z => ?_, h4, ?_, q⟩
  · rcases h2 with e | e
    · exact e
    · rw [e] at z
      cases z
  · rw [sizeLine_eq]
    omega
theorem rp_bl {H : Hp} {b : Bool} {Q : VK} (q : Q (.str (PyData.bool b).shown) H) : rReprD [.bl b] H Q := by
  refine ⟨.bl b, .bool b, rfl, .bl b, by simp only [PyData.showable], fun _ => by simp only [noL], by simp [PyData.depth], ?_, q⟩
  cases b <;> exact Nat.le_of_lt (small1000 (by decide +kernel))
theorem ne_self (x : V) : V.bl (!decide (x = x)) = V.bl false := by simp
/-! ### (tag, 1) in kind -/
abbrev dPairs (ks : List (Str × Int)) : List PyData := ks.map fun q => PyData.tuple [.str q.1, .int q.2]
theorem dp_prs {K : PySem.W.Frag} {H : Hp} {rs : List Addr} {ks : List (Str × Int)} (h : Prs H rs ks) : DpAll K H (rs.map V.ref) (dPairs ks) := by
  induction h with
  | nil => exact .nil
  | cons e _ ih => exact .cons (.tup (.inl e) (.cons (.str _) (.cons (.int _) .nil))) ih
theorem any_pair (z : Str) (i : Int) : ∀ ks : List (Str × Int), ((dPairs ks).any fun y => PyData.eqv y (.tuple [.str z, .int i])) = decide ((z, i) ∈ ks)
  | [] => rfl
  | q :: r => by
    have ih := any_pair z i r
    unfold dPairs at ih ⊢
    rw [List.map_cons, List.any_cons, ih, eqv_pair]
    have e : ((z, i) ∈ q :: r) ↔ ((q.1, q.2) = (z, i) ∨ (z, i) ∈ r) := by
      rw [List.mem_cons]
      exact ⟨fun h => h.imp (fun e => e.symm) id, fun h => h.imp (fun e => e.symm) id⟩
    rw [decide_eq_decide.mpr e, Bool.decide_or]
theorem lay_pairs : ∀ {ks : List (Str × Int)}, (∀ q ∈ ks, q.1 ∈ TAGS) → PyData.canLayAll0 (dPairs ks) = true ∧ PyData.depthAll (dPairs ks) ≤ 1
  | [], _ => ⟨by simp [dPairs, PyData.canLayAll0], by simp [dPairs, PyData.depthAll]⟩
  | q :: r, h => by
    obtain ⟨a, b⟩ := lay_pairs fun y hy => h y (List.mem_cons_of_mem _ hy)
    have s := sh_pair (tags_ok _ (h q List.mem_cons_self)).2 q.2
    have c := SeqAt.canLay_of_shaped s
    unfold dPairs at a b ⊢
    refine ⟨?_, ?_⟩
    · simp only [List.map_cons, PyData.canLayAll0, c, a, Bool.and_self]
    · simp only [List.map_cons, PyData.depthAll, PyData.depth]
      omega
theorem sh_pairs {ks : List (Str × Int)} (h : ∀ q ∈ ks, q.1 ∈ TAGS) : SeqAt.shaped (.tuple (dPairs ks)) = true := by
  obtain ⟨a, b⟩ := lay_pairs h
  show ((PyData.tuple (dPairs ks)).canLay0 && decide ((PyData.tuple (dPairs ks)).depth ≤ 64)) = true
  have c : (PyData.tuple (dPairs ks)).canLay0 = true := by simp only [PyData.canLay0]; exact a
  rw [c, Bool.true_and]
  refine decide_eq_true ?_
  simp only [PyData.depth]
  omega
/-! ### a kind as data -/
theorem da_kind {L : List Addr} {H : Hp} (dk : Dk L H) {a : Addr} {rs : List Addr} {ks : List (Str × Int)} (ea : Rd H a (.tup (rs.map V.ref))) (h : Prs H rs ks) : Da (Outs L H) (.ref a) (.tuple (dPairs ks)) := by
  refine .tup (rd_outs dk ea) ?_
  clear ea
  induction h with
  | nil => exact .nil
  | cons e _ ih => exact .cons (.tup (rd_outs dk e) (.cons (.str _) (.cons (.int _) .nil))) ih
theorem kind_sm {ks : List (Str × Int)} (h : Rk ks) : smB (.tuple (dPairs ks)) = true ∧ pur (.tuple (dPairs ks)) = true ∧ nodes (.tuple (dPairs ks)) ≤ 30 ∧ (PyData.tuple (dPairs ks)).depth ≤ 2 := by
  have go : ∀ l : List (Str × Int), (∀ q ∈ l, q.1 ∈ TAGS ∧ 0 ≤ q.2 ∧ q.2 ≤ 4) → smL (dPairs l) = true ∧ purL (dPairs l) = true ∧ nodesL (dPairs l) = 3 * l.length ∧ PyData.depthAll (dPairs l) ≤ 1 := by
    intro l
    induction l with
    | nil => intro _; exact ⟨by simp [dPairs, smL], by simp [dPairs, purL], by simp [dPairs, nodesL], by simp [dPairs, PyData.depthAll]⟩
    | cons q r ih =>
      intro g
      obtain ⟨a, b, c, e⟩ := ih fun y hy => g y (List.mem_cons_of_mem _ hy)
      obtain ⟨qT, q0, q4⟩ := g q List.mem_cons_self
      have s := sm_name (z := q.1) ⟨by have := (tags_ok _ qT).1; omega, (tags_ok _ qT).2⟩
      have s2 : smB (.int q.2) = true := by simp only [smB]; exact decide_eq_true (by omega)
      unfold dPairs at a b c e ⊢
      refine ⟨?_, ?_, ?_, ?_⟩
      · simp only [List.map_cons, smL, a, Bool.and_true]
        rw [smB]
        simp only [smL, s, s2, Bool.and_self]
      · simp only [List.map_cons, purL, b, pur, Bool.and_self]
      · simp only [List.map_cons, nodesL, c, nodes, List.length_cons]
        omega
      · simp only [List.map_cons, PyData.depthAll, PyData.depth]
        omega
  obtain ⟨a, b, c, e⟩ := go ks h.all
  have z8 := h.few
  refine ⟨by simp only [smB]; exact a, by simp only [pur]; exact b, ?_, ?_⟩
  · simp only [nodes, c]
    omega
  · simp only [PyData.depth]
    omega
end My

namespace My
open PySem PySem.Spec PyProof.Rows L2
def spLaw (K : PySem.W.Frag) : Sp := fun vs H Q _ => ∃ (a : Addr) (ns : List Int), vs = [.ref a] ∧ SqL K H a (ns.map V.int) ∧ ns.length ≤ 63 ∧ ∀ H', Q (.bl true) H'
structure TxtI (mg : Str → Option Value) : Prop where
  n_repr : mg "repr" = none
  n_range : mg "range" = none
abbrev s_law : Stmt := topS 19
theorem sc_law : FnScope ["script", "deck", "turn", "kind", "levels", "trees", "tree", "tags", "values", "lap", "value", "before"] ["script"] (defScope s_law) := ⟨rfl, rfl, rfl, by decide +kernel, rfl, by decide +kernel, by decide +kernel⟩
theorem rk_sm {ks : List (Str × Int)} (h : Rk ks) {q : Str × Int} (m : q ∈ ks) : smB (.str q.1) = true ∧ smB (.int q.2) = true ∧ ∀ c ∈ q.1.cps.toList, c < 1114112 := by
  obtain ⟨qT, q0, q4⟩ := h.all q m
  exact ⟨sm_name ⟨by have := (tags_ok _ qT).1; omega, (tags_ok _ qT).2⟩, by simp only [smB]; exact decide_eq_true (by omega), (tags_ok _ qT).2⟩
theorem Gd.da {Ls : List Addr} {N M : Nat} {H : Hp} {v : V} (h : Gd Ls N M H v) : ∃ d, Da H v d ∧ smB d = true ∧ one2 d ∧ nodes d ≤ N ∧ d.depth ≤ M := by
  obtain ⟨d, a, b⟩ := h
  exact ⟨d, a.same outs_sub, b⟩
theorem gd_out {p l : Addr} {N M : Nat} {G : Hp} {o : HO} {v : V} (n : G l = none) (h : Gd [p] N M G v) : Gd [p, l] N M (upd G l o) v := by
  obtain ⟨d, a, b⟩ := h
  refine ⟨d, a.same fun c u e => ?_, b⟩
  obtain ⟨n1, e1⟩ := outs_some e
  have ncl : c ≠ l := ne_of_none e1 n
  rw [outs_ne (fun z => by
    simp only [List.mem_cons, List.not_mem_nil, or_false] at z n1
    rcases z with z | z
    · exact n1 z
    · exact ncl z), upd_ne ncl]
  exact e1
theorem at_last (l : List V) (x : V) : atI (l ++ [x]) (-1) = some x := by
  unfold atI ixN
  rw [List.length_append, List.length_cons, List.length_nil, if_neg (by decide), if_pos (by omega), Option.bind_some]
  rw [show (-1 + ((l.length + (0 + 1) : Nat) : Int)).toNat = l.length by omega]
  simp
section
variable {P : Program} {w : World} {K : PySem.W.Frag} {mg : Str → Option Value} {base : Heap}
theorem go_nox {k : Nat} {f : Addr} {fd : FuncData} {ps N : List Str} {sp : Sp} {x qual : Str} {st : Stmt} (F : Fun K x qual st f fd) (S : FnScope N ps (defScope st)) (many : ∀ vs H Q E, sp vs H Q E → vs.length = ps.length)
    (hb : ∀ (cdv : Value) (A : Around) (outer : List Env) (s : Shared) (H : Hp) (vs : List V) (Q : VK) (E : XK), Room k (A.deeper (envOfC qual (defScope st) s.heap.objs.size f cdv)) → (A.deeper (envOfC qual (defScope st) s.heap.objs.size f cdv)).guards = some [] →
      sp vs H Q E → ∃ t, PSs (cxOf CX0 P w K mg base N qual (defScope st) f cdv A outer s H E).nox (defBody st) t ∧ t { nx := fun _ H' => Q .non H', rt := Q } (L2.start N vs) H) : FnG P w K mg base CX0 (k + 1) f fd ps sp :=
  go_of F S many fun cdv A outer s H vs Q E hr quiet h => by
    obtain ⟨t, ht, q⟩ := hb cdv A outer s H vs Q E hr quiet h
    exact ⟨t, ht.nox, q⟩
structure Def (P : Program) (w : World) (K : PySem.W.Frag) (mg : Str → Option Value) (base : Heap) (x : Str) (st : Stmt) (ps : List Str) (k : Nat) (sp : Sp) (f : Addr) (fd : FuncData) : Prop where
  F : Fun K x x st f fd
  b : Binds K fd ps []
  g : mg x = some (.ref f)
  G : FnOk P w K mg base CX0 k f fd ps sp
theorem go_law {f f1 f2 f3 f4 f5 f6 f7 f8 f9 fa fb : Addr} {fd fd1 fd2 fd3 fd4 fd5 fd6 fd7 fd8 fd9 fda fdb : FuncData} (F : Fun K "law" "law" s_law f fd) (T : TxtI mg)
    (D1 : Def P w K mg base "_law_deck_of" s_law_deck_of ["script"] 1 (spDeckOf K) f1 fd1) (D2 : Def P w K mg base "_law_below" s_law_below ["deck", "bound"] 2 spBelow f2 fd2) (D3 : Def P w K mg base "_law_pick" s_law_pick ["deck", "some"] 3 (spPick K) f3 fd3)
    (D4 : Def P w K mg base "_law_some_kind" s_law_some_kind ["deck", "most"] 4 spKind f4 fd4) (D5 : Def P w K mg base "_law_some_tree" s_law_some_tree ["deck", "kind", "deep"] 7 (spSomeTree 3) f5 fd5) (D6 : Def P w K mg base "_law_leaning" s_law_leaning ["deck", "kind", "levels"] 4 spLeaning f6 fd6)
    (D7 : Def P w K mg base "_law_tags_of" s_law_tags_of ["tree"] 1 spSizeOf f7 fd7) (D8 : Def P w K mg base "is_tree" s_is_tree ["kind", "thing"] 2 spIsTree f8 fd8) (D9 : Def P w K mg base "size_of" s_size_of ["tree"] 3 spSizeOf f9 fd9)
    (Da : Def P w K mg base "_law_is_tree" s_law_is_tree ["kind", "thing"] 21 (spLawTree 20) fa fda) (Db : Def P w K mg base "_law_bent" s_law_bent ["deck", "kind", "tree"] 14 (spBent 10) fb fdb) : FnG P w K mg base CX0 22 f fd ["script"] (spLaw K) := by
  have ⟨F__law_deck_of, b__law_deck_of, g__law_deck_of, G__law_deck_of⟩ := D1
  have ⟨F__law_below, b__law_below, g__law_below, G__law_below⟩ := D2
  have ⟨F__law_pick, b__law_pick, g__law_pick, G__law_pick⟩ := D3
  have ⟨F__law_some_kind, b__law_some_kind, g__law_some_kind, G__law_some_kind⟩ := D4
  have ⟨F__law_some_tree, b__law_some_tree, g__law_some_tree, G__law_some_tree⟩ := D5
  have ⟨F__law_leaning, b__law_leaning, g__law_leaning, G__law_leaning⟩ := D6
  have ⟨F__law_tags_of, b__law_tags_of, g__law_tags_of, G__law_tags_of⟩ := D7
  have ⟨F_is_tree, b_is_tree, g_is_tree, G_is_tree⟩ := D8
  have ⟨F_size_of, b_size_of, g_size_of, G_size_of⟩ := D9
  have ⟨F__law_is_tree, b__law_is_tree, g__law_is_tree, G__law_is_tree⟩ := Da
  have ⟨F__law_bent, b__law_bent, g__law_bent, G__law_bent⟩ := Db
  refine go_nox (k := 21) F sc_law (fun vs H Q E h => ?_) (fun cdv A outer s H vs Q E hr quiet h => ?_)
  · obtain ⟨a, ns, rfl, _⟩ := h
    rfl
  · obtain ⟨a, ns, rfl, hS, hl, q⟩ := h
    refine ⟨_, (pss_cons (ps_set (i := 1) sc_law.nd rfl (.inl rfl) (pe_call G__law_deck_of (hr.mono (by omega)) (by rfl) g__law_deck_of F__law_deck_of.kp b__law_deck_of .nil pass0 (pa_cons (pv 0) pa_nil)))
  (pss_cons (ps_for PassesOwn.never rfl (pi_range1 (by rfl) T.n_range (pa_cons pe_int pa_nil)) (pg_name (i := 2) sc_law.nd rfl (.inl rfl))
   (pss_cons (ps_set (i := 3) sc_law.nd rfl (.inl rfl) (pe_call G__law_some_kind (hr.mono (by omega)) (by rfl) g__law_some_kind F__law_some_kind.kp b__law_some_kind .nil pass0 (pa_cons (pv 1) (pa_cons (pe_call G__law_pick (hr.mono (by omega)) (by rfl) g__law_pick F__law_pick.kp b__law_pick .nil pass0 (pa_cons (pv 1) (pa_cons (pe_lst (pa_cons pe_int (pa_cons pe_int (pa_cons pe_int (pa_cons pe_int pa_nil))))) pa_nil))) pa_nil))))
  (pss_cons (ps_set (i := 4) sc_law.nd rfl (.inl rfl) (pe_call G__law_pick (hr.mono (by omega)) (by rfl) g__law_pick F__law_pick.kp b__law_pick .nil pass0 (pa_cons (pv 1) (pa_cons (pe_lst (pa_cons pe_int (pa_cons pe_int (pa_cons pe_int (pa_cons pe_int (pa_cons pe_int pa_nil)))))) pa_nil))))
  (pss_cons (ps_set (i := 5) sc_law.nd rfl (.inl rfl) (pe_lst (pa_cons (pe_call G__law_some_tree (hr.mono (by omega)) (by rfl) g__law_some_tree F__law_some_tree.kp b__law_some_tree .nil pass0 (pa_cons (pv 1) (pa_cons (pv 3) (pa_cons (pe_call G__law_below (hr.mono (by omega)) (by rfl) g__law_below F__law_below.kp b__law_below .nil pass0 (pa_cons (pv 1) (pa_cons pe_int pa_nil))) pa_nil)))) (pa_cons (pe_call G__law_leaning (hr.mono (by omega)) (by rfl) g__law_leaning F__law_leaning.kp b__law_leaning .nil pass0 (pa_cons (pv 1) (pa_cons (pv 3) (pa_cons (pv 4) pa_nil)))) pa_nil))))
  (pss_cons (ps_for PassesOwn.never rfl (pi_list (pv 5)) (pg_name (i := 6) sc_law.nd rfl (.inl rfl))
   (pss_cons (ps_set (i := 7) sc_law.nd rfl (.inl rfl) (pe_call G__law_tags_of (hr.mono (by omega)) (by rfl) g__law_tags_of F__law_tags_of.kp b__law_tags_of .nil pass0 (pa_cons (pv 6) pa_nil)))
  (C8.pss_cut (ps_if (PW.pt (pw_or (pt_cmpR op_isnot_bl (pe_call G_is_tree (hr.mono (by omega)) (by rfl) g_is_tree F_is_tree.kp b_is_tree .nil pass0 (pa_cons (pv 3) (pa_cons (pv 6) pa_nil))) pe_bl (nomark _)) (pw_or1 (PW.pt (pw_and (pt_cmpR op_le (pv 7) pe_int (nomark _)) (pw_and1 (pt_cmpR op_ne (pe_call G_size_of (hr.mono (by omega)) (by rfl) g_size_of F_size_of.kp b_size_of .nil pass0 (pa_cons (pv 6) pa_nil)) (pv 7) (nomark _))))))))
   (pss_one (ps_ret pe_bl))
   pss_nil)
  (pss_one (ps_if (pt_cmpR op_ne (pe_callB (call_reprD quiet hr.units) (by rfl) T.n_repr (by decide +kernel) (pa_cons (pe_call G_is_tree (hr.mono (by omega)) (by rfl) g_is_tree F_is_tree.kp b_is_tree .nil pass0 (pa_cons (pv 3) (pa_cons (pe_tup (pa_cons (pe_ix ix_tup (pv 6) pe_int (fun _ _ => rfl)) (pa_cons (pv 6) pa_nil))) pa_nil))) pa_nil)) (pe_callB (call_reprD quiet hr.units) (by rfl) T.n_repr (by decide +kernel) (pa_cons (pe_cmpR (op_in_tup (u65 hr)) (pe_tup (pa_cons (pe_ix ix_tup (pv 6) pe_int (fun _ _ => rfl)) (pa_cons pe_int pa_nil))) (pv 3) rfl) pa_nil)) (nomark _))
   (pss_one (ps_ret pe_bl))
   pss_nil)))))
  (pss_cons (ps_set (i := 8) sc_law.nd rfl (.inl rfl) (pe_cut (pe_lst (pa_cons pe_non (pa_cons pe_bl (pa_cons pe_int (pa_cons pe_str (pa_cons (pe_ix ix_tup (pe_ix ix_tup (pv 3) pe_int (fun _ _ => rfl)) pe_int (fun _ _ => rfl)) (pa_cons (pe_tup pa_nil) (pa_cons (pe_lst pa_nil) (pa_cons pe_dnewK (pa_cons (pe_tup (pa_cons (pe_ix ix_tup (pe_ix ix_tup (pv 3) pe_int (fun _ _ => rfl)) pe_int (fun _ _ => rfl)) pa_nil)) (pa_cons (pv 3) (pa_cons (pe_ix ix_tup (pv 3) pe_int (fun _ _ => rfl)) (pa_cons (pe_tup (pa_cons (pe_tup pa_nil) pa_nil)) (pa_cons (pe_tup (pa_cons pe_str (pa_cons (pe_tup (pa_cons pe_str pa_nil)) pa_nil))) pa_nil))))))))))))))))
  (pss_cons (ps_for PassesOwn.never rfl (pi_range1 (by rfl) T.n_range (pa_cons pe_int pa_nil)) (pg_name (i := 9) sc_law.nd rfl (.inl rfl))
   (pss_one (ps_expr (pe_bm PySem.F.plainAttrs_list PySem.F.slot_list_append PySem.F.type_list_append mt_append (pv 8) (pa_cons (pe_call G__law_bent (hr.mono (by omega)) (by rfl) g__law_bent F__law_bent.kp b__law_bent .nil pass0 (pa_cons (pv 1) (pa_cons (pv 3) (pa_cons (pe_ix ix_list (pv 5) pe_int (fun _ _ => rfl)) pa_nil)))) pa_nil)))))
  (C8.pss_cut (ps_expr (pe_bm PySem.F.plainAttrs_list PySem.F.slot_list_append PySem.F.type_list_append mt_append (pv 8) (pa_cons (pe_ifExp (pt_val (pe_call G__law_is_tree (hr.mono (by omega)) (by rfl) g__law_is_tree F__law_is_tree.kp b__law_is_tree .nil pass0 (pa_cons (pv 3) (pa_cons (pe_ix ix_list (pv 8) (pe_un un_neg pe_int) (fun _ _ => rfl)) pa_nil)))) (pe_call G__law_bent (hr.mono (by omega)) (by rfl) g__law_bent F__law_bent.kp b__law_bent .nil pass0 (pa_cons (pv 1) (pa_cons (pv 3) (pa_cons (pe_ix ix_list (pv 8) (pe_un un_neg pe_int) (fun _ _ => rfl)) pa_nil)))) (pe_tup (pa_cons (pe_ix ix_list (pv 8) (pe_un un_neg pe_int) (fun _ _ => rfl)) pa_nil))) pa_nil)))
  (pss_one (ps_for PassesOwn.never rfl (pi_list (pv 8)) (pg_name (i := 10) sc_law.nd rfl (.inl rfl))
   (pss_cons (ps_set (i := 11) sc_law.nd rfl (.inl rfl) (pe_callB (call_reprD quiet hr.units) (by rfl) T.n_repr (by decide +kernel) (pa_cons (pv 10) pa_nil)))
  (pss_one (ps_if (PW.pt (pw_or (pt_cmpR op_ne (pe_callB (call_reprD quiet hr.units) (by rfl) T.n_repr (by decide +kernel) (pa_cons (pe_call G_is_tree (hr.mono (by omega)) (by rfl) g_is_tree F_is_tree.kp b_is_tree .nil pass0 (pa_cons (pv 3) (pa_cons (pv 10) pa_nil))) pa_nil)) (pe_callB (call_reprD quiet hr.units) (by rfl) T.n_repr (by decide +kernel) (pa_cons (pe_call G__law_is_tree (hr.mono (by omega)) (by rfl) g__law_is_tree F__law_is_tree.kp b__law_is_tree .nil pass0 (pa_cons (pv 3) (pa_cons (pv 10) pa_nil))) pa_nil)) (nomark _)) (pw_or1 (pt_cmpR op_ne (pe_callB (call_reprD quiet hr.units) (by rfl) T.n_repr (by decide +kernel) (pa_cons (pv 10) pa_nil)) (pv 11) (nomark _)))))
   (pss_one (ps_ret pe_bl))
   pss_nil)))))))))))))
  (pss_one (ps_ret pe_bl)))), ?_⟩
    clear G__law_deck_of G__law_below G__law_pick G__law_some_kind G__law_some_tree G__law_leaning G__law_tags_of G_is_tree G_size_of G__law_is_tree G__law_bent D1 D2 D3 D4 D5 D6 D7 D8 D9 Da Db F__law_deck_of F__law_below F__law_pick F__law_some_kind F__law_some_tree F__law_leaning F__law_tags_of F_is_tree F_size_of F__law_is_tree F__law_bent b__law_deck_of b__law_below b__law_pick b__law_some_kind b__law_some_tree b__law_leaning b__law_tags_of b_is_tree b_size_of b__law_is_tree b__law_bent
    refine ⟨_, rfl, a, ns, rfl, hS, hl, fun p c H1 s1 np nc hP1 => ?_⟩
    clear hS s1
    refine ⟨3, rfl, by decide, by decide, for_range (n := 3) (fun i σ H6 => Pot H6 p c ∧ ∃ u2 u3 u4 u5 u6 u7 u8 u9 ua ub : Option V, σ = [some (.ref a), some (.ref p), u2, u3, u4, u5, u6, u7, u8, u9, ua, ub]) ⟨hP1, _, _, _, _, _, _, _, _, _, _, rfl⟩ ?_ ?_⟩
    · rintro i σ H2 hi ⟨hP2, u2, u3, u4, u5, u6, u7, u8, u9, ua, ub, rfl⟩
      -- kind
      refine ⟨_, rfl, _, rfl, by show 4 ≤ sizeLine; decide, fun l1 n1 => ?_⟩
      have s1 := same_upd (o := .lst [.int 2, .int 3, .int 5, .int 8]) n1
      obtain ⟨np1, nc1⟩ := hP2.ne n1
      refine ⟨p, c, l1, _, rfl, hP2.same s1, .inl (.inl upd_same), (fun z => nomatch z), by show 4 < 1073741824; decide, fun H' hb => .inl (.inl (hb.1 _ _ upd_same (Ne.symm np1))), fun x H3 hx hP3 b3 => ?_⟩
      obtain ⟨m, rfl, m2, m8⟩ : ∃ n : Nat, x = .int n ∧ 2 ≤ n ∧ n ≤ 8 := by
        simp only [List.mem_cons, List.not_mem_nil, or_false] at hx
        rcases hx with rfl | rfl | rfl | rfl
        · exact ⟨2, rfl, by decide, by decide⟩
        · exact ⟨3, rfl, by decide, by decide⟩
        · exact ⟨5, rfl, by decide, by decide⟩
        · exact ⟨8, rfl, by decide, by decide⟩
      refine ⟨p, c, m, rfl, hP3, m2, m8, fun ka ks H4 b4 hP4 hk hR => ?_⟩
      -- levels
      refine ⟨_, rfl, by show 5 ≤ sizeLine; decide, fun l2 n2 => ?_⟩
      have s2 := same_upd (o := .lst [.int 1, .int 7, .int 40, .int 90, .int 390]) n2
      obtain ⟨np2, nc2⟩ := hP4.ne n2
      refine ⟨p, c, l2, _, rfl, hP4.same s2, .inl (.inl upd_same), (fun z => nomatch z), by show 5 < 1073741824; decide, fun H' hb => .inl (.inl (hb.1 _ _ upd_same (Ne.symm np2))), fun x H5 hx hP5 b5 => ?_⟩
      obtain ⟨lev, rfl, hlev⟩ : ∃ n : Nat, x = .int n ∧ n ≤ 390 := by
        simp only [List.mem_cons, List.not_mem_nil, or_false] at hx
        rcases hx with rfl | rfl | rfl | rfl | rfl
        · exact ⟨1, rfl, by decide⟩
        · exact ⟨7, rfl, by decide⟩
        · exact ⟨40, rfl, by decide⟩
        · exact ⟨90, rfl, by decide⟩
        · exact ⟨390, rfl, by decide⟩
      have b45 : But p H4 H5 := (hP4.but1 s2).trans b5
      obtain ⟨rs, ok, ek, nok, prk⟩ := hk
      have keepF : ∀ {G G' : Hp}, But p G G' → Pot G p c → G ka = some (.frz ok (.tup (rs.map V.ref))) → G' ka = some (.frz ok (.tup (rs.map V.ref))) := by
        intro G G' b hP e
        refine b.1 _ _ e fun z => ?_
        obtain ⟨L, hL⟩ := hP.p
        rw [z, hL] at e
        cases e
      have ek5 := keepF b45 hP4 ek
      have k5 : TK H4 H5 := tk_but b45 hP4
      have pr5 := prk.keep k5
      -- trees
      refine ⟨_, rfl, _, rfl, _, rfl, p, c, _, rfl, hP5, by decide, by decide, fun dv H6 d0 d1 hP6 b6 => ?_⟩
      have ek6 := keepF b6 hP5 ek5
      have k6 : TK H5 H6 := tk_but b6 hP5
      have pr6 := pr5.keep k6
      refine ⟨p, c, ka, ks, rs, dv, rfl, by omega, hP6, .inr ⟨_, ek6⟩, pr6, hR, fun v1 e1 H7 b7 hP7 hv1 hT1 hS1 hN1 hD1 => ?_⟩
      have ek7 := keepF b7 hP6 ek6
      have k7 : TK H6 H7 := tk_but b7 hP6
      have pr7 := pr6.keep k7
      refine ⟨_, rfl, _, rfl, _, rfl, p, c, ka, ks, rs, lev, rfl, hlev, hP7, .inr ⟨_, ek7⟩, pr7, hR, fun v2 e2 H8 b8 hP8 hv2 hT2 hN2 => ?_⟩
      have ek8 := keepF b8 hP7 ek7
      have k8 : TK H7 H8 := tk_but b8 hP7
      have pr8 := pr7.keep k8
      have hv18 := Da.keep k8 _ _ hT1 hv1
      refine ⟨by show 2 ≤ sizeLine; decide, fun tl ntl => ?_⟩
      have s9 : Same H8 (upd H8 tl (.lst [v1, v2])) := same_upd ntl
      have htl : (upd H8 tl (.lst [v1, v2])) tl = some (.lst [v1, v2]) := upd_same
      generalize upd H8 tl (.lst [v1, v2]) = H9 at s9 htl ⊢
      have hP9 := hP8.same s9
      have ek9 := s9 _ _ ek8
      have pr9 := pr8.same s9
      have tr : ∀ x ∈ [v1, v2], ∃ d, Da H9 x d ∧ treeB ks d = true ∧ nodes d ≤ 4000 := by
        intro x hx
        simp only [List.mem_cons, List.not_mem_nil, or_false] at hx
        rcases hx with rfl | rfl
        · exact ⟨e1, hv18.same s9, hT1, Nat.le_trans hN1 (by decide)⟩
        · exact ⟨e2, hv2.same s9, hT2, hN2⟩
      refine ⟨_, rfl, tl, rfl, ⟨_, .inl (.inl htl)⟩, ?_⟩
      refine for_it (walk_list (xs := [v1, v2])) (fun i σ H10 => Same H9 H10 ∧ ∃ w2 w6 w7 : Option V, σ = [some (.ref a), some (.ref p), w2, some (.ref ka), some (.int lev), some (.ref tl), w6, w7, u8, u9, ua, ub]) ⟨same_rfl H9, _, _, _, rfl⟩ (fun i σ H10 _ h => .inl (.inl (h.1 _ _ htl))) ?_ ?_
      · rintro i x σ H10 H11 hi ⟨s10, w2, w6, w7, rfl⟩ ⟨rfl, ex⟩
        obtain ⟨d, hx, hT, hN⟩ := tr x (List.mem_of_getElem? ex)
        have hx10 := hx.same s10
        refine ⟨_, rfl, ⟨ks, x, d, rfl, hx10, hT, by omega, fun H12 s12 => ?_⟩⟩
        refine ⟨fun σ H => Same H9 H ∧ σ = [some (.ref a), some (.ref p), w2, some (.ref ka), some (.int lev), some (.ref tl), some x, some (.int (tagsN d : Nat)), u8, u9, ua, ub], ?_, ?_⟩
        · have kf : KindF H12 ka ks := ⟨rs, ok, s12 _ _ (s10 _ _ ek9), nok, (pr9.same s10).same s12⟩
          refine ⟨_, rfl, _, rfl, ⟨ka, ks, x, d, rfl, kf, hR.nd, hx10.same s12, by omega, fun H13 s13 => ?_⟩⟩
          rw [hT]
          refine ⟨true, true, rfl, rfl, false, rfl, iteF ?_⟩
          refine ⟨_, rfl, _, _, rfl, rfl, _, rfl, ?_⟩
          by_cases h4 : ((tagsN d : Nat) : Int) ≤ 400
          · rw [decide_eq_true h4]
            refine iteT ?_
            refine ⟨_, rfl, ⟨ks, x, d, rfl, (hx10.same s12).same s13, hT, by omega, fun H14 s14 => ?_⟩⟩
            refine ⟨_, rfl, rfl, false, ne_self _, iteF ?_⟩
            exact ⟨((s10.trans s12).trans s13).trans s14, rfl⟩
          · rw [decide_eq_false h4]
            refine iteF ?_
            refine iteF ?_
            exact ⟨(s10.trans s12).trans s13, rfl⟩
        · rintro σ H13 ⟨s13, rfl⟩
          obtain ⟨b, z, xs, ds, rfl, rfl, eb, hxs, mem, hall⟩ := treeB_tup hT hx
          have zv := (tags_ok _ (hR.all _ mem).1).2
          have eb13 := rd_same eb s13
          refine ⟨_, rfl, _, rfl, b, _, _, .str z, rfl, rfl, .inl eb13, atI_nat (j := 0) rfl, _, rfl, by show 2 ≤ sizeLine; decide, fun t nt => ?_⟩
          have st : Same H13 (upd H13 t (.tup [.str z, .ref b])) := same_upd nt
          have ht : (upd H13 t (.tup [.str z, .ref b])) t = some (.tup [.str z, .ref b]) := upd_same
          generalize upd H13 t (.tup [.str z, .ref b]) = H14 at st ht ⊢
          have s14 := s13.trans st
          have kf : KindF H14 ka ks := ⟨rs, ok, s14 _ _ ek9, nok, pr9.same s14⟩
          have eT : treeB ks (.tuple [.str z, .tuple (.str z :: ds)]) = decide ((z, (1 : Int)) ∈ ks) := by
            have h0 : treeB ks (.tuple [.str z, .tuple (.str z :: ds)]) = (headB ks [.str z, .tuple (.str z :: ds)] && (treeB ks (.tuple (.str z :: ds)) && true)) := by simp only [treeB, tailB, allB]
            rw [h0, hT]
            simp [headB]
          refine ⟨ka, ks, .ref t, .tuple [.str z, .tuple (.str z :: ds)], rfl, kf, hR.nd, .tup (.inl ht) (.cons (.str z) (.cons (hx.same s14) .nil)), ?_, fun H15 s15 => ?_⟩
          · simp only [nodes, nodesL] at hN ⊢
            omega
          rw [eT]
          refine rp_bl ?_
          have s915 := s14.trans s15
          refine ⟨_, rfl, b, _, _, .str z, rfl, rfl, .inl (rd_same eb s915), atI_nat (j := 0) rfl, by show 2 ≤ sizeLine; decide, fun t2 nt2 => ?_⟩
          have s16 : Same H15 (upd H15 t2 (.tup [.str z, .int 1])) := same_upd nt2
          have ht2 : (upd H15 t2 (.tup [.str z, .int 1])) t2 = some (.tup [.str z, .int 1]) := upd_same
          generalize upd H15 t2 (.tup [.str z, .int 1]) = H16 at s16 ht2 ⊢
          have s916 := s915.trans s16
          refine ⟨_, rfl, .tuple [.str z, .int 1], dPairs ks, .tup (.inl (.inl ht2)) (.cons (.str z) (.cons (.int 1) .nil)), .tup (.inl (.inr ⟨_, s916 _ _ ek9⟩)) (dp_prs (pr9.same s916)), sh_pair zv 1, sh_pairs fun q hq => (hR.all q hq).1, ?_⟩
          rw [any_pair]
          refine rp_bl ?_
          refine ⟨rfl, false, ne_self _, iteF ?_⟩
          exact ⟨s916, _, _, _, rfl⟩
      · rintro σ H10 ⟨s10, w2, w6, w7, rfl⟩
        have hP10 := hP9.same s10
        have ek10 := s10 _ _ ek9
        have pr10 := pr9.same s10
        have htl10 := s10 _ _ htl
        have hv10 := (hv18.same s9).same s10
        obtain ⟨q00, m00, _⟩ := hR.leaf
        have lk : 0 < ks.length := List.length_pos_of_mem m00
        have lr := pr10.length
        have hr0 : rs[0]? = some rs[0] := List.getElem?_eq_getElem (by omega)
        obtain ⟨q0, hq0, er0⟩ := pr10.get hr0
        have m0 : q0 ∈ ks := List.mem_of_getElem? hq0
        generalize rs[0] = r0 at hr0 er0
        have at0 : atI (rs.map V.ref) 0 = some (.ref r0) := atI_nat (j := 0) (by rw [List.getElem?_map, hr0]; rfl)
        obtain ⟨sm1, sm2, _⟩ := rk_sm hR m0
        -- values
        refine ⟨fun v H' => ∃ l xs, v = .ref l ∧ Same H10 H' ∧ (∀ x ∈ xs, Gd [p, l] 200 8 H' x) ∧ xs.length = 13 ∧ H10 l = none ∧ H' l = some (.lst xs), ?_, ?_⟩
        · refine ⟨_, rfl, ka, _, _, .ref r0, rfl, rfl, .inl (.inr ⟨_, ek10⟩), at0, r0, _, _, .str q0.1, rfl, rfl, .inl er0, atI_nat (j := 0) rfl, by show 0 ≤ sizeLine; decide, fun t1 n1 => ?_⟩
          have x1 : Same H10 (upd H10 t1 (.tup [])) := same_upd n1
          have y1 : (upd H10 t1 (.tup [])) t1 = some (.tup []) := upd_same
          generalize upd H10 t1 (.tup []) = G1 at x1 y1 ⊢
          refine ⟨by show 0 ≤ sizeLine; decide, fun t2 n2 => ?_⟩
          have x2 : Same G1 (upd G1 t2 (.lst [])) := same_upd n2
          have y2 : (upd G1 t2 (.lst [])) t2 = some (.lst []) := upd_same
          generalize upd G1 t2 (.lst []) = G2 at x2 y2 ⊢
          intro t3 n3
          have x3 : Same G2 (upd G2 t3 (.dK [])) := same_upd n3
          have y3 : (upd G2 t3 (.dK [])) t3 = some (.dK []) := upd_same
          generalize upd G2 t3 (.dK []) = G3 at x3 y3 ⊢
          have z3 := (x1.trans x2).trans x3
          refine ⟨_, rfl, ka, _, _, .ref r0, rfl, rfl, .inl (.inr ⟨_, z3 _ _ ek10⟩), at0, r0, _, _, .str q0.1, rfl, rfl, .inl (rd_same er0 z3), atI_nat (j := 0) rfl, by show 1 ≤ sizeLine; decide, fun t4 n4 => ?_⟩
          have x4 : Same G3 (upd G3 t4 (.tup [.str q0.1])) := same_upd n4
          have y4 : (upd G3 t4 (.tup [.str q0.1])) t4 = some (.tup [.str q0.1]) := upd_same
          generalize upd G3 t4 (.tup [.str q0.1]) = G4 at x4 y4 ⊢
          have z4 := z3.trans x4
          refine ⟨_, rfl, _, rfl, ka, _, _, .ref r0, rfl, rfl, .inl (.inr ⟨_, z4 _ _ ek10⟩), at0, by show 0 ≤ sizeLine; decide, fun t5 n5 => ?_⟩
          have x5 : Same G4 (upd G4 t5 (.tup [])) := same_upd n5
          have y5 : (upd G4 t5 (.tup [])) t5 = some (.tup []) := upd_same
          generalize upd G4 t5 (.tup []) = G5 at x5 y5 ⊢
          refine ⟨by show 1 ≤ sizeLine; decide, fun t6 n6 => ?_⟩
          have x6 : Same G5 (upd G5 t6 (.tup [.ref t5])) := same_upd n6
          have y6 : (upd G5 t6 (.tup [.ref t5])) t6 = some (.tup [.ref t5]) := upd_same
          generalize upd G5 t6 (.tup [.ref t5]) = G6 at x6 y6 ⊢
          refine ⟨by show 1 ≤ sizeLine; decide, fun t7 n7 => ?_⟩
          have x7 : Same G6 (upd G6 t7 (.tup [.str "leaf"])) := same_upd n7
          have y7 : (upd G6 t7 (.tup [.str "leaf"])) t7 = some (.tup [.str "leaf"]) := upd_same
          generalize upd G6 t7 (.tup [.str "leaf"]) = G7 at x7 y7 ⊢
          refine ⟨by show 2 ≤ sizeLine; decide, fun t8 n8 => ?_⟩
          have x8 : Same G7 (upd G7 t8 (.tup [.str "leaf", .ref t7])) := same_upd n8
          have y8 : (upd G7 t8 (.tup [.str "leaf", .ref t7])) t8 = some (.tup [.str "leaf", .ref t7]) := upd_same
          generalize upd G7 t8 (.tup [.str "leaf", .ref t7]) = G8 at x8 y8 ⊢
          have z8 : Same H10 G8 := (((z4.trans x5).trans x6).trans x7).trans x8
          refine ⟨by show 13 ≤ sizeLine; decide, fun l nl => ?_⟩
          refine ⟨l, _, rfl, z8.trans (same_upd nl), ?_, rfl, z8.free nl, upd_same⟩
          have dk8 : Dk [p] G8 := fun b hb => by
            rw [List.mem_singleton.mp hb]
            exact (hP10.same z8).p
          have np3 : t3 ∉ [p] := fun z => by
            rw [List.mem_singleton.mp z] at n3
            obtain ⟨L, hL⟩ := (hP10.same (x1.trans x2)).p
            rw [hL] at n3
            cases n3
          have np2 : t2 ∉ [p] := fun z => by
            rw [List.mem_singleton.mp z] at n2
            obtain ⟨L, hL⟩ := (hP10.same x1).p
            rw [hL] at n2
            cases n2
          have w7 := x8
          have w6 := x7.trans w7
          have w5 := x6.trans w6
          have w4 := x5.trans w5
          have w3 := x4.trans w4
          have w2 := x3.trans w3
          have w1 := x2.trans w2
          have rd : ∀ {t : Addr} {ys : List V}, G8 t = some (.tup ys) → Rd (Outs [p] G8) t (.tup ys) := fun e => rd_outs dk8 (.inl e)
          obtain ⟨k1, k2', k3, k4⟩ := kind_sm hR
          have sL : smB (.str "leaf") = true := sm_name ⟨by decide, by decide +kernel⟩
          have all : ∀ x ∈ [V.non, .bl true, .int 1, .str "", .str q0.1, .ref t1, .ref t2, .ref t3, .ref t4, .ref ka, .ref r0, .ref t6, .ref t8], Gd [p] 200 8 G8 x := by
            intro x hx
            simp only [List.mem_cons, List.not_mem_nil, or_false] at hx
            rcases hx with rfl | rfl | rfl | rfl | rfl | rfl | rfl | rfl | rfl | rfl | rfl | rfl | rfl
            · exact ⟨.none, .non, by simp [smB], one2_pur (by simp [pur]), by simp [nodes], by simp [PyData.depth]⟩
            · exact ⟨.bool true, .bl true, by simp [smB], one2_pur (by simp [pur]), by simp [nodes], by simp [PyData.depth]⟩
            · exact ⟨.int 1, .int 1, by simp [smB], one2_pur (by simp [pur]), by simp [nodes], by simp [PyData.depth]⟩
            · exact ⟨.str "", .str _, sm_name ⟨by decide, by decide +kernel⟩, one2_pur (by simp [pur]), by simp [nodes], by simp [PyData.depth]⟩
            · exact ⟨.str q0.1, .str _, sm1, one2_pur (by simp [pur]), by simp [nodes], by simp [PyData.depth]⟩
            · exact ⟨.tuple [], .tup (rd (w1 _ _ y1)) .nil, by simp [smB, smL], one2_pur (by simp [pur, purL]), by simp [nodes, nodesL], by simp [PyData.depth, PyData.depthAll]⟩
            · exact ⟨.list [], .lst (by rw [outs_ne np2]; exact w2 _ _ y2) .nil, by simp [smB, smL], .inr (by simp [PyData.hasDict, PyData.hasDictAll]), by simp [nodes, nodesL], by simp [PyData.depth, PyData.depthAll]⟩
            · exact ⟨.dict [], .dct (by rw [outs_ne np3]; exact w3 _ _ y3), by simp [smB], .inl (by simp [noL]), by simp [nodes], by simp [PyData.depth, PyData.depthKv]⟩
            · exact ⟨.tuple [.str q0.1], .tup (rd (w4 _ _ y4)) (.cons (.str _) .nil), by rw [smB]; simp only [smL, sm1, Bool.and_self], one2_pur (by simp [pur, purL]), by simp [nodes, nodesL], by simp [PyData.depth, PyData.depthAll]⟩
            · exact ⟨_, da_kind dk8 (.inr ⟨_, z8 _ _ ek10⟩) (pr10.same z8), k1, one2_pur k2', Nat.le_trans k3 (by decide), Nat.le_trans k4 (by decide)⟩
            · exact ⟨.tuple [.str q0.1, .int q0.2], .tup (rd_outs dk8 (rd_same er0 z8)) (.cons (.str _) (.cons (.int _) .nil)), by rw [smB]; simp only [smL, sm1, sm2, Bool.and_self], one2_pur (by simp [pur, purL]), by simp [nodes, nodesL], by simp [PyData.depth, PyData.depthAll]⟩
            · exact ⟨.tuple [.tuple []], .tup (rd (w6 _ _ y6)) (.cons (.tup (rd (w5 _ _ y5)) .nil) .nil), by simp [smB, smL], one2_pur (by simp [pur, purL]), by simp [nodes, nodesL], by simp [PyData.depth, PyData.depthAll]⟩
            · exact ⟨.tuple [.str "leaf", .tuple [.str "leaf"]], .tup (rd y8) (.cons (.str _) (.cons (.tup (rd (w7 _ _ y7)) (.cons (.str _) .nil)) .nil)), by rw [smB]; simp only [smL]; rw [smB.eq_def (.tuple _)]; simp only [smL, sL, Bool.and_self], one2_pur (by simp [pur, purL]), by simp [nodes, nodesL], by simp [PyData.depth, PyData.depthAll]⟩
          exact fun x hx => gd_out nl (all x hx)
        · rintro _ H11 ⟨l, xs, rfl, s11, hg, lx, nl, hl⟩
          have hP11 := hP10.same s11
          obtain ⟨npl, ncl⟩ := hP10.ne nl
          have htl11 := s11 _ _ htl10
          have nltl : tl ≠ l := ne_of_none htl10 nl
          have hN1' : nodes e1 ≤ 170 := hN1
          -- for lap in range(8)
          refine ⟨8, rfl, by decide, by decide, for_range (n := 8) (fun j σ H => Pot H p c ∧ H ka = some (.frz ok (.tup (rs.map V.ref))) ∧ Prs H rs ks ∧ H tl = some (.lst [v1, v2]) ∧ Da H v1 e1 ∧ (∃ xs, H l = some (.lst xs) ∧ xs.length = 13 + j ∧ ∀ x ∈ xs, Gd [p, l] 200 8 H x) ∧ ∃ w2 w6 w7 w9 wa wb : Option V, σ = [some (.ref a), some (.ref p), w2, some (.ref ka), some (.int lev), some (.ref tl), w6, w7, some (.ref l), w9, wa, wb]) ⟨hP11, s11 _ _ ek10, pr10.same s11, htl11, hv10.same s11, ⟨xs, hl, lx, hg⟩, _, _, _, _, _, _, rfl⟩ ?_ ?_⟩
          · rintro j σ H12 hj ⟨hP12, ek12, pr12, htl12, hv12, ⟨xs, hl12, lx12, hg12⟩, w2, w6, w7, w9, wa, wb, rfl⟩
            have dk12 : Dk [p, l] H12 := fun b hb => by
              simp only [List.mem_cons, List.not_mem_nil, or_false] at hb
              rcases hb with rfl | rfl
              · exact hP12.p
              · exact ⟨_, hl12⟩
            have hvO : Da (Outs [p, l] H12) v1 e1 := Da.keep (fun _ _ e => rd_outs dk12 e) _ _ hT1 hv12
            refine ⟨_, rfl, .inl ⟨rfl, _, .inl (.inl hl12)⟩, _, rfl, _, rfl, _, rfl, tl, _, _, v1, rfl, rfl, .inl (.inl htl12), atI_nat (j := 0) rfl, [p, l], p, c, ka, ks, rs, v1, e1, rfl, List.mem_cons_self, dk12, hP12, .inr ⟨_, ek12⟩, pr12, hR, hvO, hT1, hS1, by omega, by omega, fun y H13 b13 hP13 hG => ?_⟩
            have hl13 := b13.1 _ _ hl12 (Ne.symm npl)
            have hk13 : TK H12 H13 := tk_but b13 hP12
            have hkU : TK H13 (upd H13 l (.lst (xs ++ [y]))) := tk_upd hl13
            have eO : Outs [p, l] (upd H13 l (.lst (xs ++ [y]))) = Outs [p, l] H13 := outs_upd (by simp)
            have ekl : ka ≠ l := fun z => by
              rw [z, hl12] at ek12
              cases ek12
            have htp : tl ≠ p := fun z => (hP8.ne ntl).1 z.symm
            refine ⟨l, xs, _, rfl, rfl, hl13, ?_, ?_⟩
            · exact small1000 (by omega)
            refine ⟨hP13.upd npl ncl, ?_, (pr12.keep hk13).keep hkU, ?_, Da.keep (hk13.trans hkU) _ _ hT1 hv12, ⟨xs ++ [y], upd_same, ?_, ?_⟩, _, _, _, _, _, _, rfl⟩
            · rw [upd_ne ekl]
              exact keepF b13 hP12 ek12
            · rw [upd_ne nltl]
              exact b13.1 _ _ htl12 htp
            · rw [List.length_append, List.length_singleton]
              omega
            · intro x hx
              rcases List.mem_append.mp hx with hx | hx
              · obtain ⟨d, g1, g2⟩ := (hg12 x hx).but List.mem_cons_self b13
                exact ⟨d, by rw [eO]; exact g1, g2⟩
              · rw [List.mem_singleton.mp hx]
                obtain ⟨d, g1, g2⟩ := hG.le (N' := 200) (M' := 8) (by omega) (by omega)
                exact ⟨d, by rw [eO]; exact g1, g2⟩
          · rintro σ H12 ⟨hP12, ek12, pr12, htl12, hv12, ⟨xs, hl12, lx12, hg12⟩, w2, w6, w7, w9, wa, wb, rfl⟩
            have ekl : ka ≠ l := fun z => by
              rw [z, hl12] at ek12
              cases ek12
            obtain ⟨xs0, last, rfl⟩ : ∃ xs0 last, xs = xs0 ++ [last] := ⟨xs.dropLast, xs.getLast (fun z => by rw [z] at lx12; cases lx12), (List.dropLast_concat_getLast _).symm⟩
            -- values.append(.. if .. else ..)
            refine ⟨fun σ H => Pot H p c ∧ H ka = some (.frz ok (.tup (rs.map V.ref))) ∧ Prs H rs ks ∧ (∃ xs, H l = some (.lst xs) ∧ ∀ x ∈ xs, Gd [p, l] 300 12 H x) ∧ ∃ w2 w6 w7 w9 wa wb : Option V, σ = [some (.ref a), some (.ref p), w2, some (.ref ka), some (.int lev), some (.ref tl), w6, w7, some (.ref l), w9, wa, wb], ?_, ?_⟩
            · obtain ⟨d, g1, g2, g3, g4, g5⟩ := hg12 last (by simp)
              have fin : ∀ (y : V) (H14 : Hp), H14 l = some (.lst (xs0 ++ [last])) → Pot H14 p c → H14 ka = some (.frz ok (.tup (rs.map V.ref))) → Prs H14 rs ks → (∀ x ∈ xs0 ++ [last], Gd [p, l] 200 8 H14 x) → Gd [p, l] 300 12 H14 y → (xs0 ++ [last]).length < sizeLine ∧ Pot (upd H14 l (.lst (xs0 ++ [last] ++ [y]))) p c ∧ (upd H14 l (.lst (xs0 ++ [last] ++ [y]))) ka = some (.frz ok (.tup (rs.map V.ref))) ∧ Prs (upd H14 l (.lst (xs0 ++ [last] ++ [y]))) rs ks ∧ ∃ xs, (upd H14 l (.lst (xs0 ++ [last] ++ [y]))) l = some (.lst xs) ∧ ∀ x ∈ xs, Gd [p, l] 300 12 (upd H14 l (.lst (xs0 ++ [last] ++ [y]))) x := by
                intro y H14 h1 h2 h3 h4 h5 h6
                have eO : Outs [p, l] (upd H14 l (.lst (xs0 ++ [last] ++ [y]))) = Outs [p, l] H14 := outs_upd (by simp)
                refine ⟨small1000 (by omega), h2.upd npl ncl, by rw [upd_ne ekl]; exact h3, h4.keep (tk_upd h1), _, upd_same, fun x hx => ?_⟩
                rcases List.mem_append.mp hx with hx | hx
                · obtain ⟨d, f1, f2⟩ := (h5 x hx).le (N' := 300) (M' := 12) (by decide) (by decide)
                  exact ⟨d, by rw [eO]; exact f1, f2⟩
                · rw [List.mem_singleton.mp hx]
                  obtain ⟨d, f1, f2⟩ := h6
                  exact ⟨d, by rw [eO]; exact f1, f2⟩
              refine ⟨_, rfl, .inl ⟨rfl, _, .inl (.inl hl12)⟩, ?_⟩
              refine ⟨_, rfl, _, rfl, _, rfl, l, _, _, last, rfl, rfl, .inl (.inl hl12), at_last _ _, ka, ks, rs, last, d, rfl, .inr ⟨_, ek12⟩, pr12, hR, g1.same outs_sub, g2, by omega, by omega, fun H13 s13 => ?_⟩
              refine ⟨treeB ks d, rfl, ?_⟩
              have hl13 := s13 _ _ hl12
              have hP13 := hP12.same s13
              have ek13 := s13 _ _ ek12
              have pr13 := pr12.same s13
              have hg13 : ∀ x ∈ xs0 ++ [last], Gd [p, l] 200 8 H13 x := fun x hx => (hg12 x hx).same s13
              cases hd : treeB ks d with
              | true =>
                refine iteT ?_
                have dk13 : Dk [p, l] H13 := fun b hb => by
                  simp only [List.mem_cons, List.not_mem_nil, or_false] at hb
                  rcases hb with rfl | rfl
                  · exact hP13.p
                  · exact ⟨_, hl13⟩
                refine ⟨_, rfl, _, rfl, _, rfl, _, rfl, l, _, _, last, rfl, rfl, .inl (.inl hl13), at_last _ _, [p, l], p, c, ka, ks, rs, last, d, rfl, List.mem_cons_self, dk13, hP13, .inr ⟨_, ek13⟩, pr13, hR, g1.same (outs_same s13), hd, g2, by omega, by omega, fun y H14 b14 hP14 hG => ?_⟩
                have hl14 := b14.1 _ _ hl13 (Ne.symm npl)
                obtain ⟨r1, r2, r3, r4, r5⟩ := fin y H14 hl14 hP14 (keepF b14 hP13 ek13) (pr13.keep (tk_but b14 hP13)) (fun x hx => (hg13 x hx).but List.mem_cons_self b14) (hG.le (by omega) (by omega))
                exact ⟨l, _, _, rfl, rfl, hl14, r1, r2, r3, r4, r5, _, _, _, _, _, _, rfl⟩
              | false =>
                refine iteF ?_
                refine ⟨_, rfl, _, rfl, l, _, _, last, rfl, rfl, .inl (.inl hl13), at_last _ _, by show 1 ≤ sizeLine; decide, fun t nt => ?_⟩
                have st : Same H13 (upd H13 t (.tup [last])) := same_upd nt
                have ht : (upd H13 t (.tup [last])) t = some (.tup [last]) := upd_same
                generalize upd H13 t (.tup [last]) = H14 at st ht ⊢
                have hl14 := st _ _ hl13
                have hP14 := hP13.same st
                have dk14 : Dk [p, l] H14 := fun b hb => by
                  simp only [List.mem_cons, List.not_mem_nil, or_false] at hb
                  rcases hb with rfl | rfl
                  · exact hP14.p
                  · exact ⟨_, hl14⟩
                obtain ⟨r1, r2, r3, r4, r5⟩ := fin (.ref t) H14 hl14 hP14 (st _ _ ek13) (pr13.same st) (fun x hx => (hg13 x hx).same st) ⟨.tuple [d], .tup (rd_outs dk14 (.inl ht)) (.cons (g1.same (outs_same (s13.trans st))) .nil), by simp only [smB, smL, g2, Bool.and_self], by
                  rcases g3 with e | e
                  · exact .inl (by simp only [noL, noLs, e, Bool.and_self])
                  · exact .inr (by simp only [PyData.hasDict, PyData.hasDictAll, e, Bool.or_self]), by simp only [nodes, nodesL]; omega, by simp only [PyData.depth, PyData.depthAll]; omega⟩
                exact ⟨l, _, _, rfl, rfl, hl14, r1, r2, r3, r4, r5, _, _, _, _, _, _, rfl⟩
            · rintro σ H13 ⟨hP13, ek13, pr13, ⟨ys, hl13, hg13⟩, w2, w6, w7, w9, wa, wb, rfl⟩
              -- for value in values
              refine ⟨_, rfl, l, rfl, ⟨_, .inl (.inl hl13)⟩, ?_⟩
              refine for_it (walk_list (xs := ys)) (fun i σ H => Same H13 H ∧ ∃ wa wb : Option V, σ = [some (.ref a), some (.ref p), w2, some (.ref ka), some (.int lev), some (.ref tl), w6, w7, some (.ref l), w9, wa, wb]) ⟨same_rfl H13, _, _, rfl⟩ (fun i σ H _ h => .inl (.inl (h.1 _ _ hl13))) ?_ ?_
              · rintro i x σ H14 H15 hi ⟨s14, wa, wb, rfl⟩ ⟨rfl, ex⟩
                obtain ⟨d, hx, g2, g3, g4, g5⟩ := ((hg13 x (List.mem_of_getElem? ex)).same s14).da
                refine ⟨_, rfl, rp_gd (Ls := [p]) (N := 0) (M := 0) hx g2 g3 (by omega) (by omega) ?_⟩
                have kf : ∀ {G : Hp}, Same H13 G → KindF G ka ks := fun s => ⟨rs, ok, s _ _ ek13, nok, pr13.same s⟩
                refine ⟨_, rfl, _, rfl, ⟨ka, ks, x, d, rfl, kf s14, hR.nd, hx, by omega, fun H16 s16 => ?_⟩⟩
                refine rp_bl ?_
                have s1316 := s14.trans s16
                refine ⟨_, rfl, _, rfl, ⟨ka, ks, rs, x, d, rfl, .inr ⟨_, s1316 _ _ ek13⟩, pr13.same s1316, hR, hx.same s16, g2, by omega, by omega, fun H17 s17 => ?_⟩⟩
                refine rp_bl ?_
                refine ⟨rfl, false, ne_self _, iteF ?_⟩
                refine ⟨_, rfl, rp_gd (Ls := [p]) (N := 0) (M := 0) ((hx.same s16).same s17) g2 g3 (by omega) (by omega) ?_⟩
                refine ⟨_, rfl, rfl, false, ne_self _, iteF ?_⟩
                exact ⟨s1316.trans s17, _, _, rfl⟩
              · rintro σ H14 ⟨s14, wa, wb, rfl⟩
                exact ⟨hP13.same s14, _, _, _, _, _, _, _, _, _, _, rfl⟩
    · rintro σ H6 ⟨hP6, u2, u3, u4, u5, u6, u7, u8, u9, ua, ub, rfl⟩
      exact q H6
end
end My

namespace My
open PySem PySem.Spec PyProof.Rows L2
/-! ### the facts of the text -/
section
variable {P : Program} {w : World} {K : PySem.W.Frag} {mg : Str → Option Value} {base : Heap}
/-- a def as the top has written it -/
structure DefK (K : PySem.W.Frag) (mg : Str → Option Value) (x : Str) (st : Stmt) (f : Addr) (fd : FuncData) : Prop where
  g : mg x = some (.ref f)
  F : Fun K x x st f fd
theorem def_mk {h : Heap} {x : Str} {st : Stmt} {f : Addr} {oc : Value} {od an : Option Addr} {osl : Array (Option Value)} {kV doc pm cdv ct : Value} (X : K.In h) (G : h.Ns mainGlobals mg) (g : PySem.W.nsIn K mainGlobals x = some (some (.ref f)))
    (l : K.lookup f = some ⟨oc, od, .func (PySem.W.fnOf x x (defArgs st) (defBody st) (defScope st) .none kV doc pm an cdv ct), osl⟩) (c : PySem.W.codeIn K cdv x = true) (k : PySem.W.keepIn K (.ref f) = true) : DefK K mg x st f (PySem.W.fnOf x x (defArgs st) (defBody st) (defScope st) .none kV doc pm an cdv ct) := ⟨PySem.W.mg_of X G g, fun_mk l c k⟩
theorem all_mk {h : Heap} {f_law_mixed f_law_deck_of f_law_below f_law_pick f_has_tag f_is_tree f_nodes_ahead f_size_of_forest f_size_of f_law_tags_of f_law_some_kind f_law_some_tree f_law_leaning f_law_is_tree f_law_bent f_law : Addr} {fd_law_mixed fd_law_deck_of fd_law_below fd_law_pick fd_has_tag fd_is_tree fd_nodes_ahead fd_size_of_forest fd_size_of fd_law_tags_of fd_law_some_kind fd_law_some_tree fd_law_leaning fd_law_is_tree fd_law_bent fd_law : FuncData} {fa : Addr} (X : K.In h) (G : h.Ns mainGlobals mg) (hfa : mg "law" = some (.ref fa))
    (d_law_mixed : DefK K mg "_law_mixed" s_law_mixed f_law_mixed fd_law_mixed)
    (d_law_deck_of : DefK K mg "_law_deck_of" s_law_deck_of f_law_deck_of fd_law_deck_of)
    (d_law_below : DefK K mg "_law_below" s_law_below f_law_below fd_law_below)
    (d_law_pick : DefK K mg "_law_pick" s_law_pick f_law_pick fd_law_pick)
    (d_has_tag : DefK K mg "has_tag" s_has_tag f_has_tag fd_has_tag)
    (d_is_tree : DefK K mg "is_tree" s_is_tree f_is_tree fd_is_tree)
    (d_nodes_ahead : DefK K mg "nodes_ahead" s_nodes_ahead f_nodes_ahead fd_nodes_ahead)
    (d_size_of_forest : DefK K mg "size_of_forest" s_size_of_forest f_size_of_forest fd_size_of_forest)
    (d_size_of : DefK K mg "size_of" s_size_of f_size_of fd_size_of)
    (d_law_tags_of : DefK K mg "_law_tags_of" s_law_tags_of f_law_tags_of fd_law_tags_of)
    (d_law_some_kind : DefK K mg "_law_some_kind" s_law_some_kind f_law_some_kind fd_law_some_kind)
    (d_law_some_tree : DefK K mg "_law_some_tree" s_law_some_tree f_law_some_tree fd_law_some_tree)
    (d_law_leaning : DefK K mg "_law_leaning" s_law_leaning f_law_leaning fd_law_leaning)
    (d_law_is_tree : DefK K mg "_law_is_tree" s_law_is_tree f_law_is_tree fd_law_is_tree)
    (d_law_bent : DefK K mg "_law_bent" s_law_bent f_law_bent fd_law_bent)
    (d_law : DefK K mg "law" s_law f_law fd_law)
    (b_law_mixed : Binds K fd_law_mixed ["number", "lap"] [])
    (b_law_deck_of : Binds K fd_law_deck_of ["script"] [])
    (b_law_below : Binds K fd_law_below ["deck", "bound"] [])
    (b_law_pick : Binds K fd_law_pick ["deck", "some"] [])
    (b_has_tag : Binds K fd_has_tag ["numbers", "thing"] [])
    (b_is_tree : Binds K fd_is_tree ["kind", "thing"] [])
    (b_nodes_ahead : Binds K fd_nodes_ahead ["patterns"] [])
    (b_size_of_forest : Binds K fd_size_of_forest ["trees"] [])
    (b_size_of : Binds K fd_size_of ["tree"] [])
    (b_law_tags_of : Binds K fd_law_tags_of ["tree"] [])
    (b_law_some_kind : Binds K fd_law_some_kind ["deck", "most"] [])
    (b_law_some_tree : Binds K fd_law_some_tree ["deck", "kind", "deep"] [])
    (b_law_leaning : Binds K fd_law_leaning ["deck", "kind", "levels"] [])
    (b_law_is_tree : Binds K fd_law_is_tree ["kind", "thing"] [])
    (b_law_bent : Binds K fd_law_bent ["deck", "kind", "tree"] [])
    (b_law : Binds K fd_law ["script"] [])
    (n_int : PySem.W.nsIn K mainGlobals "int" = some none)
    (n_range : PySem.W.nsIn K mainGlobals "range" = some none)
    (n_abs : PySem.W.nsIn K mainGlobals "abs" = some none)
    (n_enumerate : PySem.W.nsIn K mainGlobals "enumerate" = some none)
    (n_len : PySem.W.nsIn K mainGlobals "len" = some none)
    (n_isinstance : PySem.W.nsIn K mainGlobals "isinstance" = some none)
    (n_tuple : PySem.W.nsIn K mainGlobals "tuple" = some none)
    (n_str : PySem.W.nsIn K mainGlobals "str" = some none)
    (n_dict : PySem.W.nsIn K mainGlobals "dict" = some none)
    (n_list : PySem.W.nsIn K mainGlobals "list" = some none)
    (n_repr : PySem.W.nsIn K mainGlobals "repr" = some none)
    (bindL : ∀ (s : Shared) (v : Value), BindsTo s fd_law ⟨[v], []⟩ [("script", v)]) :
    ∃ fd : FuncData, (∀ (s : Shared) (v : Value), BindsTo s fd ⟨[v], []⟩ [("script", v)]) ∧ ∀ base : Heap, K.In base → base.Ns mainGlobals mg → FnG P w K mg base CX0 22 fa fd ["script"] (spLaw K) := by
  have e := hfa.symm.trans d_law.g
  cases e
  refine ⟨fd_law, bindL, fun base _ _ => ?_⟩
  have TD : TxtD mg := { n_int := PySem.W.mg_none_of X G n_int, n_range := PySem.W.mg_none_of X G n_range, n_abs := PySem.W.mg_none_of X G n_abs, n_enumerate := PySem.W.mg_none_of X G n_enumerate, n_len := PySem.W.mg_none_of X G n_len }
  have TT : TxtT mg := { n_isinstance := PySem.W.mg_none_of X G n_isinstance, n_tuple := PySem.W.mg_none_of X G n_tuple, n_len := PySem.W.mg_none_of X G n_len, n_str := PySem.W.mg_none_of X G n_str, n_dict := PySem.W.mg_none_of X G n_dict, n_list := PySem.W.mg_none_of X G n_list, n_int := PySem.W.mg_none_of X G n_int }
  have TM : TxtM mg := { n_range := PySem.W.mg_none_of X G n_range, n_len := PySem.W.mg_none_of X G n_len, n_tuple := PySem.W.mg_none_of X G n_tuple }
  have TB : TxtB mg := { n_len := PySem.W.mg_none_of X G n_len, n_list := PySem.W.mg_none_of X G n_list }
  have TI : TxtI mg := { n_repr := PySem.W.mg_none_of X G n_repr, n_range := PySem.W.mg_none_of X G n_range }
  have G_law_deck_of := ok_deck_of (P := P) (w := w) (base := base) (k := 0) d_law_deck_of.F TD
  have G_law_below := ok_below (P := P) (w := w) (base := base) (k := 0) d_law_below.F TD d_law_mixed.F b_law_mixed d_law_mixed.g
  have G_law_pick := ok_pick (P := P) (w := w) (base := base) (k := 0) d_law_pick.F TD d_law_below.F b_law_below d_law_below.g G_law_below
  have G_is_tree := ok_is_tree (P := P) (w := w) (base := base) (k := 0) d_is_tree.F TT d_has_tag.F b_has_tag d_has_tag.g
  have G_nodes_ahead := ok_ahead (P := P) (w := w) (base := base) (k := 0) d_nodes_ahead.F TT
  have G_size_of_forest := ok_forest (P := P) (w := w) (base := base) (k := 0) d_size_of_forest.F TT d_nodes_ahead.F b_nodes_ahead d_nodes_ahead.g G_nodes_ahead
  have G_size_of := ok_size_of (P := P) (w := w) (base := base) (k := 0) d_size_of.F d_size_of_forest.F b_size_of_forest d_size_of_forest.g G_size_of_forest
  have G_law_tags_of := ok_tags_of (P := P) (w := w) (base := base) (k := 0) d_law_tags_of.F TT
  have G_law_some_kind := ok_some_kind (P := P) (w := w) (base := base) (k := 0) d_law_some_kind.F TM d_law_below.F b_law_below d_law_below.g G_law_below d_law_pick.F b_law_pick d_law_pick.g G_law_pick
  have G_law_some_tree := ok_some_tree (P := P) (w := w) (base := base) d_law_some_tree.F TM d_law_pick.F b_law_pick d_law_pick.g G_law_pick b_law_some_tree d_law_some_tree.g 3
  have G_law_leaning := ok_leaning (P := P) (w := w) (base := base) (k := 0) d_law_leaning.F TM d_law_below.F b_law_below d_law_below.g G_law_below d_law_pick.F b_law_pick d_law_pick.g G_law_pick
  have G_law_is_tree := ok_law_tree (P := P) (w := w) (base := base) d_law_is_tree.F TT b_law_is_tree d_law_is_tree.g 20
  have G_law_bent := ok_bent (P := P) (w := w) (base := base) d_law_bent.F TB d_law_below.F b_law_below d_law_below.g G_law_below d_law_pick.F b_law_pick d_law_pick.g G_law_pick b_law_bent d_law_bent.g 10
  exact go_law d_law.F TI ⟨d_law_deck_of.F, b_law_deck_of, d_law_deck_of.g, G_law_deck_of⟩ ⟨d_law_below.F, b_law_below, d_law_below.g, G_law_below⟩ ⟨d_law_pick.F, b_law_pick, d_law_pick.g, G_law_pick⟩ ⟨d_law_some_kind.F, b_law_some_kind, d_law_some_kind.g, G_law_some_kind⟩ ⟨d_law_some_tree.F, b_law_some_tree, d_law_some_tree.g, G_law_some_tree⟩ ⟨d_law_leaning.F, b_law_leaning, d_law_leaning.g, G_law_leaning⟩ ⟨d_law_tags_of.F, b_law_tags_of, d_law_tags_of.g, G_law_tags_of⟩ ⟨d_is_tree.F, b_is_tree, d_is_tree.g, G_is_tree⟩ ⟨d_size_of.F, b_size_of, d_size_of.g, G_size_of⟩ ⟨d_law_is_tree.F, b_law_is_tree, d_law_is_tree.g, G_law_is_tree⟩ ⟨d_law_bent.F, b_law_bent, d_law_bent.g, G_law_bent⟩
end
end My

open PySem PySem.W PyProof.Rows
theorem PySem.Challenge.cw_layoutswap_k30_trees_recognized_holds : PySem.Challenge.rw_layoutswap_k30_trees_recognized.Holds := by
  w_on; o_law; k_head; (case hw => w_witness2)
  k_fill
  refine My.walk_ofG (l := PySem.Challenge.rw_layoutswap_k30_trees_recognized) (n := 63) (k := 22) (x := "script") (sp := My.spLaw) rfl (by decide) rfl ⟨rfl, by decide, by decide⟩ (fun w h Y => PySem.W.kIn_of Y) ?F (fun K H a ns hl hS => ⟨a, ns, rfl, hS, Nat.le_trans hl (by decide), fun _ => rfl⟩)
  case F =>
    intro w mg fa h KX G hmg
    refine' My.all_mk KX G hmg ?d_law_mixed ?d_law_deck_of ?d_law_below ?d_law_pick ?d_has_tag ?d_is_tree ?d_nodes_ahead ?d_size_of_forest ?d_size_of ?d_law_tags_of ?d_law_some_kind ?d_law_some_tree ?d_law_leaning ?d_law_is_tree ?d_law_bent ?d_law ?b_law_mixed ?b_law_deck_of ?b_law_below ?b_law_pick ?b_has_tag ?b_is_tree ?b_nodes_ahead ?b_size_of_forest ?b_size_of ?b_law_tags_of ?b_law_some_kind ?b_law_some_tree ?b_law_leaning ?b_law_is_tree ?b_law_bent ?b_law ?n_int ?n_range ?n_abs ?n_enumerate ?n_len ?n_isinstance ?n_tuple ?n_str ?n_dict ?n_list ?n_repr ?bindL
    (case d_law_mixed => (refine' My.def_mk KX G ?zzg ?zzl ?zzc ?zzk; (case zzg => k_is); (case zzl => k_is); (case zzc => k_is); (case zzk => k_is)))
    (case d_law_deck_of => (refine' My.def_mk KX G ?zzg ?zzl ?zzc ?zzk; (case zzg => k_is); (case zzl => k_is); (case zzc => k_is); (case zzk => k_is)))
    (case d_law_below => (refine' My.def_mk KX G ?zzg ?zzl ?zzc ?zzk; (case zzg => k_is); (case zzl => k_is); (case zzc => k_is); (case zzk => k_is)))
    (case d_law_pick => (refine' My.def_mk KX G ?zzg ?zzl ?zzc ?zzk; (case zzg => k_is); (case zzl => k_is); (case zzc => k_is); (case zzk => k_is)))
    (case d_has_tag => (refine' My.def_mk KX G ?zzg ?zzl ?zzc ?zzk; (case zzg => k_is); (case zzl => k_is); (case zzc => k_is); (case zzk => k_is)))
    (case d_is_tree => (refine' My.def_mk KX G ?zzg ?zzl ?zzc ?zzk; (case zzg => k_is); (case zzl => k_is); (case zzc => k_is); (case zzk => k_is)))
    (case d_nodes_ahead => (refine' My.def_mk KX G ?zzg ?zzl ?zzc ?zzk; (case zzg => k_is); (case zzl => k_is); (case zzc => k_is); (case zzk => k_is)))
    (case d_size_of_forest => (refine' My.def_mk KX G ?zzg ?zzl ?zzc ?zzk; (case zzg => k_is); (case zzl => k_is); (case zzc => k_is); (case zzk => k_is)))
    (case d_size_of => (refine' My.def_mk KX G ?zzg ?zzl ?zzc ?zzk; (case zzg => k_is); (case zzl => k_is); (case zzc => k_is); (case zzk => k_is)))
    (case d_law_tags_of => (refine' My.def_mk KX G ?zzg ?zzl ?zzc ?zzk; (case zzg => k_is); (case zzl => k_is); (case zzc => k_is); (case zzk => k_is)))
    (case d_law_some_kind => (refine' My.def_mk KX G ?zzg ?zzl ?zzc ?zzk; (case zzg => k_is); (case zzl => k_is); (case zzc => k_is); (case zzk => k_is)))
    (case d_law_some_tree => (refine' My.def_mk KX G ?zzg ?zzl ?zzc ?zzk; (case zzg => k_is); (case zzl => k_is); (case zzc => k_is); (case zzk => k_is)))
    (case d_law_leaning => (refine' My.def_mk KX G ?zzg ?zzl ?zzc ?zzk; (case zzg => k_is); (case zzl => k_is); (case zzc => k_is); (case zzk => k_is)))
    (case d_law_is_tree => (refine' My.def_mk KX G ?zzg ?zzl ?zzc ?zzk; (case zzg => k_is); (case zzl => k_is); (case zzc => k_is); (case zzk => k_is)))
    (case d_law_bent => (refine' My.def_mk KX G ?zzg ?zzl ?zzc ?zzk; (case zzg => k_is); (case zzl => k_is); (case zzc => k_is); (case zzk => k_is)))
    (case d_law => (refine' My.def_mk KX G ?zzg ?zzl ?zzc ?zzk; (case zzg => k_is); (case zzl => k_is); (case zzc => k_is); (case zzk => k_is)))
    (case b_law_mixed => exact .all fun us hl => match us, hl with | [_, _], _ => rfl)
    (case b_law_deck_of => exact .all fun us hl => match us, hl with | [_], _ => rfl)
    (case b_law_below => exact .all fun us hl => match us, hl with | [_, _], _ => rfl)
    (case b_law_pick => exact .all fun us hl => match us, hl with | [_, _], _ => rfl)
    (case b_has_tag => exact .all fun us hl => match us, hl with | [_, _], _ => rfl)
    (case b_is_tree => exact .all fun us hl => match us, hl with | [_, _], _ => rfl)
    (case b_nodes_ahead => exact .all fun us hl => match us, hl with | [_], _ => rfl)
    (case b_size_of_forest => exact .all fun us hl => match us, hl with | [_], _ => rfl)
    (case b_size_of => exact .all fun us hl => match us, hl with | [_], _ => rfl)
    (case b_law_tags_of => exact .all fun us hl => match us, hl with | [_], _ => rfl)
    (case b_law_some_kind => exact .all fun us hl => match us, hl with | [_, _], _ => rfl)
    (case b_law_some_tree => exact .all fun us hl => match us, hl with | [_, _, _], _ => rfl)
    (case b_law_leaning => exact .all fun us hl => match us, hl with | [_, _, _], _ => rfl)
    (case b_law_is_tree => exact .all fun us hl => match us, hl with | [_, _], _ => rfl)
    (case b_law_bent => exact .all fun us hl => match us, hl with | [_, _, _], _ => rfl)
    (case b_law => exact .all fun us hl => match us, hl with | [_], _ => rfl)
    (case n_int => k_is); (case n_range => k_is); (case n_abs => k_is); (case n_enumerate => k_is); (case n_len => k_is); (case n_isinstance => k_is); (case n_tuple => k_is); (case n_str => k_is); (case n_dict => k_is); (case n_list => k_is); (case n_repr => k_is)
    (case bindL => exact fun s v => .of_eq rfl)
