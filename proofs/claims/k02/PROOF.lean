import PyProof.Rows.All
import Wide.All
import OpenK.AllK
import Wide.FinOn
import HandS.ForMost
import HandS.Walk
import HandS.IsInst
import HandS.Codes
import HandS.Strs
import HandS.Dict
import KE.KDictPairs
import HandS.Style
import HandS.TupAny
import KE.KRevSl
import HandS.FStr
import HandS.SetFor
import HandS.TupLe
import PyProof.StrLawsRepr
import PySem.Challenge.RW_layoutswap_k02_kinds
set_option Elab.async false
set_option linter.all false
set_option maxRecDepth 100000
set_option maxHeartbeats 0
namespace My
open PySem PySem.Spec PyProof.Rows L2
/-! ### defs whose run shows containers: nothing is being shown around them -/
structure FnG (P : Program) (w : World) (K : PySem.W.Frag) (mg : Str → Option Value) (base : Heap) (CX : CXT) (k : Nat) (f : Addr) (fd : FuncData) (ps : List Str) (sp : Sp) : Prop where
  many : ∀ vs H Q E, sp vs H Q E → vs.length = ps.length
  go : ∀ {A : Around} {outer : List Env} {s : Shared} {H : Hp} {args : Args} {us : List Value} {vs : List V} {Q : VK} {E : XK}, Room k A → A.guards = some [] → Env0 P w K mg base A outer s H → BindsTo s fd args (ps.zip us) → Vals vs us →
    sp vs H Q E → codeAny (model P w) A (.call (.ref f) args) (CR CX outer P w H s Q E) s
theorem guards_deeper {A : Around} {env : Env} (h : A.guards = some []) : (A.deeper env).guards = some [] := by
  first | exact h | (simp [Around.deeper, h]; done)
section
variable {P : Program} {w : World} {K : PySem.W.Frag} {mg : Str → Option Value} {base : Heap} {CX : CXT} {k : Nat} {f : Addr} {fd : FuncData} {ps : List Str} {sp : Sp}
theorem FnG.of (F : FnOk P w K mg base CX k f fd ps sp) : FnG P w K mg base CX k f fd ps sp :=
  ⟨F.len, fun r _ e b v h => F.run _ _ _ _ _ _ _ _ _ r e b v h⟩
/-- a def by its body, where nothing is being shown -/
theorem go_of {x qual : Str} {st : Stmt} {N : List Str} (F : Fun K x qual st f fd) (S : FnScope N ps (defScope st)) (many : ∀ vs H Q E, sp vs H Q E → vs.length = ps.length)
    (hb : ∀ (cdv : Value) (A : Around) (outer : List Env) (s : Shared) (H : Hp) (vs : List V) (Q : VK) (E : XK), Room k (A.deeper (envOfC qual (defScope st) s.heap.objs.size f cdv)) → (A.deeper (envOfC qual (defScope st) s.heap.objs.size f cdv)).guards = some [] →
      sp vs H Q E → ∃ t, PSs (cxOf CX P w K mg base N qual (defScope st) f cdv A outer s H E) (defBody st) t ∧ t { nx := fun _ H' => Q .non H', rt := Q } (start N vs) H) : FnG P w K mg base CX (k + 1) f fd ps sp := by
  obtain ⟨oc, od, kV, doc, pm, an, cdv, ct, osl, e1, lk, hcd⟩ := F.ex
  subst e1
  refine ⟨many, ?_⟩
  intro A outer s H args us vs Q E room quiet e0 bind rel want
  have inK := e0.mod.kin.keeps (h' := s.heap) (fun b o z => (e0.bs b o z).1)
  have nolim := e0.mod.nolimit.keeps (h' := s.heap) (fun b o z => (e0.bs b o z).1)
  have kinds : ∀ y ∈ ps.zip us, (defScope st).names.lookup y.1 = some .local ∨ ((defScope st).names.lookup y.1 = some .cell ∧ ((cellsFrom (s.heap.objs.size + 1) (defScope st).names []).lookup y.1).isSome = true) := by
    rintro ⟨n, v⟩ hy
    have hn := (List.of_mem_zip hy).1
    cases S.par n hn with
    | inl z => exact Or.inl z
    | inr z => exact Or.inr ⟨z, PySem.W.cellsFrom_some _ _ _ (Or.inl z)⟩
  refine codeAny_call_function room.depth (inK _ _ lk) rfl S.co S.gen rfl (PySem.W.codeRec_of inK hcd) (bind _ _ _ _ (wpAny_newFunctionEnv_cells S.kind kinds ?_))
  rintro env rfl s1 ic
  obtain ⟨t, ht, ready⟩ := hb cdv A outer s H vs Q E (room.deeper _) (guards_deeper quiet) want
  have J : Inv (cxOf CX P w K mg base N qual (defScope st) f cdv A outer s H E) [] (start N vs) H s1 := inv_start S room.hd e0 (many _ _ _ _ want) rel ic
  refine ⟨nolim.keeps ic.toInCall.keep, codeAny_func (wpAny_mono (ht.run [] s1 _ H _ J ready) ?_ (fun _ _ z => z))⟩
  intro fl s' hs
  cases fl with
  | next =>
    obtain ⟨σ', H', J', q⟩ := hs
    exact ⟨V.non, H', J'.os, J'.bare, J'.base, J'.hok, rfl, q⟩
  | ret u =>
    obtain ⟨v, σ', H', J', rv, q⟩ := hs
    exact ⟨v, H', J'.os, J'.bare, J'.base, J'.hok, rv, q⟩
  | brk =>
    obtain ⟨_, _, _, z⟩ := hs
    exact (z : False).elim
  | cont =>
    obtain ⟨_, _, _, z⟩ := hs
    exact (z : False).elim
end
section
variable {X : Cx} {CX : CXT} {k : Nat} {f : Addr} {fd : FuncData} {ps : List Str} {sp : Sp} {dvs : List V} {ds : List Value} {E : XK} {x : Str} {p pos : Pos} {e : Expr} {es : List Expr} {t : TA}
/-- a call of such a def from where nothing is being shown -/
theorem pe_callG (F : FnG X.prog X.w X.K X.mg X.base CX k f fd ps sp) (hr : Room k X.A) (quiet : X.A.guards = some []) (hg : Gl X x) (hm : X.mg x = some (.ref f)) (hk : PySem.W.keepIn X.K (.ref f) = true) (hb : Binds X.K fd ps ds) (hd : Vals dvs ds) (hx : Passes CX X E)
    (ha : PA X (e :: es) t) (hdb : (x == ("__debug__" : Str)) = false := by decide) (he : starEach (e :: es) X.env = (false, eval e X.env) :: starEach es X.env := by rfl) (hpl : (backTo pos (starEach es X.env)).any (·.1) = false := by rfl) :
    PE X (.Call (.Name x p) (e :: es) [] pos) (tCall sp dvs E t) := by
  constructor
  intro pins s σ H Q I h
  have args := ha.run pos pins s σ H _ I h
  refine wpAny_Call_Name_kw (ld_glob I hg hm (PySem.W.callWith_K (h₀ := X.base) I.ok.mod.kin hk (thn args ?_) he hpl) hdb)
  rintro us s1 ⟨vs, H1, J, r, want⟩
  have rel := r.append hd
  refine ⟨J.kIn, wpAny_call (codeAny_mono (F.go (A := X.A) hr quiet J.env0 (hb s1 us J.kIn ?_) rel want) ?_)⟩
  · have z := rel.length
    rw [← z]
    exact F.many _ _ _ _ want
  · intro res s' hq
    match res, hq with
    | .error _, hq => exact hx pins σ H1 s1 _ s' J hq
    | .ok (.ret _), hq => exact J.after hq
    | .ok .next, hq => exact False.elim hq
    | .ok .brk, hq => exact False.elim hq
    | .ok .cont, hq => exact False.elim hq
end
/-! ### repr of data -/
structure rRepr (K : PySem.W.Frag) (xs : List V) (H : Hp) (Q : VK) : Prop where
  ex : ∃ x d, xs = [x] ∧ Dp K H x d ∧ d.showable = true ∧ d.canLay0 = true ∧ d.depth ≤ 60 ∧ d.shown.length ≤ sizeLine ∧ Q (.str d.shown) H
theorem call_repr {X : Cx} (quiet : X.A.guards = some []) (hu : X.A.units + 64 < cLine) : CallR X (.builtin "repr") (rRepr X.K) := by
  intro pins s σ H xs us Q I r h
  obtain ⟨x, d, rfl, hd, h1, h2, h3, h4, q⟩ := h
  obtain ⟨u, rfl, ru⟩ := vals1 r
  cases hd with
  | non =>
    cases (show u = Value.none from ru)
    exact PySem.P.repr_of_none ⟨.str "None", H, I.tok _, ⟨_, rfl⟩, by simpa only [PyData.shown] using q⟩
  | bl b =>
    cases (show u = Value.bool b from ru)
    exact PySem.P.repr_of_bool ⟨.str (if b then "True" else "False"), H, I.tok _, ⟨_, rfl⟩, by simpa only [PyData.shown] using q⟩
  | int i =>
    obtain ⟨tk, rfl⟩ := (show ∃ t, u = Value.int i t from ru)
    exact PySem.P.repr_of_int (by simpa only [PyData.showable, decide_eq_true_eq] using h1) ⟨V.str (Str.ofString (toString i)), H, I.tok _, ⟨_, rfl⟩, by simpa only [PyData.shown] using q⟩
  | str z =>
    obtain ⟨tk, rfl⟩ := (show ∃ t, u = Value.str z t from ru)
    exact PySem.P.repr_of_str ⟨.str (reprText z), H, I.tok _, ⟨_, rfl⟩, by simpa only [PyData.shown] using q⟩ (by simpa only [PyData.shown] using h4)
  | @lst a ys ds hs ha =>
    cases (show u = Value.ref a from ru)
    obtain ⟨as, rd⟩ := Dp.reads I (.list ds) (.ref a) (.ref a) (.lst hs ha) rfl
    exact PySem.repr_of_reads' rd h1 (PyData.noDict_hsm (PyData.hasDict_of_canLay _ h2)) quiet (by omega) (fun _ _ z => z) (fun h' v tk k => ⟨.str (PyData.list ds).shown, H, I.kept k, ⟨_, rfl⟩, q⟩) h4
  | @tup a ys ds hs ha =>
    cases (show u = Value.ref a from ru)
    obtain ⟨as, rd⟩ := Dp.reads I (.tuple ds) (.ref a) (.ref a) (.tup hs ha) rfl
    exact PySem.repr_of_reads' rd h1 (PyData.noDict_hsm (PyData.hasDict_of_canLay _ h2)) quiet (by omega) (fun _ _ z => z) (fun h' v tk k => ⟨.str (PyData.tuple ds).shown, H, I.kept k, ⟨_, rfl⟩, q⟩) h4
/-! ### the law's own call -/
/-- only the script may be tracked -/
def One (H : Hp) (a : Addr) : Prop := ∀ b, H b = none ∨ (b = a ∧ ∃ o xs, H b = some (.frz o (.lst xs)))
section
variable {P : Program} {w : World} {K : PySem.W.Frag} {mg mb : Str → Option Value} {k : Nat} {fa a : Addr} {fd : FuncData} {x : Str} {sp : Sp} {s₁ : Shared} {vs : List Value} {ns : List Int}
/-- a law's def run at its call, from an abstract heap that tracks the script or nothing -/
theorem top_run {H : Hp} (KX : K.In s₁.heap) (hns : s₁.heap.Ns mainGlobals mg) (hb : s₁.heap.Ns builtinsNs mb) (hbb : ∀ y : Str, y ≠ "__name__" → mb y = bootBuiltins y) (hlim : s₁.heap.NoLimit) (hg : s₁.gens = #[])
    (ha : s₁.heap.get? a = some { cls := .type "list", data := .seq vs.toArray }) (hr : Room k callerA) (hbind : ∀ (s : Shared) (u : Value), BindsTo s fd ⟨[u], []⟩ [(x, u)])
    (F : ∀ base : Heap, K.In base → base.Ns mainGlobals mg → FnG P w K mg base CX0 k fa fd [x] sp)
    (one : One H a) (free : H a ≠ none → K.lookup a = none) (ok : HOk P w H s₁.heap) (want : sp [.ref a] H (fun v _ => v = .bl true) fun _ _ _ => False) :
    codeAny (model P w) callerA (.call (.ref fa) ⟨[.ref a], []⟩) (fun r s' => r = .ok (.ret (.bool true)) ∧ OldK s₁.heap s'.heap ∧ s'.os = s₁.os ∧ AllBare s'.gens) s₁ := by
  have not_a : ∀ {b : Addr}, b ≠ a → H b = none := fun {b} n => (one b).elim id fun z => (n z.1).elim
  have seen : ∀ {b : Addr} {o : Obj}, s₁.heap.get? b = some o → H b = none → (hidT s₁.heap H).get? b = some o := hidT_get
  have dict_free : ∀ {b : Addr} {o : Obj} {es : Array DictEntry} {ep : Nat}, s₁.heap.get? b = some o → o.data = .dict es ep → H b = none := by
    intro b o es ep e1 e2
    refine not_a fun z => ?_
    subst z
    cases ha.symm.trans e1
    cases e2
  have keepNs : ∀ {b : Addr} {m : Str → Option Value}, s₁.heap.Ns b m → (hidT s₁.heap H).Ns b m := by
    rintro b m ⟨o, es, ep, e1, e2, e3⟩
    exact ⟨o, es, ep, seen e1 (dict_free e1 e2), e2, e3⟩
  have KB : K.In (hidT s₁.heap H) := by
    intro b o e
    refine seen (KX b o e) ?_
    by_cases z : b = a
    · subst z
      cases q : H b with
      | none => rfl
      | some u =>
        have z2 := free (by rw [q]; exact fun z => nomatch z)
        cases z2.symm.trans e
    · exact not_a z
  obtain ⟨ml, l1, l2⟩ := hlim
  have e0 : Env0 P w K mg (hidT s₁.heap H) callerA [] s₁ H := {
    frames := rfl
    mod := ⟨KB, keepNs hns, ⟨mb, keepNs hb, hbb⟩, ⟨ml, keepNs l1, l2⟩⟩
    bs := fun b o e => of_hidT e
    bsz := Nat.le_of_eq (hidT_size _ _)
    funs := trivial
    frf := fun b z => nomatch z
    hok := ok
    bare := .of_eq hg }
  refine codeAny_mono ((F _ KB (keepNs hns)).go (us := [.ref a]) (vs := [.ref a]) hr rfl e0 (hbind s₁ (.ref a)) (.cons rfl .nil) want) ?_
  intro r s' hq
  match r, hq with
  | .ok (.ret u), hq =>
    obtain ⟨v, H', os, bare, un, ok', rv, q⟩ := hq
    subst q
    cases (show u = Value.bool true from rv)
    refine ⟨rfl, OldK.of_keep ?_, os, bare⟩
    intro b o e
    rcases one b with z | ⟨_, ob, xs, z⟩
    · exact un.keep b o e z (fun z => nomatch z) (fun z => nomatch z)
    · have h1 : s₁.heap.get? b = some ob := (ok b _ z).1
      have h2 : s'.heap.get? b = some ob := (ok' b _ (un.frzs b ob _ z)).1
      rw [← h1.symm.trans e]
      exact h2
  | .ok .next, hq => exact False.elim hq
  | .ok .brk, hq => exact False.elim hq
  | .ok .cont, hq => exact False.elim hq
  | .error _, hq => exact False.elim hq
/-- .. from whatever the script is -/
theorem top_call (KX : K.In s₁.heap) (hns : s₁.heap.Ns mainGlobals mg) (hb : s₁.heap.Ns builtinsNs mb) (hbb : ∀ y : Str, y ≠ "__name__" → mb y = bootBuiltins y) (hlim : s₁.heap.NoLimit) (hg : s₁.gens = #[])
    (ha : s₁.heap.get? a = some { cls := .type "list", data := .seq vs.toArray }) (hi : IntsAre vs ns) (hl : ns.length ≤ sizeLine) (hr : Room k callerA) (hbind : ∀ (s : Shared) (u : Value), BindsTo s fd ⟨[u], []⟩ [(x, u)])
    (F : ∀ base : Heap, K.In base → base.Ns mainGlobals mg → FnG P w K mg base CX0 k fa fd [x] sp)
    (want : ∀ H : Hp, One H a → SqL K H a (ns.map V.int) → sp [.ref a] H (fun v _ => v = .bl true) fun _ _ _ => False) :
    codeAny (model P w) callerA (.call (.ref fa) ⟨[.ref a], []⟩) (fun r s' => r = .ok (.ret (.bool true)) ∧ OldK s₁.heap s'.heap ∧ s'.os = s₁.os ∧ AllBare s'.gens) s₁ := by
  have rv := vals_ints hi
  have len := hi.length
  cases hk : K.lookup a with
  | none =>
    let O : Obj := { cls := .type "list", data := .seq vs.toArray }
    let H : Hp := fun b => if b = a then some (.frz O (.lst (ns.map V.int))) else none
    have Ha : H a = some (.frz O (.lst (ns.map V.int))) := if_pos rfl
    have one : One H a := fun b => by
      by_cases z : b = a
      · exact .inr ⟨z, O, ns.map V.int, if_pos z⟩
      · exact .inl (if_neg z)
    refine top_run KX hns hb hbb hlim hg ha hr hbind F one (fun _ => hk) ?_ (want H one (.inl (.inr ⟨O, Ha⟩)))
    intro b u e
    rcases one b with z | ⟨z, _⟩
    · cases z.symm.trans e
    · subst z
      cases Ha.symm.trans e
      exact ⟨ha, by rw [List.length_map]; exact hl, vs, _, rv, ha⟩
  | some o =>
    cases (KX a o hk).symm.trans ha
    have one : One (fun _ => none) a := fun _ => .inl rfl
    refine top_run KX hns hb hbb hlim hg ha hr hbind F one (fun z => absurd rfl z) (fun _ _ z => nomatch z) (want _ one (.inr ⟨_, vs.toArray, _, hk, rfl, rfl, rfl, ?_, ?_⟩))
    · rw [List.size_toArray, len]
      exact hl
    · simpa using rv
end
/-- the end of a law whose def is FnG -/
theorem walk_ofG {l : PySem.W.OpenLaw} {n k : Nat} {q : Program} {loose : List Str} {XP : (Str → Option Value) → Heap → Prop} {YP : World → Heap → Prop} {d : DefRec} {K : Params → PySem.W.Frag} {sp : PySem.W.Frag → Sp} {x : Str}
    (hn : l.most = some n) (hn2 : n ≤ sizeLine) (hdf : d.params.defaults = []) (hr : Room k callerA) (hY : ∀ (w : World) (h : Heap), YP w h → (K w.params).In h)
    (F : ∀ (w : World) (mg : Str → Option Value) (fa : Addr) (h : Heap), (K w.params).In h → h.Ns mainGlobals mg → mg d.name = some (.ref fa) →
      ∃ fd : FuncData, (∀ (s : Shared) (u : Value), BindsTo s fd ⟨[u], []⟩ [(x, u)]) ∧ ∀ base : Heap, (K w.params).In base → base.Ns mainGlobals mg → FnG l.prog w (K w.params) mg base CX0 k fa fd [x] (sp (K w.params)))
    (want : ∀ (K : PySem.W.Frag) (H : Hp) (a : Addr) (ns : List Int), ns.length ≤ n → SqL K H a (ns.map V.int) → sp K [.ref a] H (fun v _ => v = .bl true) fun _ _ _ => False) :
    PySem.W.WalkO q loose XP YP l.row.toRowW d [] (fun f vs => PySem.call f vs) := by
  refine Att.attach_call hn hdf ?_
  intro w s₀ s₁ mg mb fa o pm cd doc a vs ns G Y ho hd hcd hmg hobj hints hlen hg
  obtain ⟨fd, hbind, hF⟩ := F w mg fa _ (hY w _ Y) G.T.g hmg
  exact top_call (hY w _ Y) G.T.g G.T.b G.T.builtins G.T.nolimit hg hobj hints (Nat.le_trans hlen hn2) hr hbind hF fun H _ hS => want _ H a ns hlen hS
/-! ### list(text), text * int -/
abbrev oneS (c : Nat) : Str := ⟨#[c]⟩
def rListS : List V → Hp → VK → Prop := fun xs H Q => ∃ z : Str, xs = [.str z] ∧ z.length ≤ sizeLine ∧ ∀ p, H p = none → Q (.ref p) (upd H p (.lst (z.cps.toList.map fun c => V.str (oneS c))))
theorem call_listS {X : Cx} (calm : X.calm = true) : CallR X (.type "list") rListS := by
  intro pins s σ H xs us Q I r h
  obtain ⟨z, rfl, hz, q⟩ := h
  obtain ⟨u, rfl, tk, rfl⟩ := vals1 r
  refine PySem.call_list_str (I.ok.hd calm) z tk (fun h' t acc c keep new items => ?_) hz
  refine ⟨.ref s.heap.objs.size, upd H s.heap.objs.size (.lst (z.cps.toList.map fun c => V.str (oneS c))), I.laid (t' := t) keep (Nat.le_refl _) ?_, rfl, q _ (I.hok.fresh (Nat.le_refl _))⟩
  refine ⟨?_, acc.toList, c, ?_, by rw [Array.toArray_toList]; exact new⟩
  · rw [List.length_map, Array.length_toList]
    exact hz
  · have len : acc.toList.length = z.cps.toList.length := by rw [Array.length_toList, Array.length_toList]; exact items.1
    have all : ∀ (cs : List Nat) (vs : List Value), vs.length = cs.length → (∀ (j : Nat) (v : Value), vs[j]? = some v → ∃ c u, cs[j]? = some c ∧ v = .str (oneS c) u) → Vals (cs.map fun c => V.str (oneS c)) vs := by
      intro cs
      induction cs with
      | nil =>
        intro vs hl _
        cases vs with
        | nil => exact .nil
        | cons => cases hl
      | cons a r ih =>
        intro vs hl hv
        cases vs with
        | nil => cases hl
        | cons v t =>
          obtain ⟨c, u, e1, e2⟩ := hv 0 v rfl
          cases e1
          exact .cons ⟨u, e2⟩ (ih t (Nat.succ.inj hl) fun j x e => hv (j + 1) x e)
    refine all _ _ len fun j v e => ?_
    rw [Array.getElem?_toList] at e
    obtain ⟨c, u, e1, e2⟩ := items.2 j v e
    exact ⟨c, u, by rw [Array.getElem?_toList]; exact e1, e2⟩
def rRepS : R2 := fun x y H Q => ∃ z n, x = .str z ∧ y = .int n ∧ MulOk z n ∧ Q (.str (Txt.mul z n)) H
theorem op_repS {X : Cx} : OpR X (binaryOp .Mult) rRepS := by
  intro pins s σ H x y v u Q I rx ry h
  obtain ⟨z, n, rfl, rfl, ok, q⟩ := h
  obtain ⟨tx, rfl⟩ := rx
  obtain ⟨ty, rfl⟩ := ry
  exact PySem.SB.mul ok fun t' k => ⟨.str (Txt.mul z n), H, I.tok _, ⟨_, rfl⟩, q⟩
/-- texts joined by nothing -/
theorem joinL_nil : ∀ l : List (List Nat), TL.joinL [] l = l.flatten
  | [] => rfl
  | [p] => by simp [TL.joinL]
  | p :: q :: r => by
    have h := joinL_nil (q :: r)
    show p ++ ([] ++ TL.joinL [] (q :: r)) = _
    rw [h]
    simp
theorem tl_join0 (ys : List Str) : (Txt.join "" ys).cps.toList = (ys.map fun y => y.cps.toList).flatten := by
  rw [TL.join_eq]
  have h := TL.tl_join "" ys
  have h2 : TL.tl ("" : Str) = [] := by decide +kernel
  rw [h2, joinL_nil] at h
  exact h
end My

namespace My
open PySem PySem.Spec PyProof.Rows L2
/-! ### a set of texts, made of a list -/
def addU (us : List Str) (x : Str) : List Str := if us.any (· == x) then us else us ++ [x]
/-- each text once, in the order of the first ones -/
def uniq (xs : List Str) : List Str := xs.foldl addU []
theorem uniq_take {xs : List Str} {i : Nat} (h : i < xs.length) : uniq (xs.take (i + 1)) = addU (uniq (xs.take i)) (xs.getD i Str.empty) := by
  unfold uniq
  rw [List.take_succ, List.getElem?_eq_getElem h, Option.toList_some, List.foldl_append, List.getD_eq_getElem?_getD, List.getElem?_eq_getElem h]
  rfl
theorem addU_any (us : List Str) (x y : Str) : (addU us x).any (· == y) = (us.any (· == y) || decide (y = x)) := by
  unfold addU
  split
  · rename_i h
    by_cases e : y = x
    · rw [e, h]
      rfl
    · rw [decide_eq_false e, Bool.or_false]
  · rw [List.any_append]
    congr 1
    by_cases e : y = x
    · subst e
      simp
    · have n : (x == y) = false := beq_eq_false_iff_ne.mpr fun z => e z.symm
      simp [n, e]
theorem addU_len (us : List Str) (x : Str) : (addU us x).length = if us.any (· == x) then us.length else us.length + 1 := by
  unfold addU
  split
  · rfl
  · rw [List.length_append]
    rfl
theorem addU_le (us : List Str) (x : Str) : (addU us x).length ≤ us.length + 1 := by
  rw [addU_len]
  split <;> omega
theorem uniq_le (xs : List Str) : ∀ i, i ≤ xs.length → (uniq (xs.take i)).length ≤ i := by
  intro i
  induction i with
  | zero =>
    intro _
    rw [List.take_zero]
    exact Nat.le_refl 0
  | succ i ih =>
    intro h
    rw [uniq_take h]
    have z := ih (by omega)
    have y := addU_le (uniq (xs.take i)) (xs.getD i Str.empty)
    omega
theorem fold_len : ∀ (xs us : List Str), us.Nodup → (xs.foldl addU us).length ≤ us.length + xs.length ∧ ((xs.foldl addU us).length = us.length + xs.length ↔ (us ++ xs).Nodup)
  | [], us, hn => by simp [hn]
  | x :: r, us, hn => by
    by_cases h : us.any (· == x) = true
    · have e : addU us x = us := if_pos h
      obtain ⟨a, b⟩ := fold_len r us hn
      rw [List.foldl_cons, e, List.length_cons]
      refine ⟨by omega, ⟨fun z => by omega, fun z => ?_⟩⟩
      obtain ⟨y, hy, ey⟩ := List.any_eq_true.mp h
      have ey : y = x := beq_iff_eq.mp ey
      subst ey
      exact absurd rfl ((List.nodup_append.mp z).2.2 y hy y List.mem_cons_self)
    · have e : addU us x = us ++ [x] := if_neg h
      have nx : x ∉ us := fun z => h (List.any_eq_true.mpr ⟨x, z, beq_self_eq_true x⟩)
      have hn2 : (us ++ [x]).Nodup := by
        refine List.nodup_append.mpr ⟨hn, List.nodup_cons.mpr ⟨(fun z => nomatch z), List.nodup_nil⟩, fun a ha b hb => ?_⟩
        rw [List.mem_singleton.mp hb]
        exact fun z => nx (z ▸ ha)
      obtain ⟨a, b⟩ := fold_len r (us ++ [x]) hn2
      rw [List.foldl_cons, e, List.length_cons]
      rw [List.length_append, List.length_cons, List.length_nil] at a b
      refine ⟨by omega, ?_⟩
      rw [show us.length + (r.length + 1) = us.length + (0 + 1) + r.length by omega, b, List.append_assoc]
      rfl
theorem uniq_len (xs : List Str) : (uniq xs).length ≤ xs.length ∧ ((uniq xs).length = xs.length ↔ xs.Nodup) := by
  obtain ⟨a, b⟩ := fold_len xs [] List.nodup_nil
  rw [List.length_nil, Nat.zero_add, List.nil_append] at *
  exact ⟨a, b⟩
section
variable {P : Program} {w : World} {A : Around} {R : Result → Shared → Prop} {it : Addr} {fp wr : List Addr} {G : Array GenState → Array GenState → Prop} {n : Nat} {V1 : Nat → Value → Prop} {St1 : Nat → Shared → Prop}
theorem setOf_moved {a : Addr} {us : List Str} {st st' : Shared} {wr : List Addr} {G : Array GenState → Array GenState → Prop} (h : st.heap.SetOf (PySem.strKind P w) a (fun y => us.any (· == y)) us.length) (m : Moved wr G st st') (ha : a ∉ wr) : st'.heap.SetOf (PySem.strKind P w) a (fun y => us.any (· == y)) us.length := by
  obtain ⟨ob, e1, e2, e3, hob, more⟩ := h
  exact ⟨ob, e1, e2, e3, m.heap a _ ha hob, more⟩
theorem loop_texts (W : WalksS P w A.in1 it fp wr G n V1 St1) (a : Addr) (ha : a ∉ fp) {xs : List Str} (hn : n = xs.length) (hval : ∀ i v, V1 i v → ∃ t, v = .str (xs.getD i Str.empty) t) (hb : n + 1 < scanBound) :
    ∀ (m i : Nat) (st : Shared), i + m = n → St1 i st → st.heap.SetOf (PySem.strKind P w) a (fun y => (uniq (xs.take i)).any (· == y)) (uniq (xs.take i)).length →
      (∀ st', Moved (a :: wr) G st st' → st'.heap.SetOf (PySem.strKind P w) a (fun y => (uniq (xs.take n)).any (· == y)) (uniq (xs.take n)).length → R (.ok (.ret .none)) st') →
      codeAny (model P w) A (.builtin "set.update.loop" ⟨[.ref a, .ref it], []⟩) R st := by
  have ha2 : a ∉ wr := fun z => ha (W.sub _ z)
  intro m
  induction m with
  | zero =>
    intro i st him hst hS hR
    obtain rfl : i = n := him
    refine codeAny_builtin PyProof.Rows.F.entry_set_update_loop ?_
    rw [Around.under_plainId PyProof.Rows.F.plain_set_update_loop _]
    show wpAny _ A.in1 (pyNext (.ref it) >>= _) _ _ st
    refine wpAny_bind (W.done st _ _ hst fun st' mv => ?_)
    show wpAny _ A.in1 (ret Value.none) _ _ st'
    exact wpAny_pure (hR st' (mv.mono fun b hb => List.mem_cons_of_mem _ hb) (setOf_moved hS mv ha2))
  | succ m ih =>
    intro i st him hst hS hR
    have hi : i < n := by omega
    refine codeAny_builtin PyProof.Rows.F.entry_set_update_loop ?_
    rw [Around.under_plainId PyProof.Rows.F.plain_set_update_loop _]
    show wpAny _ A.in1 (pyNext (.ref it) >>= _) _ _ st
    refine wpAny_bind (W.item i st _ _ hi hst fun v st1 hv hst1 mv => ?_)
    obtain ⟨tk, rfl⟩ := hval i v hv
    have hS1 := setOf_moved hS mv ha2
    show wpAny _ A.in1 (holding [Value.str (xs.getD i Str.empty) tk] (setAdd a (.str (xs.getD i Str.empty) tk)) >>= _) _ _ st1
    refine wpAny_bind (wpAny_holding ?_)
    unfold setAdd
    refine wpAny_holding (wpAny_bind ((PySem.strKind P w).pyHash (k := xs.getD i Str.empty) (strKind_is _ _ _ _) ?_))
    have few := uniq_le xs i (by omega)
    refine wpAny_setAddHashed_of (knd := PySem.strKind P w) (s := { st1 with toks := st1.toks + 1 }) (strKind_is _ _ _ _) rfl hS1 (by omega) fun h2 only hS2 => ?_
    have hS3 : h2.SetOf (PySem.strKind P w) a (fun y => (uniq (xs.take (i + 1))).any (· == y)) (uniq (xs.take (i + 1))).length := by
      refine SetOf_congr hS2 (fun y => ?_) ?_
      · rw [uniq_take (by omega), addU_any]
      · rw [uniq_take (by omega), addU_len]
    refine wpAny_pure ⟨plainId_quiet PyProof.Rows.F.plain_set_update_loop _, ih (i + 1) _ (by omega) (W.frame _ st1 _ _ hst1 (Nat.le_succ _) fun b hb o e => ?_) hS3 fun st2 mv2 hS4 => hR st2 (Moved.trans W.gtrans ((mv.mono fun b hb => List.mem_cons_of_mem _ hb).then_heap (Nat.le_succ _) fun b o hb e => ?_) mv2) hS4⟩
    · rw [only.2 b fun z => ha (z ▸ hb)]
      exact e
    · rw [only.2 b fun z => hb (z ▸ List.mem_cons_self)]
      exact e
end
/-- what a new set looks like ahead of its first item -/
abbrev bareSet (led : Bool) : Obj := { cls := .type "set", dict := none, data := .set #[] 0 (.fresh 0 0 led) }
section
variable {P : Program} {w : World} {A : Around} {E : Value → Shared → Prop} {st : Shared}
/-- .. the heap behind the call: old things stay, the texts stand in the set at a, once each -/
def Made (P : Program) (w : World) (h0 : Heap) (a : Addr) (xs : List Str) (h1 : Heap) : Prop := h1.SetOf (PySem.strKind P w) a (fun y => (uniq xs).any (· == y)) (uniq xs).length ∧ ∀ b ob, b < h0.objs.size → h0.get? b = some ob → h1.get? b = some ob
theorem set_texts {l : Addr} {its : Array Value} {xs : List Str} {Q : Value → Shared → Prop} (hh : A.handled = none) (hl : st.heap.IsList l its) (hx : PyProof.Rows.StrsAre its.toList xs) (few : xs.length + 1 < scanBound)
    (done : ∀ h1 tk, Made P w st.heap st.heap.objs.size xs h1 → Q (.ref st.heap.objs.size) { st with heap := h1, toks := tk }) : wpAny (model P w) A (call (.type "set") [.ref l]) Q E st := by
  obtain ⟨c1, c2, order⟩ := PySem.F.called_set.mro
  have f1 := PySem.F.called_set.made
  have f2 := PySem.F.called_set.sub
  refine wpAny_call (codeAny_of_tree ?_)
  show wpAny _ _ (callAny (.type "set") _) _ _ _
  refine wpAny_pure ⟨Code.quiet_builtin _ (by decide +kernel), codeAny_builtin PySem.F.entry_type_call ?_⟩
  rw [Around.under_plain (weight_type_call_type "set" [.ref l] []) rfl]
  have f3 := PySem.F.called_set.notType
  have f4 := PySem.F.called_set.canCreate
  have f5 := PySem.F.typeCall_set_1 (.ref l)
  repeat (any_goals (first | assumption | wp_step))
  refine codeAny_mono (code_set_new_1 (.ref l) (E := E) (Q₁ := fun v s1 => ∃ led : Bool, v = .ref st.heap.objs.size ∧ s1 = { st with heap := st.heap.push (bareSet led) }) fun led => ⟨led, rfl, rfl⟩) fun r s1 hr => ?_
  cases r with
  | error e => exact hr
  | ok fl =>
    cases fl with
    | ret obj =>
      obtain ⟨led, rfl, rfl⟩ := hr
      have here : (st.heap.push (bareSet led)).get? st.heap.objs.size = some (bareSet led) := Heap.get?_push_size _ rfl
      have isSet : Shared.TypeIs { st with heap := st.heap.push (bareSet led) } (.ref st.heap.objs.size) "set" := ⟨_, here, rfl⟩
      have f6 := PySem.F.called_set.init.lookup
      have f7 := PySem.F.called_set.init.bind (.ref st.heap.objs.size)
      repeat (any_goals (first | assumption | wp_step))
      refine codeAny_mono (codeAny_call_builtin (R := wants (fun v s2 => v = .none ∧ ∃ h1 tk, s2 = { st with heap := h1, toks := tk } ∧ Made P w st.heap st.heap.objs.size xs h1) E) PySem.F.called_set.init.plain PySem.F.entry_set_init (check_set_init_1 isSet ?_)) fun r2 s2 hr2 => ?_
      · obtain ⟨⟨k1, k2, k3, k4⟩, lat, lc, nl, ld⟩ := hl
        dsimp only at lc ld
        subst lc ld
        have lat1 : (st.heap.push (bareSet led)).get? l = some { cls := .type "list", dict := k2, data := .seq its nl, slots := k4 } := Heap.get?_push_of_some _ lat
        have g1 := PySem.F.sub_list_set
        have g2 := PySem.F.sub_list_frozenset
        have g3 : (Value.type "list" == Value.type "dict") = false := by decide
        have isL : (st.heap.push (bareSet led)).IsList l its := ⟨_, lat1, rfl, nl, rfl⟩
        have low : l < st.heap.objs.size := Heap.lt_size lat
        unfold Builtin.«set.__init__» noKeywords Builtin.Frozenset.updateFrom
        generalize again : pyIter = PI
        wp_walk
        subst again
        refine wpAny_pyIter_list isL (wpAny_bind (wpAny_runValue ?_))
        have top : (st.heap.push (bareSet led)).objs.size = st.heap.objs.size + 1 := Heap.size_push ..
        have size : its.size = xs.length := by rw [← Array.length_toList, ← StrsAre.len_eq hx]
        refine loop_texts ((Walks.list (by simp [hh]) _ l (by rw [top]; exact Nat.ne_of_lt (Nat.lt_succ_of_lt low)) its).toS) st.heap.objs.size ?_ size (fun i v hv => SS.strs_at hx i v (by rw [Array.getElem?_toList]; exact hv)) (by rw [size]; exact few) its.size 0 _ (Nat.zero_add _) ⟨⟨_, Heap.get?_push_size _ rfl, rfl, rfl⟩, isL.push _⟩ ?_ ?_
        · rw [top]
          simp only [List.mem_cons, List.mem_singleton, List.not_mem_nil, or_false, not_or]
          exact ⟨Nat.ne_of_lt (Nat.lt_succ_self _), Nat.ne_of_gt low⟩
        · exact PyProof.Rows.SetOf_congr ((PyProof.Rows.setObjOf_fresh (knd := PySem.strKind P w) led).setOf (Heap.get?_push_of_some _ here) (by unfold scanBound; omega)) (fun _ => rfl) rfl
        · intro s3 mv hS
          rw [size, List.take_length] at hS
          obtain ⟨h3, g3, d3, t3, o3⟩ := s3
          obtain rfl : g3 = st.gens := mv.gens
          obtain rfl : d3 = st.drawn := mv.drawn
          obtain rfl : o3 = st.os := mv.os
          show wpAny _ _ _ _ _ _
          refine wpAny_pure ?_
          show wpAny _ _ (ret Value.none) _ _ _
          refine wpAny_pure ⟨rfl, h3, t3, rfl, hS, fun b ob hb e => mv.heap b ob ?_ (Heap.get?_push_of_some _ (Heap.get?_push_of_some _ e))⟩
          rw [top]
          simp only [List.mem_cons, List.mem_singleton, List.not_mem_nil, or_false, not_or]
          exact ⟨Nat.ne_of_lt hb, Nat.ne_of_lt (Nat.lt_succ_of_lt hb)⟩
      · cases r2 with
        | error e => exact hr2
        | ok fl2 =>
          cases fl2 with
          | ret v =>
            obtain ⟨rfl, h1, tk, rfl, made⟩ := hr2
            repeat (any_goals (first | assumption | wp_step))
            exact done _ _ made
          | _ => exact hr2.elim
    | _ => exact hr.elim
end
end My

namespace My
open PySem PySem.Spec PyProof.Rows L2
/-- len(set(xs)), xs a list of texts -/
def tLenSetT (K : PySem.W.Frag) (ta : TE) : TE := fun σ H Q => ta σ H fun x H1 => ∃ (l : Addr) (xs : List Str), x = .ref l ∧ SqL K H1 l (xs.map V.str) ∧ xs.length ≤ 30 ∧ Q (.int (uniq xs).length) H1
theorem pe_lenSetT {X : Cx} {a : Expr} {ta : TE} {p p2 q pos : Pos} (hc : X.calm = true) (hg : Gl X "len") (hm : X.mg "len" = none) (hg2 : Gl X "set") (hm2 : X.mg "set" = none) (ha : PE X a ta)
    (na : starEach [a] X.env = (false, eval a X.env) :: starEach [] X.env := by rfl) : PE X (.Call (.Name "len" p) [.Call (.Name "set" p2) [a] [] q] [] pos) (tLenSetT X.K ta) := by
  refine ⟨fun pins s σ H Q I h => ?_⟩
  refine Call_ (ld_blt I hg hm boot_len (PyProof.Rows.callWith_builtin1 (PyProof.Rows.args_cons ?_ rfl) rfl rfl))
  refine Call_ (ld_blt I hg2 hm2 boot_set (PyProof.Rows.callWith_type1 (PyProof.Rows.args_cons (thn (ha.run pins s σ H _ I h) fun v s1 hv => PyProof.Rows.args_nil ?_) na) na rfl))
  obtain ⟨x, H1, I1, r1, l, xs, rfl, hq, few, q1⟩ := hv
  cases r1
  obtain ⟨its, r, pl, hz⟩ := I1.list hq
  refine set_texts (I1.ok.hd hc) pl.isList (by simpa using strsAre_of r) (by unfold scanBound; omega) fun h1 tk made => PyProof.Rows.args_nil ?_
  obtain ⟨⟨ob, es, ep, t, ho, hex, hd, _, _, _, hf, hn⟩, old⟩ := made
  have I2 : Inv X pins σ H1 { s1 with heap := h1, toks := tk } := I1.kept fun b o e => old b o (Heap.lt_size e) e
  have z := (uniq_len xs).1
  exact call_len_set ho hex hd hf (by rw [hn]; omega) ⟨.int (uniq xs).length, H1, I2.tok _, ⟨_, by rw [hn]⟩, q1⟩
/-! ### a list != [] , whatever stands in it -/
def rNeNil : R2 := fun x y H Q => ∃ (a b : Addr) (xs : List V), x = .ref a ∧ y = .ref b ∧ H a = some (.lst xs) ∧ H b = some (.lst []) ∧ Q (.bl (!xs.isEmpty)) H
theorem op_neNil {X : Cx} (hu : X.A.units + 64 < cLine) : OpR X (compareOp .NotEq) rNeNil := by
  intro pins s σ H x y v u Q I rx ry h
  obtain ⟨a, b, xs, rfl, rfl, ha, hb, q⟩ := h
  cases rx
  cases ry
  obtain ⟨z, its, n, r, hl, e⟩ := I.lstM ha
  obtain ⟨z2, its2, n2, r2, hl2, e2⟩ := I.lstM hb
  have l1 : s.heap.IsList a its.toArray := ⟨_, e, rfl, n, rfl⟩
  have l2 : s.heap.IsList b its2.toArray := ⟨_, e2, rfl, n2, rfl⟩
  have l0 : its2 = [] := by
    cases its2 with
    | nil => rfl
    | cons => cases hl2
  subst l0
  cases xs with
  | nil =>
    have l3 : its = [] := by
      cases its with
      | nil => rfl
      | cons => cases hl
    subst l3
    exact SeqAt.RcNeAt.lists l1 l2 rfl (by omega) (e := fun _ => true) (fun j h1 h2 => absurd h1 (Nat.not_lt_zero j)) _ _ _ _ ⟨.bl false, H, I, rfl, q⟩
  | cons x0 r0 =>
    have big : its.length = r0.length + 1 := hl.symm
    exact SeqAt.RcNeAt.lists_lengths l1 l2 (by simp only [List.size_toArray, big, List.length_nil]; rfl) (by omega) _ _ _ _ ⟨.bl true, H, I, rfl, q⟩
end My

namespace My
open PySem PySem.Spec PyProof.Rows L2
/-! ### tuple(list), the new object told; dict of such a tuple of pairs -/
def rTupleF (K : PySem.W.Frag) : List V → Hp → VK → Prop := fun xs H Q => ∃ p ys, xs = [.ref p] ∧ SqL K H p ys ∧ ∀ l o, H l = none → o.dict = none → Q (.ref l) (upd H l (.frz o (.tup ys)))
theorem call_tupleF {X : Cx} : CallR X (.type "tuple") (rTupleF X.K) := by
  intro pins s σ H xs us Q I r h
  obtain ⟨p, ys, rfl, hq, q⟩ := h
  obtain ⟨u, rfl, rx⟩ := vals1 r
  cases rx
  obtain ⟨its, r', pl, hz⟩ := I.list hq
  have hlen := r'.length
  refine call_tuple_list pl.isList (fun h' kp => ?_) (by simp only [List.size_toArray] <;> omega)
  have I1 : Inv X pins σ H { s with heap := h' } := I.kept (t' := s.toks) kp
  have I2 : Inv X pins σ (upd H h'.objs.size (.frz { cls := .type "tuple", data := .seq its.toArray } (.tup ys))) { s with heap := h'.push { cls := .type "tuple", data := .seq its.toArray } } :=
    I1.laid (t' := s.toks) (fun b o e => Heap.get?_push_of_some _ e) (Nat.le_refl _) (show ObjOk X.prog X.w _ _ _ (.frz _ (.tup ys)) from ⟨Heap.get?_push_size _ rfl, hz, its, r', IsTup.new _ _⟩)
  exact ⟨.ref h'.objs.size, _, I2, rfl, q _ _ (I1.hok.fresh (Nat.le_refl _)) rfl⟩
/-- the pairs at ps as values -/
theorem pairs_at {X : Cx} {pins : List (Addr × Obj)} {σ : L2.St} {H : Hp} {s : Shared} (I : Inv X pins σ H s) : ∀ {ps : List Addr} {kvs : List (Key × V)}, Paired (fun p kv => SqT X.K H p [kV kv.1, kv.2]) ps kvs →
    ∃ (prs : List (Key × Value)) (raw : List (Value × Value)), KV kvs prs ∧ prs.length = ps.length ∧ raw.length = ps.length ∧ ∀ (j : Nat) (k v : Value), raw[j]? = some (k, v) → ∃ (b : Addr) (x : Key), ps[j]? = some b ∧ PySem.PairAt s.heap b k v ∧ prs[j]? = some (x, v) ∧ keyIs x k = true
  | _, _, .nil => ⟨[], [], .nil, rfl, rfl, fun j k v e => by simp at e⟩
  | _, _, .cons (a := p) (b := kv) h t => by
    obtain ⟨prs, raw, r, l1, l2, hp⟩ := pairs_at I t
    obtain ⟨its, rv, ht, _⟩ := I.tuple h
    obtain ⟨u, y, rfl, ru, ry⟩ := vals2 rv
    refine ⟨(kv.1, y) :: prs, (u, y) :: raw, .cons ⟨rfl, ry⟩ r, by rw [List.length_cons, List.length_cons, l1], by rw [List.length_cons, List.length_cons, l2], fun j k v e => ?_⟩
    cases j with
    | zero =>
      cases e
      exact ⟨p, kv.1, rfl, .inl ht, rfl, kV_is (P := X.prog) (w := X.w) ru⟩
    | succ j => exact hp j k v e
def rDictT (K : PySem.W.Frag) : List V → Hp → VK → Prop := fun xs H Q => ∃ (a : Addr) (ps : List Addr) (kvs : List (Key × V)) (o : Obj), xs = [.ref a] ∧ H a = some (.frz o (.tup (ps.map V.ref))) ∧ o.dict = none ∧ Paired (fun p kv => SqT K H p [kV kv.1, kv.2]) ps kvs ∧ ∀ q, H q = none → Q (.ref q) (upd H q (.dK (mergeK [] kvs)))
theorem call_dictT {X : Cx} (calm : X.calm = true) : CallR X (.type "dict") (rDictT X.K) := by
  intro pins s σ H xs us Q I r h
  obtain ⟨a, ps, kvs, o, rfl, ha, hd, hp, q⟩ := h
  obtain ⟨u, rfl, rx⟩ := vals1 r
  cases rx
  obtain ⟨ho, hz, its, rv, o2, ho2, hc, n, hdat⟩ := I.hok a _ ha
  cases ho.symm.trans ho2
  have ei := refs_at rv
  subst ei
  obtain ⟨prs, raw, rel, l1, l2, hpr⟩ := pairs_at I hp
  rw [List.length_map] at hz
  refine PySem.call_dict_pairs (knd := mixKind X.prog X.w) (kvs := prs) (PySem.PairArg.tuple a (ps.map Value.ref).toArray (fun j => ps.getD j 0) raw) (I.ok.hd calm) ⟨⟨o, n, ho, hc, hd, hdat⟩, ?_, fun j k v e => ?_⟩ ⟨by rw [l1, l2], fun j k v e => ?_⟩ (by rw [l2]; exact hz) fun h' tk hd' keep => ?_
  · rw [List.size_toArray, List.length_map, l2]
  · obtain ⟨b, x, e1, e2, e3, e4⟩ := hpr j k v e
    have eb : ps.getD j 0 = b := by rw [List.getD_eq_getElem?_getD, e1]; rfl
    show (ps.map Value.ref).toArray[j]? = some (.ref (ps.getD j 0)) ∧ PySem.PairAt s.heap (ps.getD j 0) k v
    rw [eb]
    exact ⟨by simp [e1], e2⟩
  · obtain ⟨b, x, e1, e2, e3, e4⟩ := hpr j k v e
    exact ⟨x, e3, e4⟩
  · have hm : (s.heap.objs.size == sysModules) = false := beq_eq_false_iff_ne.mpr (Nat.ne_of_gt I.big)
    have hlen : (mergeK [] kvs).length ≤ sizeLine := by
      have z := length_mergeK kvs []
      rw [List.length_nil, Nat.zero_add, rel.length, l1] at z
      omega
    have k : ∀ b u, s.heap.get? b = some u → h'.get? b = some u := fun b u e => keep b u (fun z => nomatch z) e
    exact ⟨.ref s.heap.objs.size, upd H s.heap.objs.size (.dK (mergeK [] kvs)), I.laid (t' := tk) k (Nat.le_refl _) (show ObjOk X.prog X.w _ _ _ (.dK (mergeK [] kvs)) from ⟨hlen, hm, merged [] prs, KV.merge rel .nil, hd'⟩), rfl, q _ (I.hok.fresh (Nat.le_refl _))⟩
end My

namespace My
open PySem PySem.Spec PyProof.Rows L2
/-! ### weaker words for + and slices of tuples: some tuple with these items, all else the same -/
def rCatX : R2 := fun x y H Q => ∃ a b xs ys, x = .ref a ∧ y = .ref b ∧ Rd H a (.tup xs) ∧ Rd H b (.tup ys) ∧ xs.length + ys.length ≤ sizeLine ∧ ∀ r H', Same H H' → Rd H' r (.tup (xs ++ ys)) → Q (.ref r) H'
theorem op_catX {X : Cx} : OpR X (binaryOp .Add) rCatX := by
  intro pins s σ H x y v u Q I rx ry h
  obtain ⟨a, b, xs, ys, rfl, rfl, ha, hb, hz, q⟩ := h
  refine op_catA pins s σ H _ _ v u Q I rx ry ⟨a, b, xs, ys, rfl, rfl, .inl ha, .inl hb, hz, fun e => ?_, fun _ e => ?_, fun _ _ p hp => ?_⟩
  · subst e
    exact q b H (L2.Same.refl H) hb
  · subst e
    exact q a H (L2.Same.refl H) (by rw [List.append_nil]; exact ha)
  · refine q p _ (fun c o e => ?_) (.inl upd_same)
    rw [upd_ne (ne_of_none e hp)]
    exact e
def rSlX : V → Option Int → Option Int → Hp → VK → Prop := fun x lo hi H Q => ∃ a xs, x = .ref a ∧ Rd H a (.tup xs) ∧ ∀ r H', Same H H' → Rd H' r (.tup (cutV xs lo hi)) → Q (.ref r) H'
theorem sl_X {X : Cx} : SlR X rSlX := by
  intro pins s σ H x v vl vu lo hi sl Q I rx hs pl pu h
  obtain ⟨a, xs, rfl, hx, q⟩ := h
  refine sl_tupA pins s σ H _ v vl vu lo hi sl Q I rx hs pl pu ⟨a, xs, rfl, .inl hx, fun w => ?_, fun _ p hp => ?_⟩
  · refine q a H (L2.Same.refl H) ?_
    unfold cutV
    rw [w.1, w.2, List.drop_zero, Nat.sub_zero, List.take_length]
    exact hx
  · refine q p _ (fun c o e => ?_) (.inl upd_same)
    rw [upd_ne (ne_of_none e hp)]
    exact e
/-! ### t[::-1] of a tuple -/
section
open MeetsSeq MeetsSeq2 MeetsSeq3 SeqRoads2
variable {P : Program} {w : World} {A : Around} {E : Value → Shared → Prop} {st : Shared}
theorem applied_back {sl : Addr} {v1 v2 v3 : Value} {n : Nat} {Q : Int × Int × Nat → Shared → Prop} (hs : st.heap.IsSliceOf sl v1 v2 v3) (p1 : IsPart v1 none) (p2 : IsPart v2 none) (p3 : IsPart v3 (some (-1)))
    (h : Q ((n : Int) - 1, -1, n) st) : wpAny (model P w) A (Builtin.Slice.sliceApplied (.ref sl) (pure (n : Int))) Q E st := by
  obtain ⟨ob, at1, cl1, da1⟩ := id hs
  unfold Builtin.Slice.sliceApplied Builtin.Slice.sliceFields
  refine wpAny_bind (wpAny_bind (wpAny_field at1 da1 (x := v1) rfl (wpAny_bind (wpAny_field at1 da1 (x := v2) rfl (wpAny_bind (wpAny_field at1 da1 (x := v3) rfl (wpAny_pure ?_)))))))
  refine wpAny_bind (HT.slicePart_ p3 ?_)
  show wpAny _ _ (if ((-1 : Int) == 0) = true then _ else _) _ _ st
  rw [if_neg (by decide)]
  refine wpAny_bind (HT.slicePart_ p1 (wpAny_bind (HT.slicePart_ p2 (wpAny_bind (wpAny_pure ?_)))))
  have adj : Builtin.Slice.sliceAdjust none none (-1) (n : Int) = ((n : Int) - 1, -1) := rfl
  have pla : Builtin.Slice.slicePlaces ((n : Int) - 1) (-1) (-1) = n := by
    unfold Builtin.Slice.slicePlaces
    rw [if_neg (by decide)]
    by_cases z : (n : Int) - 1 > -1
    · rw [if_pos z, show (- -1 : Int) = 1 by decide, Int.ediv_one]
      omega
    · rw [if_neg z]
      omega
  show wpAny _ _ (match Builtin.Slice.sliceAdjust none none (-1) (n : Int) with | (lo, hi) => pure (lo, (-1 : Int), Builtin.Slice.slicePlaces lo hi (-1))) _ _ st
  rw [adj]
  show wpAny _ _ (pure ((n : Int) - 1, (-1 : Int), Builtin.Slice.slicePlaces ((n : Int) - 1) (-1) (-1))) _ _ st
  rw [pla]
  exact wpAny_pure h
theorem fm_congr {α β : Type} {f g : α → Option β} : ∀ {l : List α}, (∀ a ∈ l, f a = g a) → l.filterMap f = l.filterMap g
  | [], _ => rfl
  | a :: r, h => by
    rw [List.filterMap_cons, List.filterMap_cons, h a List.mem_cons_self, fm_congr fun b hb => h b (List.mem_cons_of_mem _ hb)]
theorem pick_back (its : Array Value) : ((List.range its.size).filterMap fun (m : Nat) => its[(((its.size : Int) - 1) + (m : Int) * (-1)).toNat]?).toArray = its.toList.reverse.toArray := by
  have e : (List.range its.size).filterMap (fun (m : Nat) => its[(((its.size : Int) - 1) + (m : Int) * (-1)).toNat]?) = ((List.range its.size).map fun k => its.size - 1 - k).filterMap (its[·]?) := by
    rw [List.filterMap_map]
    refine fm_congr fun m hm => ?_
    have z := List.mem_range.mp hm
    have y : (((its.size : Int) - 1) + (m : Int) * (-1)).toNat = its.size - 1 - m := by omega
    show its[(((its.size : Int) - 1) + (m : Int) * (-1)).toNat]? = its[its.size - 1 - m]?
    rw [y]
  rw [e, PySem.W.krv_range, List.filterMap_reverse, PySem.W.krv_all]
theorem tuple_back {a sl : Addr} {its : Array Value} {v1 v2 v3 : Value} {Q : Value → Shared → Prop} (ht : IsTup st.heap a its) (hs : st.heap.IsSliceOf sl v1 v2 v3) (p1 : IsPart v1 none) (p2 : IsPart v2 none) (p3 : IsPart v3 (some (-1)))
    (h : Q (.ref st.heap.objs.size) { st with heap := st.heap.push { cls := .type "tuple", data := .seq its.toList.reverse.toArray } }) (few : its.size ≤ sizeLine) : wpAny (model P w) A (getItem (.ref a) (.ref sl)) Q E st := by
  have ok : sizeOk (.seq its.toList.reverse.toArray) := by
    show its.toList.reverse.toArray.size ≤ sizeLine
    rw [List.size_toArray, List.length_reverse, Array.length_toList]
    exact few
  obtain ⟨ob, at1, cl1, da1⟩ := id hs
  have isS : st.TypeIs (.ref sl) "slice" := ⟨ob, at1, cl1⟩
  unfold getItem
  try with_reducible refine wpAny_holding ?_
  first | refine wpAny_bind (wpAny_pure ?_) | skip
  refine wpAny_bind (wpAny_sequenceKey ht.typeIs (by decide) ?_)
  refine wpAny_bind (wpAny_callSpecial?_slot (name := Str.ofString "__getitem__") ht.typeIs PyProof.Rows.slot_tuple_getitem
    (wpAny_call_entry PyProof.Rows.slot_tuple_getitem ht.typeIs PyProof.Rows.entry_tuple_getitem ?_ (PyProof.Rows.args_tuple_getitem _ _)))
  show wpAny _ _ (Builtin.Tuple.tupleItemsOf (.ref a) >>= _) _ _ st
  refine wpAny_bind (PyProof.Rows.tupleItemsOf_ ht (wpAny_bind (wpAny_typeOf isS ?_)))
  rw [if_pos (by decide)]
  refine wpAny_bind (applied_back hs p1 p2 p3 ?_)
  have no : ¬ (((((its.size : Nat) : Int) - 1) == 0 && (-1 : Int) == 1 && its.size == its.size) = true) := by
    rw [show ((-1 : Int) == 1) = false by decide, Bool.and_false, Bool.false_and]
    decide
  show wpAny _ _ (if ((((its.size : Nat) : Int) - 1) == 0 && (-1 : Int) == 1 && its.size == its.size) = true then _ else _) _ _ st
  rw [if_neg no, pick_back]
  first
    | exact wpAny_bind (m := Builtin.Tuple.tupleExact _) (wpAny_newObj_type (wpAny_pure ⟨_, rfl, wpAny_pure h⟩) ok)
    | exact wpAny_bind (m := Builtin.Tuple.tupleExact _) (wpAny_newObj_type (wpAny_bind (wpAny_pure (wpAny_pure ⟨_, rfl, wpAny_pure h⟩))) ok)
    | exact wpAny_bind (wpAny_bind (m := Builtin.Tuple.tupleExact _) (wpAny_newObj_type (wpAny_pure (wpAny_pure ⟨_, rfl, wpAny_pure h⟩)) ok))
    | exact wpAny_bind (wpAny_bind (m := Builtin.Tuple.tupleExact _) (wpAny_newObj_type (wpAny_pure ⟨_, rfl, wpAny_pure h⟩) ok))
end
/-- t[::-1] -/
def tRevT (K : PySem.W.Frag) (te : TE) : TE := fun σ H Q => te σ H fun x H1 => ∃ a xs, x = .ref a ∧ SqT K H1 a xs ∧ ∀ p, H1 p = none → Q (.ref p) (upd H1 p (.tup xs.reverse))
theorem pe_revT {X : Cx} {e : Expr} {te : TE} {k : Nat} {p1 p2 p3 pos : Pos} (he : PE X e te) : PE X (.Subscript e (.Slice none none (some (.UnaryOp .USub (.Constant (.int 1) k p1) p2)) p3) pos) (tRevT X.K te) := by
  refine ⟨fun pins s σ H Q I h => Subscript_ (thn (he.run pins s σ H _ I h) fun v s1 hv => ?_)⟩
  obtain ⟨x, H1, I1, r1, a, xs, rfl, hx, q⟩ := hv
  cases r1
  have part : PO X (some (.UnaryOp .USub (.Constant (.int 1) k p1) p2)) (tPart (tUn (rU fun i => .int (-i)) (tC (.int 1)))) := po_some (pe_un un_neg pe_int)
  refine wpAny_Slice (thn (po_none.run pins s1 σ H1 (fun o H2 => o = none ∧ H2 = H1) I1 ⟨rfl, rfl⟩) fun vl s2 h2 => ?_)
  obtain ⟨_, H2, I2, pl, rfl, rfl⟩ := h2
  refine thn (po_none.run pins s2 σ H2 (fun o H3 => o = none ∧ H3 = H2) I2 ⟨rfl, rfl⟩) fun vu s3 h3 => ?_
  obtain ⟨_, H3, I3, pu, rfl, rfl⟩ := h3
  refine thn (part.run pins s3 σ H3 (fun o H4 => o = some (-1) ∧ H4 = H3) I3 ⟨1, rfl, -1, rfl, rfl, rfl⟩) fun vs s4 h4 => ?_
  obtain ⟨_, H4, I4, ps, rfl, rfl⟩ := h4
  have I5 : Inv X pins σ H4 { s4 with heap := s4.heap.push { cls := .type "slice", data := .fields #[vl, vu, vs] } } := I4.kept (t' := s4.toks) fun b ob q => Heap.get?_push_of_some _ q
  obtain ⟨its, r, ht, hz⟩ := I5.tuple hx
  have hlen := r.length
  show wpAny (model X.prog X.w) X.A (subscriptTail e (.Slice none none (some (.UnaryOp .USub (.Constant (.int 1) k p1) p2)) p3) (.ref a) (.ref s4.heap.objs.size)) (EP X pins σ Q) X.xe { s4 with heap := s4.heap.push { cls := .type "slice", data := .fields #[vl, vu, vs] } }
  refine tail_any (ops := [.ref a, .ref s4.heap.objs.size]) ht.typeIs (PyProof.Rows.slot_tuple_getitem.lookup) ?_ (by with_unfolding_all rfl)
  refine tuple_back ht (Heap.IsSliceOf.new _ vl vu vs) pl pu ps ?_ (by rw [List.size_toArray]; omega)
  exact ⟨.ref _, _, I5.laid (t' := s4.toks) (o := .tup xs.reverse) (fun b ob q => Heap.get?_push_of_some _ q) (Nat.le_refl _) ⟨by rw [List.length_reverse]; exact hz, _, r.reverse, IsTup.new _ _⟩, rfl, q _ (I5.hok.fresh (Nat.le_refl _))⟩
end My

namespace My
open PySem PySem.Spec PyProof.Rows L2
/-! ### the text by places -/
def topS (i : Nat) : Stmt := PySem.Challenge.pw_layoutswap_k02_kinds.main.body.getD i (.Pass ⟨0, 0, 0, 0⟩)
abbrev s_law_kneaded : Stmt := topS 17
abbrev s_law_pot_of : Stmt := topS 18
abbrev s_law_below : Stmt := topS 19
abbrev s_law_pick : Stmt := topS 20
theorem sc_law_kneaded : FnScope ["seed", "lap", "prime", "amount", "again"] ["seed", "lap"] (defScope s_law_kneaded) := ⟨rfl, rfl, rfl, by decide +kernel, rfl, by decide +kernel, by decide +kernel⟩
theorem sc_law_pot_of : FnScope ["script", "cell", "cells", "place"] ["script"] (defScope s_law_pot_of) := ⟨rfl, rfl, rfl, by decide +kernel, rfl, by decide +kernel, by decide +kernel⟩
theorem sc_law_below : FnScope ["pot", "bound", "cells", "place", "amount", "found"] ["pot", "bound"] (defScope s_law_below) := ⟨rfl, rfl, rfl, by decide +kernel, rfl, by decide +kernel, by decide +kernel⟩
theorem sc_law_pick : FnScope ["pot", "items"] ["pot", "items"] (defScope s_law_pick) := ⟨rfl, rfl, rfl, by decide +kernel, rfl, by decide +kernel, by decide +kernel⟩
/-! ### heaps -/
/-- all that was tracked is as it was, but what stands at p -/
def But (p : Addr) (H H' : Hp) : Prop := (∀ b o, H b = some o → b ≠ p → H' b = some o) ∧ H' p ≠ none
theorem But.trans {p : Addr} {H H1 H2 : Hp} (a : But p H H1) (b : But p H1 H2) : But p H H2 := ⟨fun c o e n => b.1 c o (a.1 c o e n) n, b.2⟩
theorem But.free {p : Addr} {H H' : Hp} (a : But p H H') {q : Addr} (h : H' q = none) : H q = none := by
  cases e : H q with
  | none => rfl
  | some o =>
    by_cases n : q = p
    · subst n
      exact absurd h a.2
    · rw [a.1 q o e n] at h
      cases h
theorem But.same {p : Addr} {H H1 H2 : Hp} (a : But p H H1) (b : Same H1 H2) : But p H H2 := ⟨fun c o e n => b c o (a.1 c o e n), fun z => by
  cases e : H1 p with
  | none => exact a.2 e
  | some o =>
    rw [b p o e] at z
    cases z⟩
theorem But.of {p : Addr} {H H1 : Hp} {o : HO} (h : H1 p = some o) (b : Same H H1) : But p H H1 := ⟨fun c o e n => b c o e, fun z => by
  rw [h] at z
  cases z⟩
theorem same_upd {H : Hp} {p : Addr} {o : HO} (h : H p = none) : Same H (upd H p o) := fun b x e => by
  rw [upd_ne (ne_of_none e h)]
  exact e
theorem but_upd {H : Hp} {p : Addr} {o : HO} : But p H (upd H p o) := ⟨fun b x e n => by
  rw [upd_ne n]
  exact e, fun z => by
  rw [upd_same] at z
  cases z⟩
/-- a pot at p, its cells at c -/
def Pot (H : Hp) (p c : Addr) : Prop := ∃ (ns : List Int) (pl am sz : Int), H p = some (.lst [.ref c, .int pl, .int am, .int sz]) ∧ H c = some (.lst (ns.map V.int)) ∧ ns.length ≤ 17
theorem pot_ne {H : Hp} {p c : Addr} {ns : List Int} {r : List V} (hp : H p = some (.lst (.ref c :: r))) (hc : H c = some (.lst (ns.map V.int))) : c ≠ p := fun z => by
  rw [z, hp] at hc
  cases ns with
  | nil => cases hc
  | cons x s => cases hc
theorem Pot.same {H H' : Hp} {p c : Addr} (h : Pot H p c) (s : Same H H') : Pot H' p c := by
  obtain ⟨ns, pl, am, sz, h1, h2, h3⟩ := h
  exact ⟨ns, pl, am, sz, s _ _ h1, s _ _ h2, h3⟩
theorem Pot.but {H H' : Hp} {p c q : Addr} (h : Pot H p c) (s : But q H H') (n1 : p ≠ q) (n2 : c ≠ q) : Pot H' p c := by
  obtain ⟨ns, pl, am, sz, h1, h2, h3⟩ := h
  exact ⟨ns, pl, am, sz, s.1 _ _ h1 n1, s.1 _ _ h2 n2, h3⟩
theorem at4 {x0 x1 x2 x3 : V} : atI [x0, x1, x2, x3] 0 = some x0 ∧ atI [x0, x1, x2, x3] 1 = some x1 ∧ atI [x0, x1, x2, x3] 2 = some x2 ∧ atI [x0, x1, x2, x3] 3 = some x3 := ⟨rfl, rfl, rfl, rfl⟩
theorem fmod_range {i j : Int} (h : 0 < j) : 0 ≤ i % j ∧ i % j < j := ⟨Int.emod_nonneg _ (by omega), Int.emod_lt_of_pos _ h⟩
theorem at_mod {ns : List Int} {pl : Int} (h : ns ≠ []) : ∃ z, atI (ns.map V.int) (pl % (ns.length : Int)) = some (.int z) := by
  have hl : 0 < ns.length := by
    cases ns with
    | nil => exact absurd rfl h
    | cons => exact Nat.succ_pos _
  have a := fmod_range (i := pl) (j := (ns.length : Int)) (by omega)
  obtain ⟨j, hj⟩ : ∃ j : Nat, pl % (ns.length : Int) = (j : Int) := ⟨(pl % (ns.length : Int)).toNat, by omega⟩
  have hjl : j < ns.length := by omega
  refine ⟨ns[j], ?_⟩
  rw [hj]
  refine atI_nat ?_
  rw [List.getElem?_map, List.getElem?_eq_getElem hjl]
  rfl
/-! ### data: lists of ints, of texts -/
theorem dp_ints {K : PySem.W.Frag} {H : Hp} : ∀ ns : List Int, DpAll K H (ns.map V.int) (ns.map PyData.int)
  | [] => .nil
  | n :: r => .cons (.int n) (dp_ints r)
theorem lay_ints : ∀ ns : List Int, PyData.canLayAll0 (ns.map PyData.int) = true
  | [] => by simp [PyData.canLayAll0]
  | n :: r => by simp [PyData.canLayAll0, PyData.canLay0, lay_ints r]
theorem dep_ints : ∀ ns : List Int, PyData.depthAll (ns.map PyData.int) ≤ 1
  | [] => by simp [PyData.depthAll]
  | n :: r => by
    have h := dep_ints r
    simp only [List.map_cons, PyData.depthAll, PyData.depth]
    omega
theorem sh_of {d : PyData} (h1 : d.canLay0 = true) (h2 : d.depth ≤ 64) : SeqAt.shaped d = true := by
  show (d.canLay0 && decide (d.depth ≤ 64)) = true
  rw [h1, decide_eq_true h2]
  rfl
theorem sh_ints (ns : List Int) : SeqAt.shaped (.list (ns.map PyData.int)) = true := by
  have h := dep_ints ns
  exact sh_of (by simp only [PyData.canLay0]; exact lay_ints ns) (by simp only [PyData.depth]; omega)
theorem sh_nil : SeqAt.shaped (.list []) = true := sh_of (by simp [PyData.canLay0, PyData.canLayAll0]) (by simp [PyData.depth, PyData.depthAll])
theorem eqv_nil : ∀ ds : List PyData, PyData.eqv (.list ds) (.list []) = decide (ds = [])
  | [] => by simp [PyData.eqv, PyData.eqvAll]
  | _ :: _ => by simp [PyData.eqv, PyData.eqvAll]
theorem pos17 : (0 : Int) < 17 := by decide
theorem posQ : (0 : Int) < 982451629 := by decide
theorem posP : (0 : Int) < 2305843009213693907 := by decide
/-! ### what the module holds -/
structure TxtD (mg : Str → Option Value) : Prop where
  n_int : mg "int" = none
  n_range : mg "range" = none
  n_abs : mg "abs" = none
  n_enumerate : mg "enumerate" = none
  n_len : mg "len" = none
/-! ### promises -/
def spKneaded : Sp := fun vs H Q _ => ∃ (a b : Int), vs = [.int a, .int b] ∧ ∀ v, Q (.int v) H
def spPotOf (K : PySem.W.Frag) : Sp := fun vs H Q _ => ∃ (a : Addr) (ns : List Int), vs = [.ref a] ∧ SqL K H a (ns.map V.int) ∧ ns.length ≤ 63 ∧ ∀ p c H', Same H H' → H p = none → H c = none → Pot H' p c → Q (.ref p) H'
def spBelow : Sp := fun vs H Q _ => ∃ (p c : Addr) (b : Int), vs = [.ref p, .int b] ∧ Pot H p c ∧ 0 < b ∧ b < 1073741824 ∧ ∀ v H', 0 ≤ v → v < b → Pot H' p c → But p H H' → Q (.int v) H'
def spPick (K : PySem.W.Frag) : Sp := fun vs H Q _ => ∃ (p c l : Addr) (xs : List V), vs = [.ref p, .ref l] ∧ Pot H p c ∧ SqL K H l xs ∧ xs ≠ [] ∧ xs.length < 1073741824 ∧ (∀ H', But p H H' → SqL K H' l xs) ∧ ∀ v H', v ∈ xs → Pot H' p c → But p H H' → Q v H'
section
variable {P : Program} {w : World} {K : PySem.W.Frag} {mg : Str → Option Value} {base : Heap}
theorem ok_kneaded {f : Addr} {fd : FuncData} {k : Nat} (F : Fun K "_law_kneaded" "_law_kneaded" s_law_kneaded f fd) (T : TxtD mg) : FnOk P w K mg base CX0 (k + 1) f fd ["seed", "lap"] spKneaded := by
  refine F.ok sc_law_kneaded (fun vs H Q E h => ?_) (fun cdv A outer s H vs Q E hr h => ?_)
  · obtain ⟨a, b, rfl, _⟩ := h
    rfl
  · obtain ⟨a, b, rfl, q⟩ := h
    refine ⟨_, (pss_cons (ps_set (i := 2) sc_law_kneaded.nd rfl (.inl rfl) pe_int)
  (pss_cons (ps_set (i := 3) sc_law_kneaded.nd rfl (.inl rfl) (pe_op op_mod (pe_callTy call_int1 (by rfl) T.n_int (by decide +kernel) (pa_cons (pe_op op_add (pe_op op_add (pe_op op_mul (pv 0) pe_int) (pe_op op_mul (pv 1) pe_int)) pe_int) pa_nil)) (pv 2)))
  (pss_cons (ps_for PassesOwn.never rfl (pi_range1 (by rfl) T.n_range (pa_cons pe_int pa_nil)) (pg_name (i := 4) sc_law_kneaded.nd rfl (.inl rfl))
   (pss_one (ps_set (i := 3) sc_law_kneaded.nd rfl (.inl rfl) (pe_op op_mod (pe_callTy call_int1 (by rfl) T.n_int (by decide +kernel) (pa_cons (pe_op op_add (pe_op op_add (pe_op op_add (pe_op op_mul (pv 3) (pv 3)) (pe_op op_mul pe_int (pv 3))) (pe_op op_mul pe_int (pv 4))) (pv 1)) pa_nil)) (pv 2)))))
  (pss_one (ps_ret (pe_op op_add (pe_op op_mul (pv 3) (pv 2)) (pe_op op_mod (pe_callTy call_int1 (by rfl) T.n_int (by decide +kernel) (pa_cons (pe_op op_add (pe_op op_mul (pv 3) pe_int) (pv 1)) pa_nil)) (pv 2)))))))), ?_⟩
    -- prime = ..; amount = ..
    refine ⟨_, rfl, _, _, rfl, rfl, .inr ⟨by decide, by decide⟩, _, rfl, _, _, rfl, rfl, .inr ⟨by decide, by decide⟩, _, _, rfl, rfl, _, _, rfl, rfl, .inl ⟨_, rfl, _, rfl, _, _, rfl, rfl, posP, ?_⟩⟩
    refine ⟨4, rfl, by decide, by decide, for_range (n := 4) (fun i σ H2 => H2 = H ∧ ∃ (am : Int) (v : Option V), σ = [some (.int a), some (.int b), some (.int 2305843009213693907), some (.int am), v] ∧ 0 ≤ am ∧ am < 2305843009213693907)
      ⟨rfl, _, none, rfl, (fmod_range (by decide)).1, (fmod_range (by decide)).2⟩ ?_ ?_⟩
    · rintro i σ H2 hi ⟨rfl, am, v, rfl, h1, h2⟩
      refine ⟨_, rfl, _, rfl, _, _, rfl, rfl, .inl ⟨by omega, by omega⟩, _, rfl, _, _, rfl, rfl, .inl ⟨by decide, by decide⟩, _, _, rfl, rfl, _, rfl, _, _, rfl, rfl, .inl ⟨by decide, by decide⟩, _, _, rfl, rfl, _, rfl, _, _, rfl, rfl, .inl ⟨_, rfl, _, rfl, _, _, rfl, rfl, posP, ?_⟩⟩
      exact ⟨rfl, _, _, rfl, (fmod_range (by decide)).1, (fmod_range (by decide)).2⟩
    · rintro σ H2 ⟨rfl, am, v, rfl, h1, h2⟩
      refine ⟨_, rfl, _, rfl, _, _, rfl, rfl, .inl ⟨by omega, by omega⟩, _, rfl, _, _, rfl, rfl, .inl ⟨by omega, by omega⟩, _, rfl, _, _, rfl, rfl, .inl ⟨_, rfl, _, rfl, _, _, rfl, rfl, posP, ?_⟩⟩
      exact ⟨_, _, rfl, rfl, q _⟩
theorem cut_map (ns : List Int) (lo hi : Option Int) : cutV (ns.map V.int) lo hi = ((ns.drop (HT.sIx ns.length 0 lo)).take (HT.sIx ns.length ns.length hi - HT.sIx ns.length 0 lo)).map V.int := by
  unfold cutV
  rw [List.length_map, List.map_take, List.map_drop]
theorem ok_pot_of {f : Addr} {fd : FuncData} {k : Nat} (F : Fun K "_law_pot_of" "_law_pot_of" s_law_pot_of f fd) (T : TxtD mg) : FnOk P w K mg base CX0 (k + 1) f fd ["script"] (spPotOf K) := by
  refine F.ok sc_law_pot_of (fun vs H Q E h => ?_) (fun cdv A outer s H vs Q E hr h => ?_)
  · obtain ⟨a, ns, rfl, _⟩ := h
    rfl
  · obtain ⟨a, ns, rfl, hS, hl, q⟩ := h
    refine ⟨_, (pss_cons (ps_setLc (i := 2) (own := [("cell", 1)]) (g := gName 1) rfl sc_law_pot_of.nd rfl rfl (sw_true rfl rfl rfl (by decide +kernel)) (pi_list (pe_slice sl_list (pv 0) po_none (po_some pe_int))) (blkOk_by (own := [("cell", 1)]) (N := ["script", "cell", "cells", "place"]) (sc := defScope s_law_pot_of) (by decide +kernel)) (fun _ _ _ _ _ => (pg_name (i := 1) sc_law_pot_of.nd rfl (.inl rfl))) (fun _ _ _ _ _ => pts_nil) (fun _ _ _ _ _ => (pe_callB call_abs (by rfl) T.n_abs (by decide +kernel) (pa_cons (pv 1) pa_nil))))
  (pss_cons (ps_for PassesOwn.never rfl (pi_enum (by rfl) T.n_enumerate (pa_cons (pe_slice sl_list (pv 0) (po_some pe_int) (po_some pe_int)) pa_nil)) (pg_tup rfl (pgs_cons (pg_name (i := 3) sc_law_pot_of.nd rfl (.inl rfl)) (pgs_cons (pg_name (i := 1) sc_law_pot_of.nd rfl (.inl rfl)) pgs_nil)))
   (pss_one (ps_asg (pe_op op_add (pe_ix ix_list (pv 2) (pe_op op_mod (pv 3) pe_int) (fun _ _ => rfl)) (pe_callB call_abs (by rfl) T.n_abs (by decide +kernel) (pa_cons (pv 1) pa_nil))) (pg_sub (pv 2) (pe_op op_mod (pv 3) pe_int) set_list))))
  (pss_one (ps_ret (pe_lst (pa_cons (pv 2) (pa_cons pe_int (pa_cons pe_int (pa_cons pe_int pa_nil))))))))), ?_⟩
    -- cells
    refine ⟨_, rfl, _, rfl, a, _, rfl, hS, fun p1 n1 => ?_⟩
    rw [cut_map]
    generalize hm : (ns.drop (HT.sIx ns.length 0 none)).take (HT.sIx ns.length ns.length (some 17) - HT.sIx ns.length 0 none) = ms
    have lm : ms.length = min 17 ns.length := by
      rw [← hm, HT.sIx_none, show HT.sIx ns.length ns.length (some 17) = min 17 ns.length from HT.sIx_nat ns.length ns.length 17]
      rw [List.drop_zero, List.length_take]
      omega
    have s1 : Same H (upd H p1 (.lst (ms.map V.int))) := same_upd n1
    refine ⟨p1, rfl, ⟨_, .inl (.inl upd_same)⟩, fun D nD => ?_⟩
    have nDH : H D = none := s1.free nD
    have nDp : p1 ≠ D := fun z => by
      rw [z, upd_same] at nD
      cases nD
    refine lc_list (K := K) (a := p1) (xs := ms.map V.int) (fun i H2 => Same (upd H p1 (.lst (ms.map V.int))) H2 ∧ ∃ zs : List Int, H2 D = some (.lst (zs.map V.int)) ∧ zs.length = i) ⟨same_upd nD, [], upd_same, rfl⟩ (fun i H2 _ h => .inl (.inl (h.1 _ _ upd_same))) ?_ ?_
    · rintro i x H2 hi ⟨s2, zs, hz, hlz⟩
      have hil : i < ms.length := by
        have h := (List.getElem?_eq_some_iff.mp hi).1
        rw [List.length_map] at h
        exact h
      rw [List.getElem?_map, List.getElem?_eq_getElem hil] at hi
      obtain rfl : V.int ms[i] = x := Option.some.inj hi
      refine ⟨rfl, ?_⟩
      unfold tYes
      dsimp only
      rw [if_pos rfl]
      refine ⟨_, rfl, _, rfl, _, hz, ?_, ?_, ?_⟩
      · rw [List.length_map]
        exact small1000 (by omega)
      · exact fun b o e => by
          have hb : b ≠ D := ne_of_none e nD
          rw [upd_ne hb]
          exact s2 b o e
      · refine ⟨zs ++ [if ms[i] < 0 then -ms[i] else ms[i]], ?_, ?_⟩
        · rw [upd_same, List.map_append]
          rfl
        · rw [List.length_append, hlz]
          rfl
    · rintro H2 ⟨s2, zs, hz, hlz⟩
      have sH : Same H H2 := s1.trans s2
      rw [List.length_map] at hlz
      -- enumerate(script[17:60])
      refine ⟨_, rfl, _, rfl, _, rfl, a, _, rfl, sH.seq hS, fun p2 n2 => ?_⟩
      rw [cut_map]
      generalize hm2 : (ns.drop (HT.sIx ns.length 0 (some 17))).take (HT.sIx ns.length ns.length (some 60) - HT.sIx ns.length 0 (some 17)) = ms2
      have lm2 : ms2.length = min 60 ns.length - 17 := by
        rw [← hm2, show HT.sIx ns.length ns.length (some 60) = min 60 ns.length from HT.sIx_nat ns.length ns.length 60, show HT.sIx ns.length 0 (some 17) = min 17 ns.length from HT.sIx_nat ns.length 0 17]
        rw [List.length_take, List.length_drop]
        omega
      have s3 : Same H2 (upd H2 p2 (.lst (ms2.map V.int))) := same_upd n2
      have nDp2 : D ≠ p2 := ne_of_none hz n2
      refine ⟨p2, _, rfl, .inl (.inl upd_same), ?_⟩
      refine for_it (walk_enum (xs := ms2.map V.int)) (fun i σ H3 => Same H H3 ∧ H3 p2 = some (.lst (ms2.map V.int)) ∧ ∃ (zs : List Int) (y z : Option V), σ = [some (.ref a), y, some (.ref D), z] ∧ H3 D = some (.lst (zs.map V.int)) ∧ zs.length = ms.length)
        ⟨sH.trans s3, upd_same, zs, _, _, rfl, s3 _ _ hz, hlz⟩ (fun i σ H3 _ h => .inl (.inl h.2.1)) ?_ ?_
      · rintro i x σ H3 H4 hi ⟨s4, h4, zs4, y, z, rfl, hz4, lz4⟩ ⟨T4, x4, y4, rfl, nT, rfl, ex, ey⟩
        rw [List.length_map] at hi
        have ey : (ms2.map V.int)[i]? = some y4 := ey
        rw [List.getElem?_map, List.getElem?_eq_getElem hi] at ey
        obtain rfl : V.int ms2[i] = y4 := Option.some.inj ey
        obtain rfl : V.int (i : Nat) = x4 := Option.some.inj ex
        have l17 : zs4.length = 17 := by omega
        have r := fmod_range (i := ((i : Nat) : Int)) (j := 17) (by omega)
        obtain ⟨j, hj⟩ : ∃ j : Nat, ((i : Nat) : Int) % 17 = (j : Int) := ⟨(((i : Nat) : Int) % 17).toNat, by omega⟩
        have hjl : j < zs4.length := by omega
        have s5 : Same H3 (upd H3 T4 (.tup [.int (i : Nat), .int ms2[i]])) := same_upd nT
        have hz5 := s5 _ _ hz4
        refine ⟨T4, _, rfl, .inl (.inl upd_same), rfl, _, _, rfl, _, _, rfl, rfl, ?_⟩
        refine ⟨_, rfl, _, rfl, _, _, rfl, rfl, pos17, D, _, _, V.int zs4[j], rfl, rfl, .inl (.inl hz5), ?_, _, rfl, _, rfl, _, _, rfl, rfl, _, rfl, _, rfl, _, _, rfl, rfl, pos17, D, _, _, j, rfl, rfl, hz5, ?_, ?_⟩
        · rw [hj]
          refine atI_nat ?_
          rw [List.getElem?_map, List.getElem?_eq_getElem hjl]
          rfl
        · rw [List.length_map, hj]
          unfold ixN
          rw [if_pos (by omega), if_pos (by omega)]
          rfl
        · refine ⟨?_, ?_, zs4.set j (zs4[j] + (if ms2[i] < 0 then -ms2[i] else ms2[i])), _, _, rfl, ?_, ?_⟩
          · exact fun b o e => by
              have hb : b ≠ D := ne_of_none e nDH
              rw [upd_ne hb]
              exact s5 _ _ (s4 b o e)
          · rw [upd_ne (fun z => nDp2 z.symm)]
            exact s5 _ _ h4
          · rw [upd_same, List.map_set]
          · rw [List.length_set]
            exact lz4
      · rintro σ H3 ⟨s4, h4, zs4, y, z, rfl, hz4, lz4⟩
        refine ⟨_, rfl, ?_, fun p np => ?_⟩
        · show 4 ≤ sizeLine
          decide
        · have s6 : Same H3 (upd H3 p (.lst [.ref D, .int 0, .int 0, .int 0])) := same_upd np
          exact q p D _ (s4.trans s6) (s4.free np) nDH ⟨zs4, 0, 0, 0, upd_same, s6 _ _ hz4, by omega⟩
theorem ok_below {f fk : Addr} {fd fdk : FuncData} {k : Nat} (F : Fun K "_law_below" "_law_below" s_law_below f fd) (T : TxtD mg) (F__law_kneaded : Fun K "_law_kneaded" "_law_kneaded" s_law_kneaded fk fdk) (b__law_kneaded : Binds K fdk ["seed", "lap"] []) (g_k : mg "_law_kneaded" = some (.ref fk)) :
    FnOk P w K mg base CX0 (k + 2) f fd ["pot", "bound"] spBelow := by
  have G__law_kneaded : FnOk P w K mg base CX0 1 fk fdk ["seed", "lap"] spKneaded := ok_kneaded F__law_kneaded T
  refine F.ok sc_law_below (fun vs H Q E h => ?_) (fun cdv A outer s H vs Q E hr h => ?_)
  · obtain ⟨p, c, b, rfl, _⟩ := h
    rfl
  · obtain ⟨p, c, b, rfl, ⟨ns, pl, am, sz, hp, hc, hl⟩, b0, b1, q⟩ := h
    refine ⟨_, (C8.pss_cut (ps_if (pt_cmpR op_lt (pe_ix ix_list (pv 0) pe_int (fun _ _ => rfl)) (pv 1) (nomark _))
   (pss_cons (ps_par (i := 2) (j := 3) (by rfl) sc_law_below.nd rfl rfl (by decide) rfl rfl (pa_cons (pe_ix ix_list (pv 0) pe_int (fun _ _ => rfl)) (pa_cons (pe_ix ix_list (pv 0) pe_int (fun _ _ => rfl)) pa_nil)) (by rfl))
  (C8.pss_cut (ps_set (i := 4) sc_law_below.nd rfl (.inl rfl) (pe_ifExp (pt_cmpR (op_neD hr.units) (pv 2) (pe_lst pa_nil) (nomark _)) (pe_ix ix_list (pv 2) (pe_op op_mod (pv 3) (pe_callB call_len_seq (by rfl) T.n_len (by decide +kernel) (pa_cons (pv 2) pa_nil))) (fun _ _ => rfl)) pe_int))
  (C8.pss_cut (ps_if (PW.pt (pw_or (pt_cmpR op_ge (pv 3) (pe_callB call_len_seq (by rfl) T.n_len (by decide +kernel) (pa_cons (pv 2) pa_nil)) (nomark _)) (pw_or1 (pt_cmpR op_lt (pv 4) (pe_op op_pow pe_int pe_int) (nomark _)))))
   (pss_one (ps_set (i := 4) sc_law_below.nd rfl (.inl rfl) (pe_call G__law_kneaded (hr.mono (by omega)) (by rfl) g_k F__law_kneaded.kp b__law_kneaded .nil pass0 (pa_cons (pe_op op_mod (pe_callTy call_int1 (by rfl) T.n_int (by decide +kernel) (pa_cons (pv 4) pa_nil)) pe_int) (pa_cons (pv 3) pa_nil)))))
   pss_nil)
  (pss_cons (ps_asg (pe_op op_add (pv 3) pe_int) (pg_sub (pv 0) pe_int set_list))
  (pss_cons (ps_asg (pv 4) (pg_sub (pv 0) pe_int set_list))
  (pss_one (ps_asg (pv 4) (pg_sub (pv 0) pe_int set_list))))))))
   pss_nil)
  (pss_cons (ps_set (i := 5) sc_law_below.nd rfl (.inl rfl) (pe_op op_mod (pe_callTy call_int1 (by rfl) T.n_int (by decide +kernel) (pa_cons (pe_ix ix_list (pv 0) pe_int (fun _ _ => rfl)) pa_nil)) (pv 1)))
  (pss_cons (ps_asg (pe_op op_fdiv (pe_ix ix_list (pv 0) pe_int (fun _ _ => rfl)) (pv 1)) (pg_sub (pv 0) pe_int set_list))
  (pss_cons (ps_asg (pe_op op_fdiv (pe_ix ix_list (pv 0) pe_int (fun _ _ => rfl)) (pv 1)) (pg_sub (pv 0) pe_int set_list))
  (pss_one (ps_ret (pv 5))))))), ?_⟩
    have ncp : c ≠ p := pot_ne hp hc
    refine ⟨fun σ H2 => ∃ (pl2 am2 sz2 : Int) (x2 x3 x4 : Option V), σ = [some (.ref p), some (.int b), x2, x3, x4, none] ∧ But p H H2 ∧ H2 p = some (.lst [.ref c, .int pl2, .int am2, .int sz2]) ∧ H2 c = some (.lst (ns.map V.int)), ?_, ?_⟩
    · refine ⟨_, rfl, p, _, _, _, rfl, rfl, .inl (.inl hp), at4.2.2.2, _, rfl, _, _, rfl, rfl, _, rfl, ite2 (fun e => ?_) (fun e => ?_)⟩
      · refine ⟨_, rfl, p, _, _, _, rfl, rfl, .inl (.inl hp), at4.1, _, rfl, p, _, _, _, rfl, rfl, .inl (.inl hp), at4.2.1, _, _, rfl, ?_⟩
        -- amount = cells[..] if cells != [] else 0
        refine ⟨fun σ H2 => ∃ am3 : Int, σ = [some (.ref p), some (.int b), some (.ref c), some (.int pl), some (.int am3), none] ∧ Same H H2, ?_, ?_⟩
        · refine ⟨_, rfl, Nat.zero_le _, fun o no => ?_⟩
          have so : Same H (upd H o (.lst [])) := same_upd no
          have ho : SqL K (upd H o (.lst [])) o [] := .inl (.inl upd_same)
          have hp1 := so _ _ hp
          have hc1 := so _ _ hc
          refine ⟨_, _, .lst (.inl (.inl hc1)) (dp_ints ns), .lst ho .nil, sh_ints ns, sh_nil, _, rfl, ?_⟩
          rw [eqv_nil]
          by_cases hn : ns = []
          · subst hn
            refine iteF ?_
            exact ⟨_, rfl, so⟩
          · have h1 : decide (ns.map PyData.int = []) = false := by
              cases ns with
              | nil => exact absurd rfl hn
              | cons => rfl
            rw [h1]
            refine iteT ?_
            obtain ⟨z, hz⟩ := at_mod (pl := pl) hn
            have hl0 : 0 < ns.length := by
              cases ns with
              | nil => exact absurd rfl hn
              | cons => exact Nat.succ_pos _
            refine ⟨_, rfl, _, rfl, _, rfl, c, _, rfl, .inl (.inl (.inl hc1)), _, _, rfl, rfl, ?_, c, _, _, V.int z, rfl, rfl, .inl (.inl hc1), ?_, ?_⟩
            · rw [List.length_map]
              omega
            · rw [List.length_map]
              exact hz
            · exact ⟨z, rfl, so⟩
        -- if place >= len(cells) or amount < 10 ** 16
        · rintro σ H2 ⟨am3, rfl, s2⟩
          have hp2 := s2 _ _ hp
          have hc2 := s2 _ _ hc
          refine ⟨fun σ H2 => ∃ am3 : Int, σ = [some (.ref p), some (.int b), some (.ref c), some (.int pl), some (.int am3), none] ∧ Same H H2, ?_, ?_⟩
          · have yes : ∃ am4 : Int, ∀ v : Int, True := ⟨0, fun _ => True.intro⟩
            refine ⟨_, rfl, _, rfl, c, _, rfl, .inl (.inl (.inl hc2)), _, _, rfl, rfl, _, rfl, ?_⟩
            refine ite2 (fun e => ?_) (fun e => ?_)
            · refine iteT ?_
              refine ⟨_, rfl, .inl ⟨_, rfl, _, _, rfl, rfl, posQ, _, rfl, _, _, rfl, fun v => ⟨v, rfl, s2⟩⟩⟩
            · refine ⟨_, rfl, _, _, rfl, rfl, ⟨by decide, by decide, by decide⟩, _, _, rfl, rfl, _, rfl, ?_⟩
              refine ite2 (fun e => ?_) (fun e => ?_)
              · refine ⟨_, rfl, .inl ⟨_, rfl, _, _, rfl, rfl, posQ, _, rfl, _, _, rfl, fun v => ⟨v, rfl, s2⟩⟩⟩
              · exact ⟨am3, rfl, s2⟩
          · -- pot[1] = place + 1; pot[2] = amount; pot[3] = amount
            rintro σ H2 ⟨am3, rfl, s2⟩
            have hp2 := s2 _ _ hp
            have hc2 := s2 _ _ hc
            refine ⟨_, rfl, _, _, rfl, rfl, _, rfl, p, _, _, _, rfl, rfl, hp2, rfl, ?_⟩
            refine ⟨_, rfl, _, rfl, p, _, _, _, rfl, rfl, upd_same, rfl, ?_⟩
            refine ⟨_, rfl, _, rfl, p, _, _, _, rfl, rfl, upd_same, rfl, ?_⟩
            refine ⟨pl + 1, am3, am3, _, _, _, rfl, (((But.of hp2 s2).trans but_upd).trans but_upd).trans but_upd, ?_, ?_⟩
            · rw [upd_same]
              rfl
            · rw [upd_ne ncp, upd_ne ncp, upd_ne ncp]
              exact hc2
      · exact ⟨pl, am, sz, none, none, none, rfl, ⟨fun _ _ z _ => z, by rw [hp]; exact fun z => nomatch z⟩, hp, hc⟩
    · rintro σ H2 ⟨pl2, am2, sz2, x2, x3, x4, rfl, hb, hp2, hc2⟩
      -- found = int(pot[2]) % bound
      refine ⟨_, rfl, p, _, _, _, rfl, rfl, .inl (.inl hp2), at4.2.2.1, .inl ⟨_, rfl, _, rfl, _, _, rfl, rfl, b0, ?_⟩⟩
      -- pot[2] = pot[2] // bound; pot[3] = pot[3] // bound
      refine ⟨_, rfl, p, _, _, _, rfl, rfl, .inl (.inl hp2), at4.2.2.1, _, rfl, _, _, rfl, rfl, ⟨b0, b1⟩, _, rfl, p, _, _, _, rfl, rfl, hp2, rfl, ?_⟩
      refine ⟨_, rfl, p, _, _, _, rfl, rfl, .inl (.inl upd_same), at4.2.2.2, _, rfl, _, _, rfl, rfl, ⟨b0, b1⟩, _, rfl, p, _, _, _, rfl, rfl, upd_same, rfl, ?_⟩
      refine ⟨_, rfl, q _ _ (fmod_range b0).1 (fmod_range b0).2 ⟨ns, pl2, am2 / b, sz2 / b, ?_, ?_, hl⟩ ((hb.trans but_upd).trans but_upd)⟩
      · rw [upd_same]
        rfl
      · rw [upd_ne ncp, upd_ne ncp]
        exact hc2
theorem ok_pick {f fb : Addr} {fd fdb : FuncData} {k : Nat} (F : Fun K "_law_pick" "_law_pick" s_law_pick f fd) (T : TxtD mg) (F__law_below : Fun K "_law_below" "_law_below" s_law_below fb fdb) (b__law_below : Binds K fdb ["pot", "bound"] []) (g_b : mg "_law_below" = some (.ref fb))
    (G__law_below : FnOk P w K mg base CX0 2 fb fdb ["pot", "bound"] spBelow) : FnOk P w K mg base CX0 (k + 3) f fd ["pot", "items"] (spPick K) := by
  refine F.ok sc_law_pick (fun vs H Q E h => ?_) (fun cdv A outer s H vs Q E hr h => ?_)
  · obtain ⟨p, c, l, xs, rfl, _⟩ := h
    rfl
  · obtain ⟨p, c, l, xs, rfl, hP, hS, hne, hlen, hk, q⟩ := h
    have hl : 0 < xs.length := by
      cases xs with
      | nil => exact absurd rfl hne
      | cons => exact Nat.succ_pos _
    refine ⟨_, (pss_one (ps_ret (pe_ix ix_list (pv 1) (pe_call G__law_below (hr.mono (by omega)) (by rfl) g_b F__law_below.kp b__law_below .nil pass0 (pa_cons (pv 0) (pa_cons (pe_callB call_len_seq (by rfl) T.n_len (by decide +kernel) (pa_cons (pv 1) pa_nil)) pa_nil))) (fun _ _ => rfl)))), ?_⟩
    refine ⟨_, rfl, _, rfl, _, rfl, l, xs, rfl, .inl hS, p, c, _, rfl, hP, by omega, by omega, fun v H' v0 v1 hP' hb => ?_⟩
    obtain ⟨j, rfl⟩ : ∃ j : Nat, v = (j : Int) := ⟨v.toNat, by omega⟩
    have hj : j < xs.length := by omega
    exact ⟨l, xs, _, xs[j], rfl, rfl, hk H' hb, atI_nat (List.getElem?_eq_getElem hj), q _ H' (List.getElem_mem hj) hP' hb⟩
end
end My

namespace My
open PySem PySem.Spec PyProof.Rows L2
abbrev s_is_integer : Stmt := topS 4
theorem sc_is_integer : FnScope ["thing"] ["thing"] (defScope s_is_integer) := ⟨rfl, rfl, rfl, by decide +kernel, rfl, by decide +kernel, by decide +kernel⟩
abbrev s_is_name : Stmt := topS 5
theorem sc_is_name : FnScope ["thing", "sign"] ["thing"] (defScope s_is_name) := ⟨rfl, rfl, rfl, by decide +kernel, rfl, by decide +kernel, by decide +kernel⟩
abbrev s_law_is_named : Stmt := topS 23
theorem sc_law_is_named : FnScope ["word", "letters", "figures", "sign"] ["word"] (defScope s_law_is_named) := ⟨rfl, rfl, rfl, by decide +kernel, rfl, by decide +kernel, by decide +kernel⟩
/-! ### names -/
abbrev c_LETTERS : Str := "abcdefghijklmnopqrstuvwxyz"
abbrev c_DIGITS : Str := "0123456789"
abbrev isLet (c : Nat) : Bool := decide (c ∈ c_LETTERS.cps.toList)
abbrev isDig (c : Nat) : Bool := decide (c ∈ c_DIGITS.cps.toList)
abbrev isSign (c : Nat) : Bool := decide (c ∈ (c_LETTERS ++ c_DIGITS).cps.toList)
/-- what a name is -/
def isNm (z : Str) : Bool := match z.cps.toList with
  | [] => false
  | c :: r => decide (r.length < 8) && (isLet c && (c :: r).all isSign)
theorem sign_or (c : Nat) : isSign c = (isLet c || isDig c) := by
  have e : (c_LETTERS ++ c_DIGITS).cps.toList = c_LETTERS.cps.toList ++ c_DIGITS.cps.toList := by decide +kernel
  unfold isSign isLet isDig
  rw [e]
  simp only [List.mem_append, Bool.decide_or]
structure TxtN (mg : Str → Option Value) (tL tD : Tok) (tN : Tok) : Prop where
  n_isinstance : mg "isinstance" = none
  n_str : mg "str" = none
  n_int : mg "int" = none
  n_bool : mg "bool" = none
  n_len : mg "len" = none
  n_all : mg "all" = none
  g_LETTERS : mg "LETTERS" = some (.str c_LETTERS tL)
  g_DIGITS : mg "DIGITS" = some (.str c_DIGITS tD)
  g_LONGEST_NAME : mg "LONGEST_NAME" = some (.int 8 tN)
/-- a value of a built-in type T -/
def TyB (K : PySem.W.Frag) (H : Hp) (x : V) (T : String) : Prop := TyX K H x (.type T)
structure spIsName (K : PySem.W.Frag) (vs : List V) (H : Hp) (Q : VK) (E : XK) : Prop where
  ex : ∃ x, vs = [x] ∧ ((∃ z : Str, x = .str z ∧ z.length ≤ 1000 ∧ ∀ H', Same H H' → Q (.bl (isNm z)) H') ∨ (∃ T, TyX K H x (.type T) ∧ kitB T "str" = some false ∧ Q (.bl false) H))
structure spIsInt (K : PySem.W.Frag) (vs : List V) (H : Hp) (Q : VK) (E : XK) : Prop where
  ex : ∃ x T a b, vs = [x] ∧ TyX K H x (.type T) ∧ kitB T "int" = some a ∧ kitB T "bool" = some b ∧ Q (.bl (a && !b)) H

theorem dp_signs {K : PySem.W.Frag} {H : Hp} : ∀ cs : List Nat, DpAll K H (cs.map fun c => V.str (oneS c)) (cs.map fun c => PyData.str (oneS c))
  | [] => .nil
  | n :: r => .cons (.str _) (dp_signs r)
theorem lay_signs : ∀ cs : List Nat, (∀ c ∈ cs, c < 1114112) → PyData.canLayAll0 (cs.map fun c => PyData.str (oneS c)) = true
  | [], _ => by simp [PyData.canLayAll0]
  | n :: r, h => by
    have h1 : n < 1114112 := h n List.mem_cons_self
    have h2 := lay_signs r fun c hc => h c (List.mem_cons_of_mem _ hc)
    simp [PyData.canLayAll0, PyData.canLay0, PyData.strOk, h2, h1]
theorem dep_signs : ∀ cs : List Nat, PyData.depthAll (cs.map fun c => PyData.str (oneS c)) ≤ 1
  | [] => by simp [PyData.depthAll]
  | n :: r => by
    have h := dep_signs r
    simp only [List.map_cons, PyData.depthAll, PyData.depth]
    omega
theorem sh_signs {cs : List Nat} (h : ∀ c ∈ cs, c < 1114112) : SeqAt.shaped (.list (cs.map fun c => PyData.str (oneS c))) = true := by
  have h2 := dep_signs cs
  exact sh_of (by simp only [PyData.canLay0]; exact lay_signs cs h) (by simp only [PyData.depth]; omega)
def spIsNamed : Sp := fun vs H Q _ => ∃ z : Str, vs = [.str z] ∧ z.length ≤ 1000 ∧ (∀ c ∈ z.cps.toList, c < 1114112) ∧ ∀ H', Same H H' → Q (.bl (isNm z)) H'
section
variable {P : Program} {w : World} {K : PySem.W.Frag} {mg : Str → Option Value} {base : Heap}
theorem ok_is_integer {f : Addr} {fd : FuncData} {k : Nat} {tL tD tN : Tok} (F : Fun K "is_integer" "is_integer" s_is_integer f fd) (T : TxtN mg tL tD tN) : FnOk P w K mg base CX0 (k + 1) f fd ["thing"] (spIsInt K) := by
  refine F.ok sc_is_integer (fun vs H Q E h => ?_) (fun cdv A outer s H vs Q E hr h => ?_)
  · obtain ⟨x, Ty, a, b, rfl, _⟩ := h
    rfl
  · obtain ⟨x, Ty, a, b, rfl, ty, ha, hb, q⟩ := h
    refine ⟨_, (pss_one (ps_ret (pe_and (pe_callB call_isi (by rfl) T.n_isinstance (by decide +kernel) (pa_cons (pv 0) (pa_cons (pe_bltn (v := .ty "int") (by rfl) T.n_int (by decide +kernel) rfl) pa_nil))) (pe_one (pe_not (pe_callB call_isi (by rfl) T.n_isinstance (by decide +kernel) (pa_cons (pv 0) (pa_cons (pe_bltn (v := .ty "bool") (by rfl) T.n_bool (by decide +kernel) rfl) pa_nil)))))))), ?_⟩
    refine ⟨_, rfl, _, _, _, _, a, rfl, .ty "int", ty, kit_ty ha, a, rfl, ?_⟩
    cases a with
    | false => exact iteF q
    | true => exact iteT ⟨_, rfl, _, _, _, _, b, rfl, .ty "bool", ty, kit_ty hb, b, rfl, q⟩
theorem str_len (z : Str) : z.length = z.cps.toList.length := by simp [Str.length]
theorem all_take_all {α : Type} (p : α → Bool) (l : List α) : ((l.map p).all id) = l.all p := by
  rw [List.all_map]
  rfl
theorem ok_is_name {f : Addr} {fd : FuncData} {k : Nat} {tL tD tN : Tok} (F : Fun K "is_name" "is_name" s_is_name f fd) (T : TxtN mg tL tD tN) : FnOk P w K mg base CX0 (k + 1) f fd ["thing"] (spIsName K) := by
  refine F.ok sc_is_name (fun vs H Q E h => ?_) (fun cdv A outer s H vs Q E hr h => ?_)
  · obtain ⟨x, rfl, _⟩ := h
    rfl
  · obtain ⟨x, rfl, h⟩ := h
    refine ⟨_, (pss_cons (ps_if (PW.pt (pw_or (pt_not (pt_val (pe_callB call_isi (by rfl) T.n_isinstance (by decide +kernel) (pa_cons (pv 0) (pa_cons (pe_bltn (v := .ty "str") (by rfl) T.n_str (by decide +kernel) rfl) pa_nil))))) (pw_or1 (pt_not (pt_chain op_le op_le pe_int (pe_callB call_len_str (by rfl) T.n_len (by decide +kernel) (pa_cons (pv 0) pa_nil)) (pe_glob (v := .int 8) (by rfl) T.g_LONGEST_NAME ⟨_, rfl⟩))))))
   (pss_one (ps_ret pe_bl))
   pss_nil)
  (pss_one (ps_ret (pe_and (pe_cmpR op_in_sign (pe_ix ix_str (pv 0) pe_int (fun _ _ => rfl)) (pe_glob (v := .str c_LETTERS) (by rfl) T.g_LETTERS ⟨_, rfl⟩) rfl) (pe_one (pe_callB (cr_all (by rfl)) (by rfl) T.n_all (by decide +kernel) (pa_cons (pe_lc (own := [("sign", 1)]) (g := gName 1) rfl sc_is_name.nd (pi_str (pv 0)) (blkOk_by (own := [("sign", 1)]) (N := ["thing", "sign"]) (sc := defScope s_is_name) (by decide +kernel)) (fun _ _ _ _ _ => (pg_name (i := 1) sc_is_name.nd rfl (.inl rfl))) (fun _ _ _ _ _ => pts_nil) (fun _ _ _ _ _ => (pe_cmpR op_in_sign (pv 1) (pe_op op_add_str (pe_glob (v := .str c_LETTERS) (by rfl) T.g_LETTERS ⟨_, rfl⟩) (pe_glob (v := .str c_DIGITS) (by rfl) T.g_DIGITS ⟨_, rfl⟩)) rfl))) pa_nil))))))), ?_⟩
    rcases h with ⟨z, rfl, hz, q⟩ | ⟨Ty, ty, hk, q⟩
    · refine ⟨_, rfl, _, _, _, _, true, rfl, .ty "str", .base (.str z), kit_ty (by decide +kernel), true, rfl, ?_⟩
      refine iteF ?_
      have hzl : z.length ≤ sizeLine := Nat.le_of_lt (small1000 hz)
      refine ⟨_, rfl, _, rfl, hzl, _, _, rfl, rfl, _, rfl, ?_⟩
      cases hc : z.cps.toList with
      | nil =>
        have hl0 : z.length = 0 := by rw [str_len, hc]; rfl
        rw [hl0]
        refine iteF ?_
        refine ⟨_, rfl, ?_⟩
        refine iteT ?_
        have hn : isNm z = false := by unfold isNm; rw [hc]
        rw [hn] at q
        exact q H (Same.refl H)
      | cons c r =>
        have hl1 : z.length = r.length + 1 := by rw [str_len, hc]; rfl
        have h1 : decide ((1 : Int) ≤ ((z.length : Nat) : Int)) = true := decide_eq_true (by omega)
        rw [h1]
        refine iteT ?_
        refine ⟨_, _, rfl, rfl, _, rfl, ?_⟩
        by_cases h8 : r.length < 8
        · have h2 : decide (((z.length : Nat) : Int) ≤ 8) = true := decide_eq_true (by omega)
          rw [h2]
          refine iteF ?_
          have hat : atI z.cps.toList 0 = some c := by rw [hc]; exact atI_nat (j := 0) rfl
          refine ⟨_, rfl, z, 0, c, rfl, rfl, hzl, hat, c, c_LETTERS, rfl, rfl, isLet c, rfl, ?_⟩
          cases hL : isLet c with
          | false =>
            refine iteF ?_
            have hn : isNm z = false := by unfold isNm; rw [hc]; simp only [hL, Bool.false_and, Bool.and_false]
            rw [hn] at q
            exact q H (Same.refl H)
          | true =>
            refine iteT ?_
            refine ⟨_, rfl, z, rfl, fun D nD => ?_⟩
            refine lc_it walk_str (fun i H2 => Same H H2 ∧ H2 D = some (.lst (((z.cps.toList.take i).map isSign).map V.bl))) ⟨same_upd nD, upd_same⟩ (fun _ _ _ _ => True.intro) ?_ ?_
            · rintro i x H2 H3 hi ⟨s2, hD⟩ ⟨rfl, c2, hc2, rfl⟩
              refine ⟨rfl, ?_⟩
              unfold tYes
              dsimp only
              rw [if_pos rfl]
              refine ⟨_, rfl, _, _, rfl, rfl, by decide +kernel, c2, _, rfl, rfl, _, hD, ?_, ?_, ?_⟩
              · rw [List.length_map, List.length_map, List.length_take]
                exact small1000 (by rw [← str_len]; omega)
              · exact fun b o e => by
                  rw [upd_ne (ne_of_none e nD)]
                  exact s2 b o e
              · have e2 : z.cps.toList[i]? = some c2 := by rw [Array.getElem?_toList]; exact hc2
                rw [upd_same, List.take_add_one, e2, List.map_append, List.map_append]
                rfl
            · rintro H2 ⟨s2, hD⟩
              have et : z.cps.toList.take z.cps.size = z.cps.toList := List.take_of_length_le (by rw [Array.length_toList]; exact Nat.le_refl _)
              rw [et] at hD
              refine ⟨D, _, rfl, .inl (.inl hD), ?_⟩
              have hn : ((z.cps.toList.map isSign).all id) = isNm z := by
                rw [all_take_all]
                unfold isNm
                rw [hc]
                simp only [hL, decide_eq_true h8, Bool.true_and]
              rw [hn]
              exact q H2 s2
        · have h2 : decide (((z.length : Nat) : Int) ≤ 8) = false := decide_eq_false (by omega)
          rw [h2]
          refine iteT ?_
          have hn : isNm z = false := by unfold isNm; rw [hc]; simp only [decide_eq_false h8, Bool.false_and]
          rw [hn] at q
          exact q H (Same.refl H)
    · refine ⟨_, rfl, _, _, _, _, false, rfl, .ty "str", ty, kit_ty hk, false, rfl, ?_⟩
      refine iteT ?_
      refine iteT ?_
      exact q
theorem filter_no {l : List Nat} {i c : Nat} {p : Nat → Bool} (e : l[i]? = some c) (h : p c = false) : (l.take (i + 1)).filter p = (l.take i).filter p := by
  rw [List.take_add_one, e, List.filter_append]
  show _ ++ List.filter p [c] = _
  rw [List.filter_cons, if_neg (by rw [h]; decide)]
  exact List.append_nil _
theorem filter_yes {l : List Nat} {i c : Nat} {p : Nat → Bool} (e : l[i]? = some c) (h : p c = true) : (l.take (i + 1)).filter p = (l.take i).filter p ++ [c] := by
  rw [List.take_add_one, e, List.filter_append]
  show _ ++ List.filter p [c] = _
  rw [List.filter_cons, if_pos h]
  rfl
theorem none_bad : ∀ l : List Nat, decide (((l.filter fun c => !isLet c && !isDig c).map fun c => PyData.str (oneS c)) = []) = l.all isSign
  | [] => rfl
  | c :: r => by
    rw [List.filter_cons, List.all_cons, sign_or, ← none_bad r]
    cases isLet c <;> cases isDig c <;> simp
end
end My

namespace My
open PySem PySem.Spec PyProof.Rows L2
theorem _root_.L2.Rd.same {H H' : Hp} {a : Addr} {u : HO} (h : Rd H a u) (s : Same H H') : Rd H' a u := h.elim (fun e => .inl (s _ _ e)) fun ⟨o, e⟩ => .inr ⟨o, s _ _ e⟩
/-! ### things as data -/
mutual
/-- the value v is the thing d at the heap H; of a list or a dict only the sort is told -/
inductive Th (K : PySem.W.Frag) (H : Hp) : V → PyData → Prop
  | non : Th K H .non .none
  | bl (b : Bool) : Th K H (.bl b) (.bool b)
  | int (i : Int) : Th K H (.int i) (.int i)
  | str {z : Str} (h : z.length ≤ 1000) (hv : ∀ c ∈ z.cps.toList, c < 1114112) : Th K H (.str z) (.str z)
  | lst {a : Addr} {xs : List V} (e : H a = some (.lst xs)) : Th K H (.ref a) (.list [])
  | dct {a : Addr} {kvs : List (Key × V)} (e : H a = some (.dK kvs)) : Th K H (.ref a) (.dict [])
  | tup {a : Addr} {xs : List V} {ds : List PyData} (e : Rd H a (.tup xs)) (h : ThAll K H xs ds) : Th K H (.ref a) (.tuple ds)
inductive ThAll (K : PySem.W.Frag) (H : Hp) : List V → List PyData → Prop
  | nil : ThAll K H [] []
  | cons {v : V} {vs : List V} {d : PyData} {ds : List PyData} (h : Th K H v d) (t : ThAll K H vs ds) : ThAll K H (v :: vs) (d :: ds)
end
mutual
theorem Th.same {K : PySem.W.Frag} {H H' : Hp} (s : Same H H') : ∀ {d : PyData} {v : V}, Th K H v d → Th K H' v d
  | _, _, .non => .non
  | _, _, .bl b => .bl b
  | _, _, .int i => .int i
  | _, _, .str h hv => .str h hv
  | _, _, .lst e => .lst (s _ _ e)
  | _, _, .dct e => .dct (s _ _ e)
  | _, _, .tup e h => .tup (e.same s) (ThAll.same s h)
theorem ThAll.same {K : PySem.W.Frag} {H H' : Hp} (s : Same H H') : ∀ {ds : List PyData} {vs : List V}, ThAll K H vs ds → ThAll K H' vs ds
  | _, _, .nil => .nil
  | _, _, .cons h t => .cons (h.same s) (t.same s)
end
theorem ThAll.length {K : PySem.W.Frag} {H : Hp} : ∀ {ds : List PyData} {vs : List V}, ThAll K H vs ds → vs.length = ds.length
  | _, _, .nil => rfl
  | _, _, .cons _ t => by rw [List.length_cons, List.length_cons, t.length]
theorem ThAll.get {K : PySem.W.Frag} {H : Hp} : ∀ {ds : List PyData} {vs : List V} {i : Nat} {v : V}, ThAll K H vs ds → vs[i]? = some v → ∃ d, ds[i]? = some d ∧ Th K H v d
  | _, _, i, _, .nil, e => by cases i <;> cases e
  | _, _, 0, _, .cons h _, e => by
    cases e
    exact ⟨_, rfl, h⟩
  | _, _, i + 1, _, .cons _ t, e => t.get (i := i) e
/-- the built-in type of a thing -/
def tyD : PyData → String
  | .none => "NoneType"
  | .bool _ => "bool"
  | .int _ => "int"
  | .str _ => "str"
  | .list _ => "list"
  | .tuple _ => "tuple"
  | .dict _ => "dict"
theorem Th.ty {K : PySem.W.Frag} {H : Hp} {d : PyData} {v : V} (h : Th K H v d) : TyX K H v (.type (tyD d)) := by
  cases h with
  | non => exact .base .non
  | bl b => exact .base (.bl b)
  | int i => exact .base (.int i)
  | str h hv => exact .base (.str _)
  | lst e => exact .base (.lst e)
  | dct e => exact .base (.dK e)
  | tup e h =>
    rcases e with e | ⟨o, e⟩
    · exact .base (.tup e)
    · exact .fTuple e
def isT : PyData → Bool | .tuple _ => true | _ => false
def isS : PyData → Bool | .str _ => true | _ => false
def isI : PyData → Bool | .int _ => true | .bool _ => true | _ => false
def isB : PyData → Bool | .bool _ => true | _ => false
theorem ty_tup (d : PyData) : kitB (tyD d) "tuple" = some (isT d) := by cases d <;> (simp only [tyD, isT, isS, isI, isB]; decide +kernel)
theorem ty_str (d : PyData) : kitB (tyD d) "str" = some (isS d) := by cases d <;> (simp only [tyD, isT, isS, isI, isB]; decide +kernel)
theorem ty_int (d : PyData) : kitB (tyD d) "int" = some (isI d) := by cases d <;> (simp only [tyD, isT, isS, isI, isB]; decide +kernel)
theorem ty_bool (d : PyData) : kitB (tyD d) "bool" = some (isB d) := by cases d <;> (simp only [tyD, isT, isS, isI, isB]; decide +kernel)
/-- a variant, as a tag and a number -/
def asPair : PyData → Option (Str × Int)
  | .tuple [.str z, .int i] => if isNm z && (decide (0 ≤ i) && decide (i ≤ 4)) then some (z, i) else none
  | _ => none
def variantB (d : PyData) : Bool := (asPair d).isSome
def allPairs : List PyData → Option (List (Str × Int))
  | [] => some []
  | d :: r => match asPair d, allPairs r with
    | some p, some ps => some (p :: ps)
    | _, _ => none
theorem allPairs_cons (d : PyData) (r : List PyData) : allPairs (d :: r) = match asPair d, allPairs r with | some p, some ps => some (p :: ps) | _, _ => none := rfl
/-- what the law and the program ask of the variants together -/
def okK (ks : List (Str × Int)) : Bool := decide ((ks.map (·.1)).Nodup) && (decide ((0 : Int) ∈ ks.map (·.2)) && (ks.map (·.2)).any fun i => decide (2 ≤ i))
def asKind : PyData → Option (List (Str × Int))
  | .tuple ds => if 2 ≤ ds.length ∧ ds.length ≤ 8 then (match allPairs ds with | some ks => if okK ks then some ks else none | none => none) else none
  | _ => none
def kindB (d : PyData) : Bool := (asKind d).isSome
theorem all_pairs : ∀ ds : List PyData, (allPairs ds).isSome = ds.all variantB
  | [] => rfl
  | d :: r => by
    rw [List.all_cons, ← all_pairs r]
    rw [allPairs_cons]
    unfold variantB
    cases asPair d <;> cases allPairs r <;> rfl
theorem pairs_len : ∀ {ds : List PyData} {ks : List (Str × Int)}, allPairs ds = some ks → ks.length = ds.length
  | [], ks, h => by cases h; rfl
  | d :: r, ks, h => by
    rw [allPairs_cons] at h
    cases h1 : asPair d with
    | none => rw [h1] at h; cases h
    | some p =>
      cases h2 : allPairs r with
      | none => rw [h1, h2] at h; cases h
      | some ps =>
        rw [h1, h2] at h
        cases h
        rw [List.length_cons, List.length_cons, pairs_len h2]
/-- rs: the pairs ks, each a tuple of a tag and a number -/
inductive Prs (H : Hp) : List Addr → List (Str × Int) → Prop
  | nil : Prs H [] []
  | cons {r : Addr} {rs : List Addr} {p : Str × Int} {ks : List (Str × Int)} (e : Rd H r (.tup [.str p.1, .int p.2])) (t : Prs H rs ks) : Prs H (r :: rs) (p :: ks)
theorem Prs.length {H : Hp} {rs : List Addr} {ks : List (Str × Int)} (h : Prs H rs ks) : rs.length = ks.length := by
  induction h with
  | nil => rfl
  | cons _ _ ih => rw [List.length_cons, List.length_cons, ih]
theorem Prs.get {H : Hp} {rs : List Addr} {ks : List (Str × Int)} (h : Prs H rs ks) : ∀ {i : Nat} {r : Addr}, rs[i]? = some r → ∃ p, ks[i]? = some p ∧ Rd H r (.tup [.str p.1, .int p.2]) := by
  induction h with
  | nil =>
    intro i r e
    cases i <;> cases e
  | cons e _ ih =>
    intro i r h
    cases i with
    | zero =>
      cases h
      exact ⟨_, rfl, e⟩
    | succ i => exact ih h
theorem Prs.same {H H' : Hp} {rs : List Addr} {ks : List (Str × Int)} (h : Prs H rs ks) (s : Same H H') : Prs H' rs ks := by
  induction h with
  | nil => exact .nil
  | cons e _ ih => exact .cons (e.same s) ih
/-- a: a tuple of pairs -/
def KindAt (H : Hp) (a : Addr) (ks : List (Str × Int)) : Prop := ∃ rs, Rd H a (.tup (rs.map V.ref)) ∧ Prs H rs ks
theorem KindAt.same {H H' : Hp} {a : Addr} {ks : List (Str × Int)} (h : KindAt H a ks) (s : Same H H') : KindAt H' a ks := by
  obtain ⟨rs, e, p⟩ := h
  exact ⟨rs, e.same s, p.same s⟩
theorem pair_of {K : PySem.W.Frag} {H : Hp} {v : V} {d : PyData} {p : Str × Int} (h : Th K H v d) (e : asPair d = some p) : ∃ r, v = .ref r ∧ Rd H r (.tup [.str p.1, .int p.2]) ∧ isNm p.1 = true ∧ 0 ≤ p.2 ∧ p.2 ≤ 4 := by
  unfold asPair at e
  split at e
  · rename_i z i
    split at e
    · rename_i hc
      cases e
      rw [Bool.and_eq_true, Bool.and_eq_true, decide_eq_true_eq, decide_eq_true_eq] at hc
      cases h with
      | tup ea t =>
        cases t with
        | cons h1 t =>
          cases t with
          | cons h2 t =>
            cases t
            cases h1
            cases h2
            exact ⟨_, rfl, ea, hc.1, hc.2.1, hc.2.2⟩
    · cases e
  · cases e
theorem prs_of {K : PySem.W.Frag} {H : Hp} : ∀ {ds : List PyData} {vs : List V} {ks : List (Str × Int)}, ThAll K H vs ds → allPairs ds = some ks → ∃ rs : List Addr, vs = rs.map V.ref ∧ Prs H rs ks ∧ ∀ p ∈ ks, isNm p.1 = true ∧ 0 ≤ p.2 ∧ p.2 ≤ 4
  | [], _, ks, .nil, h => by
    cases h
    exact ⟨[], rfl, .nil, fun _ z => nomatch z⟩
  | d :: r, _, ks, .cons h1 t, h => by
    rw [allPairs_cons] at h
    cases e1 : asPair d with
    | none => rw [e1] at h; cases h
    | some p =>
      cases e2 : allPairs r with
      | none => rw [e1, e2] at h; cases h
      | some ps =>
        rw [e1, e2] at h
        cases h
        obtain ⟨a, rfl, ha, hp⟩ := pair_of h1 e1
        obtain ⟨rs, rfl, hrs, all⟩ := prs_of t e2
        refine ⟨a :: rs, rfl, .cons ha hrs, fun q hq => ?_⟩
        rcases List.mem_cons.mp hq with rfl | hq
        · exact hp
        · exact all q hq
end My

namespace My
open PySem PySem.Spec PyProof.Rows L2
structure spThing (f : PyData → Bool) (K : PySem.W.Frag) (vs : List V) (H : Hp) (Q : VK) (E : XK) : Prop where
  ex : ∃ x d, vs = [x] ∧ Th K H x d ∧ ∀ H', Same H H' → Q (.bl (f d)) H'
def namedB : PyData → Bool
  | .str z => isNm z
  | _ => false
def numIn : PyData → Bool
  | .int i => decide (0 ≤ i) && decide (i ≤ 4)
  | _ => false
theorem variant_two (dt dp : PyData) : variantB (.tuple [dt, dp]) = (namedB dt && numIn dp) := by
  unfold variantB
  cases dt <;> cases dp <;> simp only [asPair, namedB, numIn, Option.isSome_none, Bool.false_and, Bool.and_false]
  split
  · rename_i h
    rw [h]
    rfl
  · rename_i h
    rw [Bool.not_eq_true] at h
    rw [h]
    rfl
theorem same_rfl (H : Hp) : Same H H := fun _ _ e => e
theorem isname_th {K : PySem.W.Frag} {H : Hp} {x : V} {d : PyData} {Q : VK} {E : XK} (h : Th K H x d) (q : ∀ H', Same H H' → Q (.bl (namedB d)) H') : spIsName K [x] H Q E := by
  by_cases hs : isS d = true
  · cases h with
    | str hz hv => exact ⟨_, rfl, .inl ⟨_, rfl, hz, q⟩⟩
    | _ => cases hs
  · have hs : isS d = false := Bool.not_eq_true _ ▸ hs
    have n : namedB d = false := by cases d <;> first | rfl | cases hs
    have q0 := q H (same_rfl H)
    rw [n] at q0
    exact ⟨x, rfl, .inr ⟨tyD d, h.ty, by rw [ty_str, hs], q0⟩⟩
theorem isint_th {K : PySem.W.Frag} {H : Hp} {x : V} {d : PyData} {Q : VK} {E : XK} (h : Th K H x d) (q : Q (.bl (isI d && !isB d)) H) : spIsInt K [x] H Q E := ⟨x, tyD d, isI d, isB d, rfl, h.ty, ty_int d, ty_bool d, q⟩
theorem ne_len (n m : Nat) : V.bl (!decide (V.int (n : Nat) = V.int (m : Nat))) = V.bl (!decide (n = m)) := by
  congr 2
  refine decide_eq_decide.mpr ⟨fun h => ?_, fun h => by rw [h]⟩
  have z : ((n : Nat) : Int) = (m : Nat) := by cases h; rfl
  omega
theorem ThAll.two {K : PySem.W.Frag} {H : Hp} {xs : List V} {ds : List PyData} (t : ThAll K H xs ds) (h : xs.length = 2) : ∃ v1 v2 d1 d2, xs = [v1, v2] ∧ ds = [d1, d2] ∧ Th K H v1 d1 ∧ Th K H v2 d2 := by
  cases t with
  | nil => cases h
  | cons h1 t =>
    cases t with
    | nil => cases h
    | cons h2 t =>
      cases t with
      | nil => exact ⟨_, _, _, _, rfl, rfl, h1, h2⟩
      | cons h3 t => cases h
theorem var_len {ds : List PyData} (h : ds.length ≠ 2) : variantB (.tuple ds) = false := by
  unfold variantB
  match ds, h with
  | [], _ => rfl
  | [a], _ => cases a <;> rfl
  | [_, _], h => exact absurd rfl h
  | a :: b :: _ :: _, _ => cases a <;> first | rfl | (cases b <;> rfl)
theorem Prs.item {H : Hp} {rs : List Addr} {ks : List (Str × Int)} (h : Prs H rs ks) {i : Nat} {x : V} (e : (rs.map V.ref)[i]? = some x) : ∃ r p, x = .ref r ∧ ks[i]? = some p ∧ Rd H r (.tup [.str p.1, .int p.2]) := by
  rw [List.getElem?_map] at e
  cases h1 : rs[i]? with
  | none =>
    rw [h1] at e
    cases e
  | some r =>
    rw [h1] at e
    cases e
    obtain ⟨p, h2, h3⟩ := h.get h1
    exact ⟨r, p, rfl, h2, h3⟩
theorem take_next {α β : Type} {f : α → β} {l : List α} {i : Nat} {a : α} (h : l[i]? = some a) : (l.take i).map f ++ [f a] = (l.take (i + 1)).map f := by
  rw [List.take_succ, h, List.map_append]
  rfl
/-- what was tracked ahead of a list that grows at D is as it was -/
theorem same_at {H H2 : Hp} {D : Addr} {o : HO} (s : Same H H2) (n : H D = none) : Same H (upd H2 D o) := fun b u e => by
  rw [upd_ne (ne_of_none e n)]
  exact s b u e
structure TxtK (mg : Str → Option Value) (tF tM tP : Tok) : Prop where
  n_isinstance : mg "isinstance" = none
  n_tuple : mg "tuple" = none
  n_len : mg "len" = none
  n_set : mg "set" = none
  n_all : mg "all" = none
  n_any : mg "any" = none
  n_str : mg "str" = none
  n_int : mg "int" = none
  n_bool : mg "bool" = none
  g_FEWEST_VARIANTS : mg "FEWEST_VARIANTS" = some (.int 2 tF)
  g_MOST_VARIANTS : mg "MOST_VARIANTS" = some (.int 8 tM)
  g_MOST_PARTS : mg "MOST_PARTS" = some (.int 4 tP)
abbrev s_is_variant : Stmt := topS 10
theorem sc_is_variant : FnScope ["thing", "tag", "parts"] ["thing"] (defScope s_is_variant) := ⟨rfl, rfl, rfl, by decide +kernel, rfl, by decide +kernel, by decide +kernel⟩
abbrev s_law_is_variant : Stmt := topS 24
theorem sc_law_is_variant : FnScope ["thing"] ["thing"] (defScope s_law_is_variant) := ⟨rfl, rfl, rfl, by decide +kernel, rfl, by decide +kernel, by decide +kernel⟩
abbrev s_tags_of : Stmt := topS 12
theorem sc_tags_of : FnScope ["kind", "tag", "_"] ["kind"] (defScope s_tags_of) := ⟨rfl, rfl, rfl, by decide +kernel, rfl, by decide +kernel, by decide +kernel⟩
section
variable {P : Program} {w : World} {K : PySem.W.Frag} {mg : Str → Option Value} {base : Heap} {tF tM tP : Tok}
theorem ok_is_variant {f f1 f2 : Addr} {fd fd1 fd2 : FuncData} {k : Nat} (F : Fun K "is_variant" "is_variant" s_is_variant f fd) (T : TxtK mg tF tM tP) (F_is_name : Fun K "is_name" "is_name" s_is_name f1 fd1) (b_is_name : Binds K fd1 ["thing"] []) (g_is_name : mg "is_name" = some (.ref f1)) (G_is_name : FnOk P w K mg base CX0 1 f1 fd1 ["thing"] (spIsName K))
    (F_is_integer : Fun K "is_integer" "is_integer" s_is_integer f2 fd2) (b_is_integer : Binds K fd2 ["thing"] []) (g_is_integer : mg "is_integer" = some (.ref f2)) (G_is_integer : FnOk P w K mg base CX0 1 f2 fd2 ["thing"] (spIsInt K)) : FnOk P w K mg base CX0 (k + 2) f fd ["thing"] (spThing variantB K) := by
  refine F.ok sc_is_variant (fun vs H Q E h => ?_) (fun cdv A outer s H vs Q E hr h => ?_)
  · obtain ⟨x, d, rfl, _⟩ := h
    rfl
  · obtain ⟨x, d, rfl, th, q⟩ := h
    refine ⟨_, (pss_cons (ps_if (PW.pt (pw_or (pt_not (pt_val (pe_callB call_isi (by rfl) T.n_isinstance (by decide +kernel) (pa_cons (pv 0) (pa_cons (pe_bltn (v := .ty "tuple") (by rfl) T.n_tuple (by decide +kernel) rfl) pa_nil))))) (pw_or1 (pt_cmpR op_ne (pe_callB call_len_seq (by rfl) T.n_len (by decide +kernel) (pa_cons (pv 0) pa_nil)) pe_int (nomark _)))))
   (pss_one (ps_ret pe_bl))
   pss_nil)
  (pss_cons (ps_asg (pv 0) (pg_tup rfl (pgs_cons (pg_name (i := 1) sc_is_variant.nd rfl (.inl rfl)) (pgs_cons (pg_name (i := 2) sc_is_variant.nd rfl (.inl rfl)) pgs_nil))))
  (pss_one (ps_ret (pe_and (pe_call G_is_name (hr.mono (by omega)) (by rfl) g_is_name F_is_name.kp b_is_name .nil pass0 (pa_cons (pv 1) pa_nil)) (pe_and (pe_call G_is_integer (hr.mono (by omega)) (by rfl) g_is_integer F_is_integer.kp b_is_integer .nil pass0 (pa_cons (pv 2) pa_nil)) (pe_one (pe_chain op_le op_le pe_int (pv 2) (pe_glob (v := .int 4) (by rfl) T.g_MOST_PARTS ⟨_, rfl⟩))))))))), ?_⟩
    refine ⟨_, rfl, _, _, _, _, isT d, rfl, .ty "tuple", th.ty, kit_ty (ty_tup d), isT d, rfl, ?_⟩
    by_cases hT : isT d = true
    · rw [hT]
      refine iteF ?_
      cases th with
      | @tup a xs ds e t =>
        refine ⟨_, rfl, a, xs, rfl, .inr (.inl e), rfl, !decide (xs.length = 2), ?_, ?_⟩
        · exact ne_len xs.length 2
        · by_cases h2 : xs.length = 2
          · rw [decide_eq_true h2]
            refine iteF ?_
            obtain ⟨v1, v2, d1, d2, rfl, rfl, t1, t2⟩ := t.two h2
            refine ⟨_, rfl, a, _, rfl, .inl e, rfl, _, _, rfl, _, _, rfl, rfl, ?_⟩
            refine ⟨_, rfl, isname_th t1 fun H1 s1 => ?_⟩
            rw [variant_two] at q
            refine ⟨namedB d1, rfl, ?_⟩
            cases hn : namedB d1 with
            | false =>
              rw [hn] at q
              exact iteF (q H1 s1)
            | true =>
              rw [hn, Bool.true_and] at q
              refine iteT ?_
              refine ⟨_, rfl, isint_th (t2.same s1) ?_⟩
              refine ⟨_, rfl, ?_⟩
              cases t2 with
              | int i =>
                refine iteT ?_
                refine ⟨_, rfl, _, _, rfl, rfl, _, rfl, ?_⟩
                have q1 : Q (.bl (decide (0 ≤ i) && decide (i ≤ 4))) H1 := q H1 s1
                cases h0 : decide (0 ≤ i) with
                | false =>
                  rw [h0] at q1
                  exact iteF q1
                | true =>
                  rw [h0, Bool.true_and] at q1
                  exact iteT ⟨_, _, rfl, rfl, q1⟩
              | _ => exact iteF (q H1 s1)
          · rw [decide_eq_false h2]
            refine iteT ?_
            have n : variantB (.tuple ds) = false := by
              have hl : ds.length ≠ 2 := fun z => h2 (t.length.trans z)
              exact var_len hl
            rw [n] at q
            exact q H (same_rfl H)
      | _ => cases hT
    · have hF : isT d = false := Bool.not_eq_true _ ▸ hT
      rw [hF]
      refine iteT ?_
      refine iteT ?_
      have n : variantB d = false := by cases d <;> first | rfl | cases hF
      rw [n] at q
      exact q H (same_rfl H)
/-- tags_of a kind -/
structure spTags (vs : List V) (H : Hp) (Q : VK) (E : XK) : Prop where
  ex : ∃ (a : Addr) (ks : List (Str × Int)), vs = [.ref a] ∧ KindAt H a ks ∧ ks.length ≤ 30 ∧ ∀ l H', Same H H' → H l = none → H' l = some (.lst (ks.map fun p => V.str p.1)) → Q (.ref l) H'
theorem ok_tags_of {f : Addr} {fd : FuncData} {k : Nat} (F : Fun K "tags_of" "tags_of" s_tags_of f fd) : FnOk P w K mg base CX0 (k + 1) f fd ["kind"] spTags := by
  refine F.ok sc_tags_of (fun vs H Q E h => ?_) (fun cdv A outer s H vs Q E hr h => ?_)
  · obtain ⟨a, ks, rfl, _⟩ := h
    rfl
  · obtain ⟨a, ks, rfl, ⟨rs, ea, pr⟩, few, q⟩ := h
    refine ⟨_, (pss_one (ps_ret (pe_lc (own := [("tag", 1), ("_", 2)]) (g := gTup K 2 (gCons (gName 1) (gCons (gName 2) gNil))) rfl sc_tags_of.nd (pi_tup (pv 0)) (blkOk_by (own := [("tag", 1), ("_", 2)]) (N := ["kind", "tag", "_"]) (sc := defScope s_tags_of) (by decide +kernel)) (fun _ _ _ _ _ => (pg_tup rfl (pgs_cons (pg_name (i := 1) sc_tags_of.nd rfl (.inl rfl)) (pgs_cons (pg_name (i := 2) sc_tags_of.nd rfl (.inl rfl)) pgs_nil)))) (fun _ _ _ _ _ => pts_nil) (fun _ _ _ _ _ => (pv 1))))), ?_⟩
    have lr := pr.length
    refine ⟨_, rfl, a, rfl, ⟨_, .inl ea⟩, fun D nD => ?_⟩
    refine lc_it (walk_tup (xs := rs.map V.ref)) (fun i H2 => Same H H2 ∧ H2 D = some (.lst ((ks.take i).map fun p => V.str p.1))) ⟨same_upd nD, upd_same⟩ (fun i H2 _ h => .inl (ea.same h.1)) ?_ ?_
    · rintro i x H2 H3 hi ⟨s2, hD⟩ ⟨rfl, ex⟩
      obtain ⟨r, pp, rfl, hk, hr2⟩ := pr.item ex
      refine ⟨r, _, rfl, .inl (hr2.same s2), rfl, _, _, rfl, _, _, rfl, rfl, rfl, ?_⟩
      unfold tYes
      dsimp only
      rw [if_pos rfl]
      refine ⟨_, rfl, _, hD, ?_, ?_, ?_⟩
      · rw [List.length_map, List.length_take]
        exact small1000 (by omega)
      · exact same_at s2 nD
      · rw [upd_same, take_next hk]
    · rintro H2 ⟨s2, hD⟩
      rw [List.length_map, lr, List.take_length] at hD
      exact q D H2 s2 nD hD
end
end My

namespace My
open PySem PySem.Spec PyProof.Rows L2
section
variable {P : Program} {w : World} {K : PySem.W.Frag} {mg : Str → Option Value} {base : Heap}
theorem ok_is_named {f : Addr} {fd : FuncData} {k : Nat} {tL tD tN : Tok} (F : Fun K "_law_is_named" "_law_is_named" s_law_is_named f fd) (T : TxtN mg tL tD tN) : FnOk P w K mg base CX0 (k + 1) f fd ["word"] (spThing namedB K) := by
  refine F.ok sc_law_is_named (fun vs H Q E h => ?_) (fun cdv A outer s H vs Q E hr h => ?_)
  · obtain ⟨x, d, rfl, _⟩ := h
    rfl
  · obtain ⟨x, d, rfl, th, q⟩ := h
    refine ⟨_, (pss_cons (ps_asg (pe_tup (pa_cons pe_str (pa_cons pe_str pa_nil))) (pg_tup rfl (pgs_cons (pg_name (i := 1) sc_law_is_named.nd rfl (.inr rfl)) (pgs_cons (pg_name (i := 2) sc_law_is_named.nd rfl (.inr rfl)) pgs_nil))))
  (pss_cons (ps_if (PW.pt (pw_or (pt_not (pt_val (pe_callB call_isi (by rfl) T.n_isinstance (by decide +kernel) (pa_cons (pv 0) (pa_cons (pe_bltn (v := .ty "str") (by rfl) T.n_str (by decide +kernel) rfl) pa_nil))))) (pw_or (pt_not (pt_chain op_le op_le pe_int (pe_callB call_len_str (by rfl) T.n_len (by decide +kernel) (pa_cons (pv 0) pa_nil)) pe_int)) (pw_or1 (pt_cmpR op_notIn_sign (pe_ix ix_str (pv 0) pe_int (fun _ _ => rfl)) (pv 1) rfl)))))
   (pss_one (ps_ret pe_bl))
   pss_nil)
  (pss_one (ps_ret (pe_cmpR (op_eqD hr.units) (pe_lc (own := [("sign", 3)]) (g := gName 3) rfl sc_law_is_named.nd (pi_str (pv 0)) (blkOk_by (own := [("sign", 3)]) (N := ["word", "letters", "figures", "sign"]) (sc := defScope s_law_is_named) (by decide +kernel)) (fun _ _ _ _ _ => (pg_name (i := 3) sc_law_is_named.nd rfl (.inl rfl))) (fun _ _ _ _ _ => (pts_one (PW.pt (pw_and (pt_cmpR op_notIn_sign (pv 3) (pv 1) rfl) (pw_and1 (pt_cmpR op_notIn_sign (pv 3) (pv 2) rfl)))))) (fun _ _ _ _ _ => (pv 3))) (pe_lst pa_nil) (nomark _)))))), ?_⟩
    refine ⟨by show 2 ≤ sizeLine; decide, fun t ht => ?_⟩
    have st : Same H (upd H t (.tup [.str c_LETTERS, .str c_DIGITS])) := same_upd ht
    refine ⟨t, _, rfl, .inl (.inl upd_same), rfl, _, _, rfl, _, _, rfl, rfl, ?_⟩
    refine ⟨_, rfl, _, _, _, _, isS d, rfl, .ty "str", (th.same st).ty, kit_ty (ty_str d), isS d, rfl, ?_⟩
    by_cases hS : isS d = true
    case neg =>
      have hF : isS d = false := Bool.not_eq_true _ ▸ hS
      rw [hF]
      refine iteT ?_
      refine iteT ?_
      have n : namedB d = false := by cases d <;> first | rfl | cases hF
      rw [n] at q
      exact q _ st
    rw [hS]
    refine iteF ?_
    obtain ⟨z, rfl, hz, hv, q⟩ : ∃ z : Str, x = .str z ∧ z.length ≤ 1000 ∧ (∀ c ∈ z.cps.toList, c < 1114112) ∧ ∀ H', Same H H' → Q (.bl (isNm z)) H' := by
      cases th with
      | str hz hv => exact ⟨_, rfl, hz, hv, q⟩
      | _ => cases hS
    have hzl : z.length ≤ sizeLine := Nat.le_of_lt (small1000 hz)
    refine ⟨_, rfl, _, rfl, hzl, _, _, rfl, rfl, _, rfl, ?_⟩
    cases hc : z.cps.toList with
    | nil =>
      have hl0 : z.length = 0 := by rw [str_len, hc]; rfl
      rw [hl0]
      refine iteF ?_
      refine ⟨_, rfl, ?_⟩
      refine iteT ?_
      refine iteT ?_
      have hn : isNm z = false := by unfold isNm; rw [hc]
      rw [hn] at q
      exact q _ st
    | cons c r =>
      have hl1 : z.length = r.length + 1 := by rw [str_len, hc]; rfl
      have h1 : decide ((1 : Int) ≤ ((z.length : Nat) : Int)) = true := decide_eq_true (by omega)
      rw [h1]
      refine iteT ?_
      by_cases h8 : r.length < 8
      · have h2 : decide (((z.length : Nat) : Int) ≤ 8) = true := decide_eq_true (by omega)
        refine ⟨_, _, rfl, rfl, _, rfl, ?_⟩
        rw [h2]
        refine iteF ?_
        have hat : atI z.cps.toList 0 = some c := by rw [hc]; exact atI_nat (j := 0) rfl
        refine ⟨_, rfl, z, 0, c, rfl, rfl, hzl, hat, _, rfl, c, c_LETTERS, rfl, rfl, !isLet c, rfl, ?_⟩
        cases hL : isLet c with
        | false =>
          refine iteT ?_
          have hn : isNm z = false := by unfold isNm; rw [hc]; simp only [hL, Bool.false_and, Bool.and_false]
          rw [hn] at q
          exact q _ st
        | true =>
          refine iteF ?_
          refine ⟨_, rfl, z, rfl, fun D nD => ?_⟩
          let bad : Nat → Bool := fun c => !isLet c && !isDig c
          refine lc_it walk_str (fun i H2 => Same H H2 ∧ H2 D = some (.lst (((z.cps.toList.take i).filter bad).map fun c => V.str (oneS c)))) ⟨st.trans (same_upd nD), upd_same⟩ (fun _ _ _ _ => True.intro) ?_ ?_
          · rintro i x H2 H3 hi ⟨s2, hD⟩ ⟨rfl, c2, hc2, rfl⟩
            have e2 : z.cps.toList[i]? = some c2 := by rw [Array.getElem?_toList]; exact hc2
            have nDH : H D = none := st.free nD
            refine ⟨rfl, _, rfl, _, rfl, c2, _, rfl, rfl, !isLet c2, rfl, ?_⟩
            cases hl : isLet c2 with
            | true =>
              refine iteF ?_
              refine iteF ?_
              refine ⟨s2, ?_⟩
              have hb : bad c2 = false := by show (!isLet c2 && !isDig c2) = false; rw [hl]; rfl
              rw [filter_no e2 hb]
              exact hD
            | false =>
              refine iteT ?_
              refine ⟨_, rfl, _, rfl, c2, _, rfl, rfl, !isDig c2, rfl, ?_⟩
              cases hd : isDig c2 with
              | true =>
                refine iteF ?_
                refine ⟨s2, ?_⟩
                have hb : bad c2 = false := by show (!isLet c2 && !isDig c2) = false; rw [hl, hd]; rfl
                rw [filter_no e2 hb]
                exact hD
              | false =>
                refine iteT ?_
                have hb : bad c2 = true := by show (!isLet c2 && !isDig c2) = true; rw [hl, hd]; rfl
                refine ⟨_, rfl, _, hD, ?_, ?_, ?_⟩
                · have hq := List.length_filter_le bad (z.cps.toList.take i)
                  rw [List.length_map]
                  rw [List.length_take] at hq
                  exact small1000 (by have := str_len z; omega)
                · exact fun b o e => by
                    rw [upd_ne (ne_of_none e nDH)]
                    exact s2 b o e
                · rw [upd_same, filter_yes e2 hb, List.map_append]
                  rfl
          · rintro H2 ⟨s2, hD⟩
            have et : z.cps.toList.take z.cps.size = z.cps.toList := List.take_of_length_le (by rw [Array.length_toList]; exact Nat.le_refl _)
            rw [et] at hD
            refine ⟨Nat.zero_le _, fun o no => ?_⟩
            have so : Same H2 (upd H2 o (.lst [])) := same_upd no
            refine ⟨_, _, .lst (.inl (.inl (so _ _ hD))) (dp_signs _), .lst (.inl (.inl upd_same)) .nil, sh_signs (fun c h => hv c (List.mem_filter.mp h).1), sh_nil, ?_⟩
            rw [eqv_nil]
            have hn : decide (((z.cps.toList.filter bad).map fun c => PyData.str (oneS c)) = []) = isNm z := by
              have h1 : isNm z = (z.cps.toList.all isSign) := by
                unfold isNm
                rw [hc]
                simp only [hL, decide_eq_true h8, Bool.true_and]
              rw [h1]
              exact none_bad z.cps.toList
            rw [hn]
            exact q _ (s2.trans so)
      · have h2 : decide (((z.length : Nat) : Int) ≤ 8) = false := decide_eq_false (by omega)
        refine ⟨_, _, rfl, rfl, _, rfl, ?_⟩
        rw [h2]
        refine iteT ?_
        refine iteT ?_
        have hn : isNm z = false := by unfold isNm; rw [hc]; simp only [decide_eq_false h8, Bool.false_and]
        rw [hn] at q
        exact q _ st
end
end My

namespace My
open PySem PySem.Spec PyProof.Rows L2
theorem thing_of {f : PyData → Bool} {K : PySem.W.Frag} {H : Hp} {x : V} {d : PyData} {Q : VK} {E : XK} (h : Th K H x d) (q : ∀ H', Same H H' → Q (.bl (f d)) H') : spThing f K [x] H Q E := ⟨x, d, rfl, h, q⟩
theorem no_tup {d : PyData} (h : isT d = false) : variantB d = false ∧ kindB d = false := by
  cases d <;> first | exact ⟨rfl, rfl⟩ | cases h
section
variable {P : Program} {w : World} {K : PySem.W.Frag} {mg : Str → Option Value} {base : Heap} {tF tM tP : Tok}
theorem ok_law_variant {f f1 : Addr} {fd fd1 : FuncData} {k : Nat} (F : Fun K "_law_is_variant" "_law_is_variant" s_law_is_variant f fd) (T : TxtK mg tF tM tP) (F__law_is_named : Fun K "_law_is_named" "_law_is_named" s_law_is_named f1 fd1) (b__law_is_named : Binds K fd1 ["word"] []) (g__law_is_named : mg "_law_is_named" = some (.ref f1))
    (G__law_is_named : FnOk P w K mg base CX0 1 f1 fd1 ["word"] (spThing namedB K)) : FnOk P w K mg base CX0 (k + 2) f fd ["thing"] (spThing variantB K) := by
  refine F.ok sc_law_is_variant (fun vs H Q E h => ?_) (fun cdv A outer s H vs Q E hr h => ?_)
  · obtain ⟨x, d, rfl, _⟩ := h
    rfl
  · obtain ⟨x, d, rfl, th, q⟩ := h
    refine ⟨_, (pss_cons (ps_if (PW.pt (pw_or (pt_not (pt_val (pe_callB call_isi (by rfl) T.n_isinstance (by decide +kernel) (pa_cons (pv 0) (pa_cons (pe_bltn (v := .ty "tuple") (by rfl) T.n_tuple (by decide +kernel) rfl) pa_nil))))) (pw_or (pt_cmpR op_ne (pe_callB call_len_seq (by rfl) T.n_len (by decide +kernel) (pa_cons (pv 0) pa_nil)) pe_int (nomark _)) (pw_or1 (pt_not (pt_val (pe_call G__law_is_named (hr.mono (by omega)) (by rfl) g__law_is_named F__law_is_named.kp b__law_is_named .nil pass0 (pa_cons (pe_ix ix_tup (pv 0) pe_int (fun _ _ => rfl)) pa_nil))))))))
   (pss_one (ps_ret pe_bl))
   pss_nil)
  (pss_one (ps_ret (pe_and (pe_callB call_isi (by rfl) T.n_isinstance (by decide +kernel) (pa_cons (pe_ix ix_tup (pv 0) pe_int (fun _ _ => rfl)) (pa_cons (pe_bltn (v := .ty "int") (by rfl) T.n_int (by decide +kernel) rfl) pa_nil))) (pe_and (pe_not (pe_callB call_isi (by rfl) T.n_isinstance (by decide +kernel) (pa_cons (pe_ix ix_tup (pv 0) pe_int (fun _ _ => rfl)) (pa_cons (pe_bltn (v := .ty "bool") (by rfl) T.n_bool (by decide +kernel) rfl) pa_nil)))) (pe_one (pe_chain op_le op_le pe_int (pe_ix ix_tup (pv 0) pe_int (fun _ _ => rfl)) pe_int))))))), ?_⟩
    refine ⟨_, rfl, _, _, _, _, isT d, rfl, .ty "tuple", th.ty, kit_ty (ty_tup d), isT d, rfl, ?_⟩
    by_cases hT : isT d = true
    · rw [hT]
      refine iteF ?_
      cases th with
      | @tup a xs ds e t =>
        refine ⟨_, rfl, a, xs, rfl, .inr (.inl e), rfl, !decide (xs.length = 2), ne_len xs.length 2, ?_⟩
        by_cases h2 : xs.length = 2
        · rw [decide_eq_true h2]
          refine iteF ?_
          obtain ⟨v1, v2, d1, d2, rfl, rfl, t1, t2⟩ := t.two h2
          have at0 : atI [v1, v2] 0 = some v1 := rfl
          have at1 : atI [v1, v2] 1 = some v2 := rfl
          refine ⟨_, rfl, a, _, _, v1, rfl, rfl, .inl e, at0, thing_of t1 fun H1 s1 => ?_⟩
          rw [variant_two] at q
          refine ⟨namedB d1, rfl, ?_⟩
          cases hn : namedB d1 with
          | false =>
            rw [hn] at q
            exact iteT (q H1 s1)
          | true =>
            rw [hn, Bool.true_and] at q
            refine iteF ?_
            have e1 := e.same s1
            have t3 := t2.same s1
            have q1 := q H1 s1
            refine ⟨_, rfl, a, _, _, v2, rfl, rfl, .inl e1, at1, _, _, _, _, isI d2, rfl, .ty "int", t3.ty, kit_ty (ty_int d2), isI d2, rfl, ?_⟩
            cases t2 with
            | int i =>
              refine iteT ?_
              refine ⟨_, rfl, a, _, _, _, rfl, rfl, .inl e1, at1, _, _, _, _, false, rfl, .ty "bool", t3.ty, kit_ty (ty_bool (.int i)), false, rfl, true, rfl, ?_⟩
              refine iteT ?_
              refine ⟨_, rfl, a, _, _, _, rfl, rfl, .inl e1, at1, _, _, rfl, rfl, _, rfl, ?_⟩
              have q2 : Q (.bl (decide (0 ≤ i) && decide (i ≤ 4))) H1 := q1
              cases h0 : decide (0 ≤ i) with
              | false =>
                rw [h0] at q2
                exact iteF q2
              | true =>
                rw [h0, Bool.true_and] at q2
                exact iteT ⟨_, _, rfl, rfl, q2⟩
            | bl b =>
              refine iteT ?_
              refine ⟨_, rfl, a, _, _, _, rfl, rfl, .inl e1, at1, _, _, _, _, true, rfl, .ty "bool", t3.ty, kit_ty (ty_bool (.bool b)), true, rfl, false, rfl, ?_⟩
              exact iteF q1
            | _ => exact iteF q1
        · rw [decide_eq_false h2]
          refine iteT ?_
          refine iteT ?_
          have n : variantB (.tuple ds) = false := var_len fun z => h2 (t.length.trans z)
          rw [n] at q
          exact q H (same_rfl H)
      | _ => cases hT
    · have hF : isT d = false := Bool.not_eq_true _ ▸ hT
      rw [hF]
      refine iteT ?_
      refine iteT ?_
      rw [(no_tup hF).1] at q
      exact q H (same_rfl H)
end
end My

namespace My
open PySem PySem.Spec PyProof.Rows L2
theorem kind_few {ds : List PyData} (h : ¬ (2 ≤ ds.length ∧ ds.length ≤ 8)) : kindB (.tuple ds) = false := by
  unfold kindB asKind
  dsimp only
  rw [if_neg h]
  rfl
theorem kind_some {ds : List PyData} {ks : List (Str × Int)} (h : 2 ≤ ds.length ∧ ds.length ≤ 8) (e : allPairs ds = some ks) : kindB (.tuple ds) = okK ks := by
  unfold kindB asKind
  dsimp only
  rw [if_pos h, e]
  dsimp only
  cases okK ks <;> rfl
theorem kind_none {ds : List PyData} (h : ds.all variantB = false) : kindB (.tuple ds) = false := by
  rw [← all_pairs] at h
  unfold kindB asKind
  dsimp only
  cases e : allPairs ds with
  | none =>
    split <;> rfl
  | some ks =>
    rw [e] at h
    cases h
theorem in_nums (ns : List Int) (k : Int) : inV (.int k) (ns.map V.int) = decide (k ∈ ns) := by
  induction ns with
  | nil => simp [inV]
  | cons n r ih =>
    unfold inV at ih ⊢
    rw [List.map_cons, List.any_cons, ih]
    have e : eqV (.int n) (.int k) = decide (k = n) := by
      simp only [eqV]
      exact decide_eq_decide.mpr ⟨Eq.symm, Eq.symm⟩
    rw [e]
    by_cases h : k = n <;> simp [h]
theorem in_nums2 (ns : List Int) (k : Int) : V.bl (if false = true then !inV (.int k) (ns.map V.int) else inV (.int k) (ns.map V.int)) = V.bl (decide (k ∈ ns)) := by
  rw [if_neg Bool.false_ne_true, in_nums]
theorem flat_ints (ns : List Int) : (ns.map V.int).all flatV = true := by
  rw [List.all_eq_true]
  intro v hv
  obtain ⟨n, _, rfl⟩ := List.mem_map.mp hv
  rfl
theorem all_false {l : List PyData} (h : (l.all variantB) = false) : ¬ (l.all variantB = true) := by
  rw [h]
  decide
theorem le_len (n m : Nat) : V.bl (decide (((n : Nat) : Int) ≤ (m : Nat))) = V.bl (decide (n ≤ m)) := by
  congr 1
  exact decide_eq_decide.mpr Int.ofNat_le
theorem lt_len (n m : Nat) : V.bl (decide (((n : Nat) : Int) < (m : Nat))) = V.bl (decide (n < m)) := by
  congr 1
  exact decide_eq_decide.mpr Int.ofNat_lt
theorem int_item {ns : List Int} {i : Nat} {x : V} (e : (ns.map V.int)[i]? = some x) : ∃ n, x = .int n ∧ ns[i]? = some n := by
  rw [List.getElem?_map] at e
  cases h : ns[i]? with
  | none =>
    rw [h] at e
    cases e
  | some n =>
    rw [h] at e
    cases e
    exact ⟨n, rfl, rfl⟩
/-- the numbers from 2 up to 8, as the two tests see them -/
theorem two_eight (n : Nat) : (2 ≤ n ∧ n ≤ 8) ∨ (n < 2) ∨ (2 ≤ n ∧ 8 < n) := by omega
abbrev s_is_kind : Stmt := topS 11
theorem sc_is_kind : FnScope ["thing", "numbers", "_", "parts", "variant"] ["thing"] (defScope s_is_kind) := ⟨rfl, rfl, rfl, by decide +kernel, rfl, by decide +kernel, by decide +kernel⟩
abbrev s_law_is_right : Stmt := topS 25
theorem sc_law_is_right : FnScope ["thing", "tags", "numbers", "one"] ["thing"] (defScope s_law_is_right) := ⟨rfl, rfl, rfl, by decide +kernel, rfl, by decide +kernel, by decide +kernel⟩
section
variable {P : Program} {w : World} {K : PySem.W.Frag} {mg : Str → Option Value} {base : Heap} {tF tM tP : Tok}
theorem ok_is_kind {f f1 f2 : Addr} {fd fd1 fd2 : FuncData} {k : Nat} (F : Fun K "is_kind" "is_kind" s_is_kind f fd) (T : TxtK mg tF tM tP) (F_is_variant : Fun K "is_variant" "is_variant" s_is_variant f1 fd1) (b_is_variant : Binds K fd1 ["thing"] []) (g_is_variant : mg "is_variant" = some (.ref f1)) (G_is_variant : FnOk P w K mg base CX0 2 f1 fd1 ["thing"] (spThing variantB K))
    (F_tags_of : Fun K "tags_of" "tags_of" s_tags_of f2 fd2) (b_tags_of : Binds K fd2 ["kind"] []) (g_tags_of : mg "tags_of" = some (.ref f2)) (G_tags_of : FnOk P w K mg base CX0 1 f2 fd2 ["kind"] spTags) : FnOk P w K mg base CX0 (k + 3) f fd ["thing"] (spThing kindB K) := by
  refine F.ok sc_is_kind (fun vs H Q E h => ?_) (fun cdv A outer s H vs Q E hr h => ?_)
  · obtain ⟨x, d, rfl, _⟩ := h
    rfl
  · obtain ⟨x, d, rfl, th, q⟩ := h
    refine ⟨_, (pss_cons (ps_if (PW.pt (pw_or (pt_not (pt_val (pe_callB call_isi (by rfl) T.n_isinstance (by decide +kernel) (pa_cons (pv 0) (pa_cons (pe_bltn (v := .ty "tuple") (by rfl) T.n_tuple (by decide +kernel) rfl) pa_nil))))) (pw_or1 (pt_not (pt_chain op_le op_le (pe_glob (v := .int 2) (by rfl) T.g_FEWEST_VARIANTS ⟨_, rfl⟩) (pe_callB call_len_seq (by rfl) T.n_len (by decide +kernel) (pa_cons (pv 0) pa_nil)) (pe_glob (v := .int 8) (by rfl) T.g_MOST_VARIANTS ⟨_, rfl⟩))))))
   (pss_one (ps_ret pe_bl))
   pss_nil)
  (pss_cons (ps_if (pt_not (pt_val (pe_callB (cr_all (by rfl)) (by rfl) T.n_all (by decide +kernel) (pa_cons (pe_lc (own := [("variant", 4)]) (g := gName 4) rfl sc_is_kind.nd (pi_tup (pv 0)) (blkOk_by (own := [("variant", 4)]) (N := ["thing", "numbers", "_", "parts", "variant"]) (sc := defScope s_is_kind) (by decide +kernel)) (fun _ _ _ _ _ => (pg_name (i := 4) sc_is_kind.nd rfl (.inl rfl))) (fun _ _ _ _ _ => pts_nil) (fun _ _ _ _ _ => (pe_call G_is_variant (hr.mono (by omega)) (by rfl) g_is_variant F_is_variant.kp b_is_variant .nil pass0 (pa_cons (pv 4) pa_nil)))) pa_nil))))
   (pss_one (ps_ret pe_bl))
   pss_nil)
  (pss_cons (ps_if (pt_cmpR op_lt (pe_lenSetT (by rfl) (by rfl) T.n_len (by rfl) T.n_set (pe_call G_tags_of (hr.mono (by omega)) (by rfl) g_tags_of F_tags_of.kp b_tags_of .nil pass0 (pa_cons (pv 0) pa_nil))) (pe_callB call_len_seq (by rfl) T.n_len (by decide +kernel) (pa_cons (pv 0) pa_nil)) (nomark _))
   (pss_one (ps_ret pe_bl))
   pss_nil)
  (pss_cons (ps_setLc (i := 1) (own := [("_", 2), ("parts", 3)]) (g := gTup K 2 (gCons (gName 2) (gCons (gName 3) gNil))) rfl sc_is_kind.nd rfl rfl (sw_true rfl rfl rfl (by decide +kernel)) (pi_tup (pv 0)) (blkOk_by (own := [("_", 2), ("parts", 3)]) (N := ["thing", "numbers", "_", "parts", "variant"]) (sc := defScope s_is_kind) (by decide +kernel)) (fun _ _ _ _ _ => (pg_tup rfl (pgs_cons (pg_name (i := 2) sc_is_kind.nd rfl (.inl rfl)) (pgs_cons (pg_name (i := 3) sc_is_kind.nd rfl (.inl rfl)) pgs_nil)))) (fun _ _ _ _ _ => pts_nil) (fun _ _ _ _ _ => (pv 3)))
  (pss_one (ps_ret (pe_and (pe_cmpR op_in_seq pe_int (pv 1) rfl) (pe_one (pe_callB (cr_any (by rfl)) (by rfl) T.n_any (by decide +kernel) (pa_cons (pe_lc (own := [("parts", 3)]) (g := gName 3) rfl sc_is_kind.nd (pi_list (pv 1)) (blkOk_by (own := [("parts", 3)]) (N := ["thing", "numbers", "_", "parts", "variant"]) (sc := defScope s_is_kind) (by decide +kernel)) (fun _ _ _ _ _ => (pg_name (i := 3) sc_is_kind.nd rfl (.inl rfl))) (fun _ _ _ _ _ => pts_nil) (fun _ _ _ _ _ => (pe_cmpR op_ge (pv 3) pe_int (nomark _)))) pa_nil)))))))))), ?_⟩
    refine ⟨_, rfl, _, _, _, _, isT d, rfl, .ty "tuple", th.ty, kit_ty (ty_tup d), isT d, rfl, ?_⟩
    by_cases hT : isT d = true
    case neg =>
      have hF : isT d = false := Bool.not_eq_true _ ▸ hT
      rw [hF]
      refine iteT ?_
      refine iteT ?_
      rw [(no_tup hF).2] at q
      exact q H (same_rfl H)
    rw [hT]
    refine iteF ?_
    cases th with
    | @tup a xs ds ea t =>
      have ld := t.length
      refine ⟨_, rfl, a, xs, rfl, .inr (.inl ea), _, _, rfl, rfl, decide (2 ≤ xs.length), le_len 2 xs.length, ?_⟩
      rcases two_eight xs.length with hx | hx | hx
      · rw [decide_eq_true hx.1]
        refine iteT ?_
        refine ⟨_, _, rfl, rfl, decide (xs.length ≤ 8), le_len xs.length 8, ?_⟩
        rw [decide_eq_true hx.2]
        refine iteF ?_
        -- all([is_variant(variant) for variant in thing])
        refine ⟨_, rfl, a, rfl, ⟨_, .inl ea⟩, fun D nD => ?_⟩
        refine lc_it (walk_tup (xs := xs)) (fun i H2 => Same H H2 ∧ H2 D = some (.lst ((ds.take i).map fun d => V.bl (variantB d)))) ⟨same_upd nD, upd_same⟩ (fun i H2 _ h => .inl (ea.same h.1)) ?_ ?_
        · rintro i x H2 H3 hi ⟨s2, hD⟩ ⟨rfl, ex⟩
          obtain ⟨d1, e1, t1⟩ := t.get ex
          refine ⟨rfl, ?_⟩
          unfold tYes
          dsimp only
          rw [if_pos rfl]
          refine ⟨_, rfl, thing_of (t1.same s2) fun H4 s4 => ⟨_, s4 _ _ hD, ?_, same_at (s2.trans s4) nD, ?_⟩⟩
          · rw [List.length_map, List.length_take]
            exact small1000 (by omega)
          · rw [upd_same, take_next e1]
        · rintro H2 ⟨s2, hD⟩
          rw [ld, List.take_length] at hD
          have hD' : H2 D = some (.lst ((ds.map variantB).map V.bl)) := by
            rw [hD, List.map_map]
            rfl
          refine ⟨D, ds.map variantB, rfl, .inl (.inl hD'), ds.all variantB, ?_, ?_⟩
          · rw [all_take_all]
          cases hv : ds.all variantB with
          | false =>
            refine iteT ?_
            rw [kind_none hv] at q
            exact q H2 s2
          | true =>
            refine iteF ?_
            have hv2 := all_pairs ds
            rw [hv] at hv2
            obtain ⟨ks, hks⟩ := Option.isSome_iff_exists.mp hv2
            rw [kind_some (by omega) hks] at q
            have lk := pairs_len hks
            obtain ⟨rs, rfl, pr, nm⟩ := prs_of t hks
            -- len(set(tags_of(thing))) < len(thing)
            have pr2 := pr.same s2
            have ea2 := ea.same s2
            refine ⟨_, rfl, ⟨a, ks, rfl, ⟨rs, ea2, pr2⟩, by omega, fun l H4 s4 nl hl => ?_⟩⟩
            have hl' : H4 l = some (.lst ((ks.map (·.1)).map V.str)) := by
              rw [hl, List.map_map]
              rfl
            have lt : (ks.map (·.1)).length = ks.length := List.length_map ..
            obtain ⟨u1, u2⟩ := uniq_len (ks.map (·.1))
            refine ⟨l, ks.map (·.1), rfl, .inl (.inl hl'), by omega, _, rfl, a, rs.map V.ref, rfl, .inr (.inl (ea2.same s4)), _, _, rfl, rfl, decide ((uniq (ks.map (·.1))).length < (rs.map V.ref).length), lt_len _ _, ?_⟩
            by_cases hn : (ks.map (·.1)).Nodup
            case neg =>
              have z : (uniq (ks.map (·.1))).length ≠ (ks.map (·.1)).length := fun z => hn (u2.mp z)
              rw [decide_eq_true (by omega)]
              refine iteT ?_
              have n : okK ks = false := by
                unfold okK
                rw [decide_eq_false hn]
                rfl
              rw [n] at q
              exact q _ (s2.trans s4)
            have z := u2.mpr hn
            rw [decide_eq_false (by omega)]
            refine iteF ?_
            -- numbers
            have s24 := s2.trans s4
            have ea4 := ea.same s24
            have pr4 := pr.same s24
            refine ⟨_, rfl, a, rfl, ⟨_, .inl ea4⟩, fun N nN => ?_⟩
            refine lc_it (walk_tup (xs := rs.map V.ref)) (fun i H5 => Same H4 H5 ∧ H5 N = some (.lst ((ks.take i).map fun p => V.int p.2))) ⟨same_upd nN, upd_same⟩ (fun i H5 _ h => .inl (ea4.same h.1)) ?_ ?_
            · rintro i x H5 H6 hi ⟨s5, hN⟩ ⟨rfl, ex⟩
              obtain ⟨r, pp, rfl, hk, hr2⟩ := pr4.item ex
              refine ⟨r, _, rfl, .inl (hr2.same s5), rfl, _, _, rfl, _, _, rfl, rfl, rfl, ?_⟩
              unfold tYes
              dsimp only
              rw [if_pos rfl]
              refine ⟨_, rfl, _, hN, ?_, ?_, ?_⟩
              · rw [List.length_map, List.length_take]
                exact small1000 (by omega)
              · exact same_at s5 nN
              · rw [upd_same, take_next hk]
            · rintro H5 ⟨s5, hN⟩
              rw [ld, ← lk, List.take_length] at hN
              have hN' : H5 N = some (.lst ((ks.map (·.2)).map V.int)) := by
                rw [hN, List.map_map]
                rfl
              refine ⟨_, rfl, N, _, rfl, .inl (.inl (.inl hN')), rfl, flat_ints _, decide ((0 : Int) ∈ ks.map (·.2)), in_nums2 _ 0, ?_⟩
              have ok : okK ks = (decide ((0 : Int) ∈ ks.map (·.2)) && (ks.map (·.2)).any fun i => decide (2 ≤ i)) := by
                unfold okK
                rw [decide_eq_true hn, Bool.true_and]
              rw [ok] at q
              cases h0 : decide ((0 : Int) ∈ ks.map (·.2)) with
              | false =>
                rw [h0] at q
                exact iteF (q _ (s24.trans s5))
              | true =>
                rw [h0, Bool.true_and] at q
                refine iteT ?_
                refine ⟨_, rfl, N, rfl, ⟨_, .inl (.inl hN')⟩, fun M nM => ?_⟩
                refine lc_it (walk_list (xs := (ks.map (·.2)).map V.int)) (fun i H6 => Same H5 H6 ∧ H6 M = some (.lst (((ks.map (·.2)).take i).map fun n => V.bl (decide (2 ≤ n))))) ⟨same_upd nM, upd_same⟩ (fun i H6 _ h => .inl (.inl (h.1 _ _ hN'))) ?_ ?_
                · rintro i x H6 H7 hi ⟨s6, hM⟩ ⟨rfl, ex⟩
                  obtain ⟨n, rfl, hk⟩ := int_item ex
                  refine ⟨rfl, ?_⟩
                  unfold tYes
                  dsimp only
                  rw [if_pos rfl]
                  refine ⟨_, rfl, _, _, rfl, rfl, _, hM, ?_, ?_, ?_⟩
                  · rw [List.length_map, List.length_take]
                    exact small1000 (by rw [List.length_map]; omega)
                  · exact same_at s6 nM
                  · rw [upd_same, ← take_next hk]
                · rintro H6 ⟨s6, hM⟩
                  rw [List.length_map, List.take_length] at hM
                  have hM' : H6 M = some (.lst (((ks.map (·.2)).map fun n => decide (2 ≤ n)).map V.bl)) := by
                    rw [hM, List.map_map (g := V.bl)]
                    rfl
                  refine ⟨M, _, rfl, .inl (.inl hM'), ?_⟩
                  rw [List.any_map]
                  exact q _ ((s24.trans s5).trans s6)
      · rw [decide_eq_false (by omega)]
        refine iteF ?_
        refine ⟨_, rfl, ?_⟩
        refine iteT ?_
        rw [kind_few (by omega)] at q
        exact q H (same_rfl H)
      · rw [decide_eq_true hx.1]
        refine iteT ?_
        refine ⟨_, _, rfl, rfl, decide (xs.length ≤ 8), le_len xs.length 8, ?_⟩
        rw [decide_eq_false (by omega)]
        refine iteT ?_
        rw [kind_few (by omega)] at q
        exact q H (same_rfl H)
    | _ => cases hT
end
end My

namespace My
open PySem PySem.Spec PyProof.Rows L2
theorem eq_len (n m : Nat) : V.bl (decide (V.int (n : Nat) = V.int (m : Nat))) = V.bl (decide (n = m)) := by
  congr 1
  refine decide_eq_decide.mpr ⟨fun h => ?_, fun h => by rw [h]⟩
  have z : ((n : Nat) : Int) = (m : Nat) := by cases h; rfl
  omega
theorem all_next {α : Type} (f : α → Bool) {l : List α} {i : Nat} {a : α} (h : l[i]? = some a) : (l.take (i + 1)).all f = ((l.take i).all f && f a) := by
  rw [List.take_succ, h, List.all_append]
  simp
theorem any_next {α : Type} (f : α → Bool) {l : List α} {i : Nat} {a : α} (h : l[i]? = some a) : (l.take (i + 1)).any f = ((l.take i).any f || f a) := by
  rw [List.take_succ, h, List.any_append]
  simp
section
variable {P : Program} {w : World} {K : PySem.W.Frag} {mg : Str → Option Value} {base : Heap} {tF tM tP : Tok}
theorem ok_is_right {f f1 : Addr} {fd fd1 : FuncData} {k : Nat} (F : Fun K "_law_is_right" "_law_is_right" s_law_is_right f fd) (T : TxtK mg tF tM tP) (F__law_is_variant : Fun K "_law_is_variant" "_law_is_variant" s_law_is_variant f1 fd1) (b__law_is_variant : Binds K fd1 ["thing"] []) (g__law_is_variant : mg "_law_is_variant" = some (.ref f1))
    (G__law_is_variant : FnOk P w K mg base CX0 2 f1 fd1 ["thing"] (spThing variantB K)) : FnOk P w K mg base CX0 (k + 3) f fd ["thing"] (spThing kindB K) := by
  refine F.ok sc_law_is_right (fun vs H Q E h => ?_) (fun cdv A outer s H vs Q E hr h => ?_)
  · obtain ⟨x, d, rfl, _⟩ := h
    rfl
  · obtain ⟨x, d, rfl, th, q⟩ := h
    refine ⟨_, (pss_cons (ps_if (PW.pt (pw_or (pt_not (pt_val (pe_callB call_isi (by rfl) T.n_isinstance (by decide +kernel) (pa_cons (pv 0) (pa_cons (pe_bltn (v := .ty "tuple") (by rfl) T.n_tuple (by decide +kernel) rfl) pa_nil))))) (pw_or1 (pt_not (pt_chain op_le op_le pe_int (pe_callB call_len_seq (by rfl) T.n_len (by decide +kernel) (pa_cons (pv 0) pa_nil)) pe_int)))))
   (pss_one (ps_ret pe_bl))
   pss_nil)
  (pss_cons (ps_if (pt_cmpR (op_neNil hr.units) (pe_lc (own := [("one", 3)]) (g := gName 3) rfl sc_law_is_right.nd (pi_tup (pv 0)) (blkOk_by (own := [("one", 3)]) (N := ["thing", "tags", "numbers", "one"]) (sc := defScope s_law_is_right) (by decide +kernel)) (fun _ _ _ _ _ => (pg_name (i := 3) sc_law_is_right.nd rfl (.inl rfl))) (fun _ _ _ _ _ => (pts_one (pt_not (pt_val (pe_call G__law_is_variant (hr.mono (by omega)) (by rfl) g__law_is_variant F__law_is_variant.kp b__law_is_variant .nil pass0 (pa_cons (pv 3) pa_nil)))))) (fun _ _ _ _ _ => (pv 3))) (pe_lst pa_nil) (nomark _))
   (pss_one (ps_ret pe_bl))
   pss_nil)
  (pss_cons (ps_par (i := 1) (j := 2) (by rfl) sc_law_is_right.nd rfl rfl (by decide) rfl rfl (pa_cons (pe_lc (own := [("one", 3)]) (g := gName 3) rfl sc_law_is_right.nd (pi_tup (pv 0)) (blkOk_by (own := [("one", 3)]) (N := ["thing", "tags", "numbers", "one"]) (sc := defScope s_law_is_right) (by decide +kernel)) (fun _ _ _ _ _ => (pg_name (i := 3) sc_law_is_right.nd rfl (.inl rfl))) (fun _ _ _ _ _ => pts_nil) (fun _ _ _ _ _ => (pe_ix (r := rIxT K) ix_tup (pv 3) pe_int (fun _ _ => rfl)))) (pa_cons (pe_lc (own := [("one", 3)]) (g := gName 3) rfl sc_law_is_right.nd (pi_tup (pv 0)) (blkOk_by (own := [("one", 3)]) (N := ["thing", "tags", "numbers", "one"]) (sc := defScope s_law_is_right) (by decide +kernel)) (fun _ _ _ _ _ => (pg_name (i := 3) sc_law_is_right.nd rfl (.inl rfl))) (fun _ _ _ _ _ => pts_nil) (fun _ _ _ _ _ => (pe_ix (r := rIxT K) ix_tup (pv 3) pe_int (fun _ _ => rfl)))) pa_nil)) (by rfl))
  (pss_one (ps_ret (pe_and (pe_cmpR op_eq (pe_lenSetT (by rfl) (by rfl) T.n_len (by rfl) T.n_set (pv 1)) (pe_callB call_len_seq (by rfl) T.n_len (by decide +kernel) (pa_cons (pv 1) pa_nil)) (nomark _)) (pe_and (pe_cmpR op_in_seq pe_int (pv 2) rfl) (pe_one (pe_cmpR (op_neNil hr.units) (pe_lc (own := [("one", 3)]) (g := gName 3) rfl sc_law_is_right.nd (pi_list (pv 2)) (blkOk_by (own := [("one", 3)]) (N := ["thing", "tags", "numbers", "one"]) (sc := defScope s_law_is_right) (by decide +kernel)) (fun _ _ _ _ _ => (pg_name (i := 3) sc_law_is_right.nd rfl (.inl rfl))) (fun _ _ _ _ _ => (pts_one (pt_cmpR op_gt (pv 3) pe_int (nomark _)))) (fun _ _ _ _ _ => (pv 3))) (pe_lst pa_nil) (nomark _)))))))))), ?_⟩
    refine ⟨_, rfl, _, _, _, _, isT d, rfl, .ty "tuple", th.ty, kit_ty (ty_tup d), isT d, rfl, ?_⟩
    by_cases hT : isT d = true
    case neg =>
      have hF : isT d = false := Bool.not_eq_true _ ▸ hT
      rw [hF]
      refine iteT ?_
      refine iteT ?_
      rw [(no_tup hF).2] at q
      exact q H (same_rfl H)
    rw [hT]
    refine iteF ?_
    cases th with
    | @tup a xs ds ea t =>
      have ld := t.length
      refine ⟨_, rfl, a, xs, rfl, .inr (.inl ea), _, _, rfl, rfl, decide (2 ≤ xs.length), le_len 2 xs.length, ?_⟩
      rcases two_eight xs.length with hx | hx | hx
      · rw [decide_eq_true hx.1]
        refine iteT ?_
        refine ⟨_, _, rfl, rfl, decide (xs.length ≤ 8), le_len xs.length 8, ?_⟩
        rw [decide_eq_true hx.2]
        refine iteF ?_
        -- [one for one in thing if not _law_is_variant(one)] != []
        refine ⟨_, rfl, a, rfl, ⟨_, .inl ea⟩, fun Z nZ => ?_⟩
        refine lc_it (walk_tup (xs := xs)) (fun i H2 => Same H H2 ∧ ∃ zs : List V, H2 Z = some (.lst zs) ∧ zs.length ≤ i ∧ zs.isEmpty = (ds.take i).all variantB) ⟨same_upd nZ, [], upd_same, Nat.le_refl 0, rfl⟩ (fun i H2 _ h => .inl (ea.same h.1)) ?_ ?_
        · rintro i x H2 H3 hi ⟨s2, zs, hZ, lz, ez⟩ ⟨rfl, ex⟩
          obtain ⟨d1, e1, t1⟩ := t.get ex
          refine ⟨rfl, _, rfl, thing_of (t1.same s2) fun H4 s4 => ⟨variantB d1, rfl, ?_⟩⟩
          cases hv : variantB d1 with
          | true =>
            refine iteF ?_
            refine ⟨s2.trans s4, zs, s4 _ _ hZ, by omega, ?_⟩
            rw [all_next _ e1, ← ez, hv, Bool.and_true]
          | false =>
            refine iteT ?_
            refine ⟨_, rfl, zs, s4 _ _ hZ, small1000 (by omega), same_at (s2.trans s4) nZ, _, upd_same, ?_, ?_⟩
            · rw [List.length_append]
              show _ + 1 ≤ _
              omega
            · rw [all_next _ e1, hv, Bool.and_false]
              cases zs <;> rfl
        · rintro H2 ⟨s2, zs, hZ, lz, ez⟩
          rw [ld, List.take_length] at ez
          refine ⟨Nat.zero_le _, fun o no => ?_⟩
          have so : Same H2 (upd H2 o (.lst [])) := same_upd no
          refine ⟨Z, o, zs, rfl, rfl, so _ _ hZ, upd_same, !zs.isEmpty, rfl, ?_⟩
          rw [ez]
          cases hv : ds.all variantB with
          | false =>
            refine iteT ?_
            rw [kind_none hv] at q
            exact q _ (s2.trans so)
          | true =>
            refine iteF ?_
            have hv2 := all_pairs ds
            rw [hv] at hv2
            obtain ⟨ks, hks⟩ := Option.isSome_iff_exists.mp hv2
            rw [kind_some (by omega) hks] at q
            have lk := pairs_len hks
            obtain ⟨rs, rfl, pr, nm⟩ := prs_of t hks
            have so2 := s2.trans so
            have ea2 := ea.same so2
            have pr2 := pr.same so2
            generalize upd H2 o (.lst []) = H3 at so2 ea2 pr2 ⊢
            clear so hZ
            -- tags, numbers
            refine ⟨_, rfl, a, rfl, ⟨_, .inl ea2⟩, fun N nN => ?_⟩
            refine lc_it (walk_tup (xs := rs.map V.ref)) (fun i H5 => Same H3 H5 ∧ H5 N = some (.lst ((ks.take i).map fun p => V.str p.1))) ⟨same_upd nN, upd_same⟩ (fun i H5 _ h => .inl (ea2.same h.1)) ?_ ?_
            · rintro i x H5 H6 hi ⟨s5, hN⟩ ⟨rfl, ex⟩
              obtain ⟨r, pp, rfl, hk, hr2⟩ := pr2.item ex
              refine ⟨rfl, ?_⟩
              unfold tYes
              dsimp only
              rw [if_pos rfl]
              refine ⟨_, rfl, r, _, _, V.str pp.1, rfl, rfl, .inl (hr2.same s5), rfl, _, hN, ?_, ?_, ?_⟩
              · rw [List.length_map, List.length_take]
                exact small1000 (by omega)
              · exact same_at s5 nN
              · rw [upd_same, take_next hk]
            · rintro H5 ⟨s5, hN⟩
              rw [ld, ← lk, List.take_length] at hN
              have ea5 := ea2.same s5
              have pr5 := pr2.same s5
              refine ⟨_, rfl, a, rfl, ⟨_, .inl ea5⟩, fun M nM => ?_⟩
              refine lc_it (walk_tup (xs := rs.map V.ref)) (fun i H6 => Same H5 H6 ∧ H6 M = some (.lst ((ks.take i).map fun p => V.int p.2))) ⟨same_upd nM, upd_same⟩ (fun i H6 _ h => .inl (ea5.same h.1)) ?_ ?_
              · rintro i x H6 H7 hi ⟨s6, hM⟩ ⟨rfl, ex⟩
                obtain ⟨r, pp, rfl, hk, hr2⟩ := pr5.item ex
                refine ⟨rfl, ?_⟩
                unfold tYes
                dsimp only
                rw [if_pos rfl]
                refine ⟨_, rfl, r, _, _, V.int pp.2, rfl, rfl, .inl (hr2.same s6), rfl, _, hM, ?_, ?_, ?_⟩
                · rw [List.length_map, List.length_take]
                  exact small1000 (by omega)
                · exact same_at s6 nM
                · rw [upd_same, take_next hk]
              · rintro H6 ⟨s6, hM⟩
                rw [ld, ← lk, List.take_length] at hM
                have hN6 := s6 _ _ hN
                have hT6 : H6 N = some (.lst ((ks.map (·.1)).map V.str)) := by
                  rw [hN6, List.map_map]
                  rfl
                have hM6 : H6 M = some (.lst ((ks.map (·.2)).map V.int)) := by
                  rw [hM, List.map_map]
                  rfl
                have lt : (ks.map (·.1)).length = ks.length := List.length_map ..
                refine ⟨_, _, rfl, ?_⟩
                refine ⟨_, rfl, N, ks.map (·.1), rfl, .inl (.inl hT6), by omega, _, rfl, N, _, rfl, .inl (.inl (.inl hT6)), rfl, decide ((uniq (ks.map (·.1))).length = ((ks.map (·.1)).map V.str).length), eq_len _ _, ?_⟩
                have s36 := (so2.trans s5).trans s6
                obtain ⟨u1, u2⟩ := uniq_len (ks.map (·.1))
                have lt2 : ((ks.map (·.1)).map V.str).length = ks.length := by rw [List.length_map, lt]
                by_cases hn : (ks.map (·.1)).Nodup
                case neg =>
                  have z : (uniq (ks.map (·.1))).length ≠ (ks.map (·.1)).length := fun z => hn (u2.mp z)
                  rw [decide_eq_false (by omega)]
                  have n : okK ks = false := by
                    unfold okK
                    rw [decide_eq_false hn]
                    rfl
                  rw [n] at q
                  exact iteF (q _ s36)
                have z := u2.mpr hn
                rw [decide_eq_true (by omega)]
                refine iteT ?_
                refine ⟨_, rfl, M, _, rfl, .inl (.inl (.inl hM6)), rfl, flat_ints _, decide ((0 : Int) ∈ ks.map (·.2)), in_nums2 _ 0, ?_⟩
                have ok : okK ks = (decide ((0 : Int) ∈ ks.map (·.2)) && (ks.map (·.2)).any fun i => decide (2 ≤ i)) := by
                  unfold okK
                  rw [decide_eq_true hn, Bool.true_and]
                rw [ok] at q
                cases h0 : decide ((0 : Int) ∈ ks.map (·.2)) with
                | false =>
                  rw [h0] at q
                  exact iteF (q _ s36)
                | true =>
                  rw [h0, Bool.true_and] at q
                  refine iteT ?_
                  have lM : (ks.map (·.2)).length = ks.length := List.length_map ..
                  refine ⟨_, rfl, M, rfl, ⟨_, .inl (.inl hM6)⟩, fun Y nY => ?_⟩
                  refine lc_it (walk_list (xs := (ks.map (·.2)).map V.int)) (fun i H7 => Same H6 H7 ∧ ∃ zs : List V, H7 Y = some (.lst zs) ∧ zs.length ≤ i ∧ (!zs.isEmpty) = ((ks.map (·.2)).take i).any fun i => decide (2 ≤ i)) ⟨same_upd nY, [], upd_same, Nat.le_refl 0, rfl⟩ (fun i H7 _ h => .inl (.inl (h.1 _ _ hM6))) ?_ ?_
                  · rintro i x H7 H8 hi ⟨s7, zs, hY, lz, ez⟩ ⟨rfl, ex⟩
                    obtain ⟨n, rfl, hk⟩ := int_item ex
                    rw [List.length_map, lM] at hi
                    refine ⟨rfl, _, rfl, _, _, rfl, rfl, decide (1 < n), rfl, ?_⟩
                    have en : decide (2 ≤ n) = decide (1 < n) := decide_eq_decide.mpr (by omega)
                    cases hg : decide (1 < n) with
                    | false =>
                      refine iteF ?_
                      refine ⟨s7, zs, hY, by omega, ?_⟩
                      rw [any_next (fun i => decide ((2 : Int) ≤ i)) hk, ← ez, en, hg, Bool.or_false]
                    | true =>
                      refine iteT ?_
                      refine ⟨_, rfl, zs, hY, small1000 (by omega), same_at s7 nY, _, upd_same, ?_, ?_⟩
                      · rw [List.length_append]
                        show _ + 1 ≤ _
                        omega
                      · rw [any_next (fun i => decide ((2 : Int) ≤ i)) hk, en, hg, Bool.or_true]
                        cases zs <;> rfl
                  · rintro H7 ⟨s7, zs, hY, lz, ez⟩
                    rw [List.length_map, List.take_length] at ez
                    refine ⟨Nat.zero_le _, fun o2 no2 => ?_⟩
                    have so7 : Same H7 (upd H7 o2 (.lst [])) := same_upd no2
                    refine ⟨Y, o2, zs, rfl, rfl, so7 _ _ hY, upd_same, ?_⟩
                    rw [ez]
                    exact q _ ((s36.trans s7).trans so7)
      · rw [decide_eq_false (by omega)]
        refine iteF ?_
        refine ⟨_, rfl, ?_⟩
        refine iteT ?_
        rw [kind_few (by omega)] at q
        exact q H (same_rfl H)
      · rw [decide_eq_true hx.1]
        refine iteT ?_
        refine ⟨_, _, rfl, rfl, decide (xs.length ≤ 8), le_len xs.length 8, ?_⟩
        rw [decide_eq_false (by omega)]
        refine iteT ?_
        rw [kind_few (by omega)] at q
        exact q H (same_rfl H)
    | _ => cases hT
end
end My

namespace My
open PySem PySem.Spec PyProof.Rows L2
/-- a method's call where the rule's K is told (in a comprehension) -/
theorem pe_bmK {X : Cx} {K : PySem.W.Frag} (hK : X.K = K) {o e : Expr} {es : List Expr} {to : TE} {t : TA} {name : Str} {apos cpos : Pos} {T id : String} {r : V → List V → Hp → VK → Prop} (pa : PlainAttrs T) (slot : Slot T name id) (hty : typeOf (.builtin id) = pure (.type "method_descriptor")) (hm : MtR X id r) (ho : PE X o to) (ha : PA X (e :: es) t)
    (hbase : attributeBase o name X.env (eval o X.env) = eval o X.env := by rfl)
    (hfew : ((backTo cpos (starEach (e :: es) X.env)).all (fun x => !x.1) && (backToKw cpos (keywordEach [] X.env)).all (fun x => x.1.isSome) && decide ((e :: es).length + ([] : List Keyword).length + (if ([] : List Keyword).isEmpty then 0 else 1) < 30)) = true := by rfl)
    (hline : (apos.endLine == cpos.line) = true := by rfl) (hs : starEach (e :: es) X.env = (false, eval e X.env) :: starEach es X.env := by rfl) (hplain : (backTo cpos (starEach es X.env)).any (·.1) = false := by rfl) : PE X (.Call (.Attribute o name apos) (e :: es) [] cpos) (tBM K T r to t) := by
  rw [← hK]
  exact pe_bm pa slot hty hm ho ha hbase hfew hline hs hplain
/-! ### the polynomial of a kind, by counting -/
/-- how many of ns are j, for j from 0 up -/
def cnt (ns : List Int) (j : Nat) : List Int := (List.range j).map fun (i : Nat) => ((ns.count ((i : Nat) : Int) : Nat) : Int)
theorem cnt_next (ns : List Int) (j : Nat) : cnt ns (j + 1) = cnt ns j ++ [((ns.count ((j : Nat) : Int) : Nat) : Int)] := by
  unfold cnt
  rw [List.range_succ, List.map_append]
  rfl
theorem cnt_len (ns : List Int) (j : Nat) : (cnt ns j).length = j := by
  unfold cnt
  rw [List.length_map, List.length_range]
/-- m is the greatest of ns -/
def Most (ns : List Int) (m : Nat) : Prop := ((m : Int) ∈ ns) ∧ ∀ n ∈ ns, 0 ≤ n ∧ n ≤ m
structure spPoly (vs : List V) (H : Hp) (Q : VK) (E : XK) : Prop where
  ex : ∃ (a : Addr) (ks : List (Str × Int)) (m : Nat), vs = [.ref a] ∧ KindAt H a ks ∧ ks.length ≤ 30 ∧ Most (ks.map (·.2)) m ∧ m ≤ 4 ∧ ∀ l H', Same H H' → H l = none → H' l = some (.tup ((cnt (ks.map (·.2)) (m + 1)).map V.int)) → Q (.ref l) H'
theorem at_last (l : List V) (x : V) : atI (l ++ [x]) (-1) = some x := by
  unfold atI ixN
  rw [List.length_append, List.length_cons, List.length_nil, if_neg (by decide), if_pos (by omega), Option.bind_some]
  rw [show (-1 + ((l.length + (0 + 1) : Nat) : Int)).toNat = l.length by omega]
  simp
theorem last_get (l : List V) (x : V) : (l ++ [x])[(l ++ [x]).length - 1]? = some x := by simp
structure TxtP (mg : Str → Option Value) (tP : Tok) : Prop where
  n_range : mg "range" = none
  n_tuple : mg "tuple" = none
  g_MOST_PARTS : mg "MOST_PARTS" = some (.int 4 tP)
abbrev s_polynomial : Stmt := topS 14
theorem sc_polynomial : FnScope ["kind", "numbers", "factors", "_", "parts", "k"] ["kind"] (defScope s_polynomial) := ⟨rfl, rfl, rfl, by decide +kernel, rfl, by decide +kernel, by decide +kernel⟩
abbrev s_difference : Stmt := topS 15
theorem sc_difference : FnScope ["kind", "factors"] ["kind"] (defScope s_difference) := ⟨rfl, rfl, rfl, by decide +kernel, rfl, by decide +kernel, by decide +kernel⟩
section
variable {P : Program} {w : World} {K : PySem.W.Frag} {mg : Str → Option Value} {base : Heap} {tP : Tok}
theorem ok_polynomial {f : Addr} {fd : FuncData} {k : Nat} (F : Fun K "polynomial" "polynomial" s_polynomial f fd) (T : TxtP mg tP) : FnOk P w K mg base CX0 (k + 1) f fd ["kind"] spPoly := by
  refine F.ok sc_polynomial (fun vs H Q E h => ?_) (fun cdv A outer s H vs Q E hr h => ?_)
  · obtain ⟨a, ks, m, rfl, _⟩ := h
    rfl
  · obtain ⟨a, ks, m, rfl, ⟨rs, ea, pr⟩, few, hm, m4, q⟩ := h
    refine ⟨_, (pss_cons (ps_set (i := 1) sc_polynomial.nd rfl (.inr rfl) (pe_lc (own := [("_", 3), ("parts", 4)]) (g := gTup K 2 (gCons (gName 3) (gCons (gName 4) gNil))) rfl sc_polynomial.nd (pi_tup (pv 0)) (blkOk_by (own := [("_", 3), ("parts", 4)]) (N := ["kind", "numbers", "factors", "_", "parts", "k"]) (sc := defScope s_polynomial) (by decide +kernel)) (fun _ _ _ _ _ => (pg_tup rfl (pgs_cons (pg_name (i := 3) sc_polynomial.nd rfl (.inl rfl)) (pgs_cons (pg_name (i := 4) sc_polynomial.nd rfl (.inl rfl)) pgs_nil)))) (fun _ _ _ _ _ => pts_nil) (fun _ _ _ _ _ => (pv 4))))
  (pss_cons (ps_setLc (i := 2) (own := [("k", 5)]) (g := gName 5) rfl sc_polynomial.nd rfl rfl (sw_true rfl rfl rfl (by decide +kernel)) (pi_range1 (by rfl) T.n_range (pa_cons (pe_op op_add (pe_glob (v := .int 4) (by rfl) T.g_MOST_PARTS ⟨_, rfl⟩) pe_int) pa_nil)) (blkOk_by (own := [("k", 5)]) (N := ["kind", "numbers", "factors", "_", "parts", "k"]) (sc := defScope s_polynomial) (by decide +kernel)) (fun _ _ _ _ _ => (pg_name (i := 5) sc_polynomial.nd rfl (.inl rfl))) (fun _ _ _ _ _ => pts_nil) (fun _ _ _ _ _ => (pe_bmK (K := K) rfl (r := rCntI K) PySem.F.plainAttrs_list PySem.F.slot_list_count PySem.F.type_list_count mt_lcount (pv 1) (pa_cons (pv 5) pa_nil))))
  (pss_cons (ps_while PassesOwn.never (pt_cmpR op_eq (pe_ix ix_list (pv 2) (pe_un un_neg pe_int) (fun _ _ => rfl)) pe_int (nomark _))
   (pss_one (ps_expr (pe_bm0 PySem.F.plainAttrs_list PySem.F.slot_list_pop PySem.F.type_list_pop mt_pop (pv 2)))))
  (pss_one (ps_ret (pe_callTy call_tuple_of (by rfl) T.n_tuple (by decide +kernel) (pa_cons (pv 2) pa_nil))))))), ?_⟩
    have lr := pr.length
    refine ⟨_, rfl, a, rfl, ⟨_, .inl ea⟩, fun N nN => ?_⟩
    refine lc_it (walk_tup (xs := rs.map V.ref)) (fun i H5 => Same H H5 ∧ H5 N = some (.lst ((ks.take i).map fun p => V.int p.2))) ⟨same_upd nN, upd_same⟩ (fun i H5 _ h => .inl (ea.same h.1)) ?_ ?_
    · rintro i x H5 H6 hi ⟨s5, hN⟩ ⟨rfl, ex⟩
      obtain ⟨r, pp, rfl, hk, hr2⟩ := pr.item ex
      refine ⟨r, _, rfl, .inl (hr2.same s5), rfl, _, _, rfl, _, _, rfl, rfl, rfl, ?_⟩
      unfold tYes
      dsimp only
      rw [if_pos rfl]
      refine ⟨_, rfl, _, hN, ?_, ?_, ?_⟩
      · rw [List.length_map, List.length_take]
        exact small1000 (by omega)
      · exact same_at s5 nN
      · rw [upd_same, take_next hk]
    · rintro H5 ⟨s5, hN⟩
      rw [List.length_map, lr, List.take_length] at hN
      have hN' : H5 N = some (.lst ((ks.map (·.2)).map V.int)) := by
        rw [hN, List.map_map]
        rfl
      -- factors
      refine ⟨_, _, rfl, rfl, 5, rfl, by decide, by decide, fun C nC => ?_⟩
      refine lc_range (n := 5) (fun j H6 => Same H5 H6 ∧ H6 C = some (.lst ((cnt (ks.map (·.2)) j).map V.int))) ⟨same_upd nC, upd_same⟩ ?_ ?_
      · rintro j H6 hj ⟨s6, hC⟩
        refine ⟨rfl, ?_⟩
        unfold tYes
        dsimp only
        rw [if_pos rfl]
        have hN6 := s6 _ _ hN'
        refine ⟨_, rfl, .inl ⟨rfl, _, .inl (.inl hN6)⟩, _, rfl, N, ks.map (·.2), _, rfl, rfl, .inl (.inl hN6), _, hC, ?_, ?_, ?_⟩
        · rw [List.length_map, cnt_len]
          exact small1000 (by omega)
        · exact same_at s6 nC
        · rw [upd_same, cnt_next, List.map_append, Int.zero_add]
          rfl
      · rintro H6 ⟨s6, hC⟩
        have nCH : H C = none := s5.free nC
        -- while factors[-1] == 0
        refine ⟨fun j σ H7 => m < j ∧ j ≤ 5 ∧ Same H H7 ∧ H7 C = some (.lst ((cnt (ks.map (·.2)) j).map V.int)) ∧ σ = [some (.ref a), some (.ref N), some (.ref C), none, none, none], ⟨5, by omega, by omega, s5.trans s6, hC, rfl⟩, ?_⟩
        rintro j σ H7 ⟨j1, j2, s7, hC7, rfl⟩
        obtain ⟨i, rfl⟩ : ∃ i, j = i + 1 := ⟨j - 1, by omega⟩
        rw [cnt_next, List.map_append] at hC7
        refine ⟨_, rfl, _, rfl, C, _, _, _, rfl, rfl, .inl (.inl hC7), at_last _ _, rfl, decide ((ks.map (·.2)).count (i : Int) = 0), eq_len _ 0, ?_⟩
        by_cases hz : (ks.map (·.2)).count (i : Int) = 0
        · rw [decide_eq_true hz]
          refine iteT ?_
          have ne : i ≠ m := fun z => by
            rw [z] at hz
            exact absurd hm.1 (List.count_eq_zero.mp hz)
          refine ⟨fun σ H8 => m < i ∧ i ≤ 5 ∧ Same H H8 ∧ H8 C = some (.lst ((cnt (ks.map (·.2)) i).map V.int)) ∧ σ = [some (.ref a), some (.ref N), some (.ref C), none, none, none], fun σ' H' h => ⟨i, by omega, h⟩, ?_⟩
          refine ⟨_, rfl, .inl ⟨rfl, _, .inl (.inl hC7)⟩, C, _, _, rfl, rfl, hC7, last_get _ _, by omega, by omega, same_at s7 nCH, ?_, rfl⟩
          rw [upd_same]
          simp
        · rw [decide_eq_false hz]
          refine iteF ?_
          have im : i = m := by
            have z1 : (i : Int) ∈ ks.map (·.2) := List.count_pos_iff.mp (Nat.pos_of_ne_zero hz)
            have z2 := (hm.2 _ z1).2
            omega
          subst im
          rw [← List.map_append, ← cnt_next] at hC7
          refine ⟨_, rfl, C, _, rfl, .inl ⟨.inl (.inl hC7), fun l nl => ?_⟩⟩
          exact q l _ (s7.trans (same_upd nl)) (s7.free nl) upd_same
theorem cut1_not {y0 y1 y2 : V} {r : List V} : ¬ (HT.sIx (y0 :: y1 :: y2 :: r).length 0 none = 0 ∧ HT.sIx (y0 :: y1 :: y2 :: r).length (y0 :: y1 :: y2 :: r).length (some 1) = (y0 :: y1 :: y2 :: r).length) := by
  rintro ⟨_, z⟩
  have e := HT.sIx_nat (y0 :: y1 :: y2 :: r).length (y0 :: y1 :: y2 :: r).length 1
  have z : HT.sIx (y0 :: y1 :: y2 :: r).length (y0 :: y1 :: y2 :: r).length (some ((1 : Nat) : Int)) = (y0 :: y1 :: y2 :: r).length := z
  rw [e] at z
  simp only [List.length_cons] at z
  omega
theorem cut2_not {y0 y1 y2 : V} {r : List V} : ¬ (HT.sIx (y0 :: y1 :: y2 :: r).length 0 (some 2) = 0 ∧ HT.sIx (y0 :: y1 :: y2 :: r).length (y0 :: y1 :: y2 :: r).length none = (y0 :: y1 :: y2 :: r).length) := by
  rintro ⟨z, _⟩
  have e := HT.sIx_nat (y0 :: y1 :: y2 :: r).length 0 2
  have z : HT.sIx (y0 :: y1 :: y2 :: r).length 0 (some ((2 : Nat) : Int)) = 0 := z
  rw [e] at z
  simp only [List.length_cons] at z
  omega
theorem cut1 {y0 y1 y2 : V} {r : List V} : cutV (y0 :: y1 :: y2 :: r) none (some 1) = [y0] := by
  show ((y0 :: y1 :: y2 :: r).drop 0).take (HT.sIx (y0 :: y1 :: y2 :: r).length (y0 :: y1 :: y2 :: r).length (some ((1 : Nat) : Int)) - 0) = [y0]
  rw [HT.sIx_nat, show min 1 (y0 :: y1 :: y2 :: r).length - 0 = 1 by simp only [List.length_cons]; omega]
  rfl
theorem cut2 {y0 y1 y2 : V} {r : List V} : cutV (y0 :: y1 :: y2 :: r) (some 2) none = y2 :: r := by
  show ((y0 :: y1 :: y2 :: r).drop (HT.sIx (y0 :: y1 :: y2 :: r).length 0 (some ((2 : Nat) : Int)))).take ((y0 :: y1 :: y2 :: r).length - HT.sIx (y0 :: y1 :: y2 :: r).length 0 (some ((2 : Nat) : Int))) = y2 :: r
  rw [HT.sIx_nat, show min 2 (y0 :: y1 :: y2 :: r).length = 2 by simp only [List.length_cons]; omega]
  show (y2 :: r).take ((y0 :: y1 :: y2 :: r).length - 2) = y2 :: r
  exact List.take_of_length_le (by simp only [List.length_cons]; omega)
theorem fits_few {n : Nat} (h : n ≤ 100) : n ≤ sizeLine := Nat.le_of_lt (small1000 (by omega))
structure spDiff (vs : List V) (H : Hp) (Q : VK) (E : XK) : Prop where
  ex : ∃ (a : Addr) (ks : List (Str × Int)) (m : Nat), vs = [.ref a] ∧ KindAt H a ks ∧ ks.length ≤ 30 ∧ Most (ks.map (·.2)) m ∧ 2 ≤ m ∧ m ≤ 4 ∧
    ∀ l H', Same H H' → H l = none → H' l = some (.tup (((cnt (ks.map (·.2)) (m + 1)).set 1 (((ks.map (·.2)).count 1 : Nat) - 1)).map V.int)) → Q (.ref l) H'
theorem ok_difference {f f1 : Addr} {fd fd1 : FuncData} {k : Nat} (F : Fun K "difference" "difference" s_difference f fd) (F_polynomial : Fun K "polynomial" "polynomial" s_polynomial f1 fd1) (b_polynomial : Binds K fd1 ["kind"] []) (g_polynomial : mg "polynomial" = some (.ref f1))
    (G_polynomial : FnOk P w K mg base CX0 1 f1 fd1 ["kind"] spPoly) : FnOk P w K mg base CX0 (k + 2) f fd ["kind"] spDiff := by
  refine F.ok sc_difference (fun vs H Q E h => ?_) (fun cdv A outer s H vs Q E hr h => ?_)
  · obtain ⟨a, ks, m, rfl, _⟩ := h
    rfl
  · obtain ⟨a, ks, m, rfl, hk, few, hm, m2, m4, q⟩ := h
    refine ⟨_, (pss_cons (ps_set (i := 1) sc_difference.nd rfl (.inl rfl) (pe_call G_polynomial (hr.mono (by omega)) (by rfl) g_polynomial F_polynomial.kp b_polynomial .nil pass0 (pa_cons (pv 0) pa_nil)))
  (pss_one (ps_ret (pe_op op_catA (pe_op op_catA (pe_slice sl_tupA (pv 1) po_none (po_some pe_int)) (pe_tup (pa_cons (pe_op op_sub (pe_ix ix_tup (pv 1) pe_int (fun _ _ => rfl)) pe_int) pa_nil))) (pe_slice sl_tupA (pv 1) (po_some pe_int) po_none))))), ?_⟩
    refine ⟨_, rfl, ⟨a, ks, m, rfl, hk, few, hm, m4, fun p H1 s1 np hp => ?_⟩⟩
    obtain ⟨c0, c1, c2, r, ec, e1⟩ : ∃ c0 c1 c2 r, cnt (ks.map (·.2)) (m + 1) = c0 :: c1 :: c2 :: r ∧ c1 = (((ks.map (·.2)).count 1 : Nat) : Int) := by
      obtain ⟨j, rfl⟩ : ∃ j, m = j + 2 := ⟨m - 2, by omega⟩
      unfold cnt
      rw [List.range_succ_eq_map, List.map_cons, List.range_succ_eq_map, List.map_cons, List.range_succ_eq_map]
      simp only [List.map_cons]
      exact ⟨_, _, _, _, rfl, rfl⟩
    rw [ec] at hp q
    rw [← e1] at q
    rw [show (c0 :: c1 :: c2 :: r).map V.int = V.int c0 :: V.int c1 :: V.int c2 :: r.map V.int from rfl] at hp
    refine ⟨_, rfl, _, rfl, p, _, rfl, .inl (.inl hp), (fun z => absurd z cut1_not), fun _ p2 np2 => ?_⟩
    rw [cut1]
    have hp2 := same_upd (o := .tup [V.int c0]) np2 _ _ hp
    refine ⟨_, rfl, p, _, _, V.int c1, rfl, rfl, .inl (.inl hp2), atI_nat (j := 1) rfl, _, _, rfl, rfl, by show 1 ≤ sizeLine; decide, fun p3 np3 => ?_⟩
    have hp3 := same_upd (o := .tup [V.int (c1 - 1)]) np3 _ _ hp2
    refine ⟨p2, p3, _, _, rfl, rfl, .inl (.inl ((same_upd np3) _ _ upd_same)), .inl (.inl upd_same), by show 1 + 1 ≤ sizeLine; decide, (fun z => nomatch z), (fun _ z => nomatch z), fun _ _ p4 np4 => ?_⟩
    have hp4 := same_upd (o := .tup ([V.int c0] ++ [V.int (c1 - 1)])) np4 _ _ hp3
    refine ⟨_, rfl, _, rfl, p, _, rfl, .inl (.inl hp4), (fun z => absurd z cut2_not), fun _ p5 np5 => ?_⟩
    rw [cut2]
    have hl : r.length ≤ 5 := by
      have z := congrArg List.length ec
      rw [cnt_len] at z
      simp only [List.length_cons] at z
      omega
    refine ⟨p4, p5, _, _, rfl, rfl, .inl (.inl ((same_upd np5) _ _ upd_same)), .inl (.inl upd_same), fits_few (by simp only [List.length_append, List.length_cons, List.length_nil, List.length_map]; omega), (fun z => nomatch z), (fun _ z => nomatch z), fun _ _ p6 np6 => ?_⟩
    have sA := ((((s1.trans (same_upd np2)).trans (same_upd np3)).trans (same_upd np4)).trans (same_upd (o := .tup (V.int c2 :: r.map V.int)) np5))
    exact q p6 _ (sA.trans (same_upd np6)) (sA.free np6) upd_same
end
end My

namespace My
open PySem PySem.Spec PyProof.Rows L2
/-! ### drawn names and kinds -/
abbrev c_SIGNS : Str := "abcdefghijklmnopqrstuvwxyz0123456789"
/-- the signs of codes, as values -/
def sgs (cs : List Nat) : List V := cs.map fun c => V.str (oneS c)
theorem sgs_text (z : Str) : (z.cps.toList.map fun c => V.str (oneS c)) = sgs z.cps.toList := rfl
theorem sgs_at {cs : List Nat} {i : Nat} {x : V} (h : (sgs cs)[i]? = some x) : ∃ c, cs[i]? = some c ∧ x = .str (oneS c) := by
  unfold sgs at h
  rw [List.getElem?_map] at h
  cases e : cs[i]? with
  | none =>
    rw [e] at h
    cases h
  | some c =>
    rw [e] at h
    cases h
    exact ⟨c, rfl, rfl⟩
theorem sgs_mem {cs : List Nat} {x : V} (h : x ∈ sgs cs) : ∃ c, c ∈ cs ∧ x = .str (oneS c) := by
  obtain ⟨c, h1, rfl⟩ := List.mem_map.mp h
  exact ⟨c, h1, rfl⟩
theorem sgs_len (cs : List Nat) : (sgs cs).length = cs.length := List.length_map ..
theorem sgs_app (a b : List Nat) : sgs a ++ sgs b = sgs (a ++ b) := by
  unfold sgs
  rw [List.map_append]
theorem sgs_cut (cs : List Nat) (lo hi : Option Int) : cutV (sgs cs) lo hi = sgs ((cs.drop (HT.sIx cs.length 0 lo)).take (HT.sIx cs.length cs.length hi - HT.sIx cs.length 0 lo)) := by
  unfold cutV sgs
  rw [List.length_map, List.map_take, List.map_drop]
theorem join_codes (cs : List Nat) : (Txt.join "" (cs.map oneS)).cps.toList = cs := by
  rw [tl_join0, List.map_map]
  induction cs with
  | nil => rfl
  | cons c r ih =>
    rw [List.map_cons, List.flatten_cons, ih]
    rfl
theorem let_sign {c : Nat} (h : isLet c = true) : isSign c = true := by
  rw [sign_or, h]
  rfl
theorem sgs_erase : ∀ (cs : List Nat) (j : Nat), (sgs cs).eraseIdx j = sgs (cs.eraseIdx j)
  | [], _ => rfl
  | _ :: _, 0 => rfl
  | c :: r, j + 1 => by
    show V.str (oneS c) :: (sgs r).eraseIdx j = V.str (oneS c) :: sgs (r.eraseIdx j)
    rw [sgs_erase r j]
theorem sgs_strs (cs : List Nat) : sgs cs = (cs.map oneS).map V.str := by
  unfold sgs
  rw [List.map_map]
  rfl
theorem sum_ones : ∀ cs : List Nat, ((cs.map oneS).map (·.length)).sum = cs.length
  | [] => rfl
  | c :: r => by
    rw [List.map_cons, List.map_cons, List.sum_cons, sum_ones r, List.length_cons]
    show 1 + r.length = r.length + 1
    omega
theorem ones_sum {cs : List Nat} (h : cs.length ≤ 100) : ((cs.map oneS).map (·.length)).sum + (cs.map oneS).length * ("" : Str).length ≤ 16777216 := by
  rw [sum_ones, show ("" : Str).length = 0 by decide +kernel, Nat.mul_zero]
  omega
theorem But.set {p D : Addr} {H H' : Hp} {o : HO} (h : But p H H') (n : H D = none) : But p H (upd H' D o) := ⟨fun b u e m => by
  rw [upd_ne (ne_of_none e n)]
  exact h.1 b u e m, fun z => by
  by_cases e : p = D
  · rw [e, upd_same] at z
    cases z
  · rw [upd_ne e] at z
    exact h.2 z⟩
theorem Pot.upd {H : Hp} {p c D : Addr} {o : HO} (h : Pot H p c) (n1 : p ≠ D) (n2 : c ≠ D) : Pot (L2.upd H D o) p c := by
  obtain ⟨ns, pl, am, sz, h1, h2, h3⟩ := h
  exact ⟨ns, pl, am, sz, by rw [upd_ne n1]; exact h1, by rw [upd_ne n2]; exact h2, h3⟩
theorem seq_nat {n j : Nat} (h : j < n) : seqIndex? (j : Int) n = some j := by
  refine (ixN_seq ?_).1
  unfold ixN
  rw [if_pos (by omega), if_pos (by omega)]
  rfl
/-- a word: the stem with another letter at its place -/
def wordOf (st : List Nat) (pl x : Nat) : List Nat := st.take pl ++ [x] ++ st.drop (pl + 1)
theorem word_len {st : List Nat} {pl x : Nat} (h : st.length = 8) (hp : pl < 8) : (wordOf st pl x).length = 8 := by
  unfold wordOf
  rw [List.length_append, List.length_append, List.length_take, List.length_drop]
  show _ + 1 + _ = _
  omega
theorem word_at {st : List Nat} {pl x : Nat} (h : st.length = 8) (hp : pl < 8) : (wordOf st pl x)[pl]? = some x := by
  unfold wordOf
  rw [List.append_assoc, List.getElem?_append_right (by rw [List.length_take]; omega), List.length_take, show pl - min pl st.length = 0 by omega]
  rfl
theorem word_first {st : List Nat} {pl x y : Nat} (h : st.length = 8) (hp : pl < 8) (hx : isLet x = true) (h0 : ∀ y, st[0]? = some y → isLet y = true) (e : (wordOf st pl x)[0]? = some y) : isLet y = true := by
  cases pl with
  | zero =>
    have z : (wordOf st 0 x)[0]? = some x := word_at h (by omega)
    rw [z] at e
    cases e
    exact hx
  | succ n =>
    unfold wordOf at e
    rw [List.append_assoc, List.getElem?_append_left (by rw [List.length_take]; omega), List.getElem?_take_of_lt (by omega)] at e
    exact h0 y e
theorem word_signs {st : List Nat} {pl x : Nat} (hx : isSign x = true) (hs : ∀ y ∈ st, isSign y = true) : ∀ y ∈ wordOf st pl x, isSign y = true := by
  intro y hy
  rcases List.mem_append.mp hy with hy | hy
  · rcases List.mem_append.mp hy with hy | hy
    · exact hs y (List.mem_of_mem_take hy)
    · rw [List.mem_singleton.mp hy]
      exact hx
  · exact hs y (List.mem_of_mem_drop hy)
/-- the first n signs of such a word are a name -/
theorem name_of {cs : List Nat} {n : Nat} (hl : cs.length = 8) (h1 : 1 ≤ n) (h8 : n ≤ 8) (h0 : ∀ y, cs[0]? = some y → isLet y = true) (hs : ∀ y ∈ cs, isSign y = true) : isNm (Txt.join "" ((cs.take n).map oneS)) = true := by
  unfold isNm
  rw [join_codes]
  cases e : cs.take n with
  | nil =>
    have z := congrArg List.length e
    rw [List.length_take, List.length_nil] at z
    omega
  | cons c r =>
    have z := congrArg List.length e
    rw [List.length_take, List.length_cons] at z
    have hc : cs[0]? = some c := by
      have y : (cs.take n)[0]? = some c := by rw [e]; rfl
      rw [List.getElem?_take_of_lt (by omega)] at y
      exact y
    have hall : (c :: r).all isSign = true := by
      rw [List.all_eq_true, ← e]
      exact fun y hy => hs y (List.mem_of_mem_take hy)
    dsimp only
    rw [h0 c hc, hall, decide_eq_true (by omega)]
    rfl
theorem sign_in {x : Nat} (h : x ∈ c_SIGNS.cps.toList) : isSign x = true := by
  have e : (c_LETTERS ++ c_DIGITS).cps.toList = c_SIGNS.cps.toList := by decide +kernel
  exact decide_eq_true (by rw [e]; exact h)
theorem zero_len (j : Nat) : V.bl (decide (V.int ((0 : Int) + (j : Nat)) = V.int 0)) = V.bl (decide (j = 0)) := by
  rw [Int.zero_add]
  exact eq_len j 0
theorem erase_not : ∀ {ls : List Nat} {j : Nat} (nd : ls.Nodup) (h : j < ls.length), ls[j] ∉ ls.eraseIdx j
  | [], _, _, h => absurd h (Nat.not_lt_zero _)
  | c :: r, 0, nd, _ => (List.nodup_cons.mp nd).1
  | c :: r, j + 1, nd, h => by
    have h' : j < r.length := by
      rw [List.length_cons] at h
      omega
    intro z
    rcases List.mem_cons.mp (show (c :: r)[j + 1] ∈ c :: r.eraseIdx j from z) with e | e
    · exact (List.nodup_cons.mp nd).1 (e ▸ List.getElem_mem h')
    · exact erase_not (List.nodup_cons.mp nd).2 h' e
theorem cut_pre (cs : List Nat) (n : Nat) (h : n ≤ cs.length) : cutV (sgs cs) none (some (n : Int)) = sgs (cs.take n) := by
  rw [sgs_cut, HT.sIx_none, HT.sIx_nat, Nat.sub_zero, List.drop_zero, Nat.min_eq_left h]
theorem cut_post (cs : List Nat) (n : Nat) (h : n + 1 ≤ cs.length) : cutV (sgs cs) (some ((n : Int) + 1)) none = sgs (cs.drop (n + 1)) := by
  have e : ((n : Int) + 1) = ((n + 1 : Nat) : Int) := by omega
  rw [e, sgs_cut, HT.sIx_none, HT.sIx_nat, Nat.min_eq_left h, List.take_of_length_le (by rw [List.length_drop]; exact Nat.le_refl _)]
theorem cut_name (cs : List Nat) (n b : Nat) (h : n + 1 + b ≤ cs.length) : cutV (sgs cs) none (some ((n : Int) + 1 + (b : Int))) = sgs (cs.take (n + 1 + b)) := by
  have e : ((n : Int) + 1 + (b : Int)) = ((n + 1 + b : Nat) : Int) := by omega
  rw [e]
  exact cut_pre cs (n + 1 + b) h
def spNames : Sp := fun vs H Q _ => ∃ (p c : Addr) (many : Nat), vs = [.ref p, .int many] ∧ Pot H p c ∧ many ≤ 8 ∧ ∀ (l : Addr) (ws : List Str) (H' : Hp), But p H H' → Pot H' p c → H l = none → H' l = some (.lst (ws.map V.str)) → ws.length = many → (∀ y ∈ ws, isNm y = true) → ws.Nodup → Q (.ref l) H'
abbrev s_law_some_names : Stmt := topS 21
theorem sc_law_some_names : FnScope ["pot", "many", "letters", "signs", "place", "found", "stem", "turn", "letter", "word", "spot"] ["pot", "many"] (defScope s_law_some_names) := ⟨rfl, rfl, rfl, by decide +kernel, rfl, by decide +kernel, by decide +kernel⟩
abbrev s_law_some_kind : Stmt := topS 22
theorem sc_law_some_kind : FnScope ["pot", "many", "numbers", "at", "turn", "tag", "number"] ["pot"] (defScope s_law_some_kind) := ⟨rfl, rfl, rfl, by decide +kernel, rfl, by decide +kernel, by decide +kernel⟩
structure TxtM (mg : Str → Option Value) : Prop where
  n_list : mg "list" = none
  n_range : mg "range" = none
  n_len : mg "len" = none
  n_tuple : mg "tuple" = none
  n_zip : mg "zip" = none
section
variable {P : Program} {w : World} {K : PySem.W.Frag} {mg : Str → Option Value} {base : Heap}
theorem ok_some_names {f fb fp : Addr} {fd fdb fdp : FuncData} {k : Nat} (F : Fun K "_law_some_names" "_law_some_names" s_law_some_names f fd) (T : TxtM mg) (F__law_below : Fun K "_law_below" "_law_below" s_law_below fb fdb) (b__law_below : Binds K fdb ["pot", "bound"] []) (g__law_below : mg "_law_below" = some (.ref fb))
    (G__law_below : FnOk P w K mg base CX0 2 fb fdb ["pot", "bound"] spBelow) (F__law_pick : Fun K "_law_pick" "_law_pick" s_law_pick fp fdp) (b__law_pick : Binds K fdp ["pot", "items"] []) (g__law_pick : mg "_law_pick" = some (.ref fp))
    (G__law_pick : FnOk P w K mg base CX0 3 fp fdp ["pot", "items"] (spPick K)) : FnOk P w K mg base CX0 (k + 4) f fd ["pot", "many"] spNames := by
  refine F.ok sc_law_some_names (fun vs H Q E h => ?_) (fun cdv A outer s H vs Q E hr h => ?_)
  · obtain ⟨p, c, many, rfl, _⟩ := h
    rfl
  · obtain ⟨p, c, many, rfl, hP, hmany, q⟩ := h
    refine ⟨_, (pss_cons (ps_asg (pe_tup (pa_cons (pe_callTy (call_listS (by rfl)) (by rfl) T.n_list (by decide +kernel) (pa_cons pe_str pa_nil)) (pa_cons (pe_callTy (call_listS (by rfl)) (by rfl) T.n_list (by decide +kernel) (pa_cons pe_str pa_nil)) pa_nil))) (pg_tup rfl (pgs_cons (pg_name (i := 2) sc_law_some_names.nd rfl (.inr rfl)) (pgs_cons (pg_name (i := 3) sc_law_some_names.nd rfl (.inr rfl)) pgs_nil))))
  (pss_cons (ps_par (i := 4) (j := 5) (by rfl) sc_law_some_names.nd rfl rfl (by decide) rfl rfl (pa_cons (pe_call G__law_below (hr.mono (by omega)) (by rfl) g__law_below F__law_below.kp b__law_below .nil pass0 (pa_cons (pv 0) (pa_cons pe_int pa_nil))) (pa_cons (pe_lst pa_nil) pa_nil)) (by rfl))
  (pss_cons (ps_setLc (i := 6) (own := [("spot", 10)]) (g := gName 10) rfl sc_law_some_names.nd rfl rfl (sw_true rfl rfl rfl (by decide +kernel)) (pi_range1 (by rfl) T.n_range (pa_cons pe_int pa_nil)) (blkOk_by (own := [("spot", 10)]) (N := ["pot", "many", "letters", "signs", "place", "found", "stem", "turn", "letter", "word", "spot"]) (sc := defScope s_law_some_names) (by decide +kernel)) (fun _ _ _ _ _ => (pg_name (i := 10) sc_law_some_names.nd rfl (.inl rfl))) (fun _ _ _ _ _ => pts_nil) (fun _ _ _ _ _ => (pe_call G__law_pick (hr.mono (by omega)) (by rfl) g__law_pick F__law_pick.kp b__law_pick .nil pass0 (pa_cons (pv 0) (pa_cons (pe_ifExp (pt_cmpR op_eq (pv 10) pe_int (nomark _)) (pv 2) (pv 3)) pa_nil)))))
  (pss_cons (ps_for PassesOwn.never rfl (pi_range1 (by rfl) T.n_range (pa_cons (pv 1) pa_nil)) (pg_name (i := 7) sc_law_some_names.nd rfl (.inl rfl))
   (pss_cons (ps_set (i := 8) sc_law_some_names.nd rfl (.inl rfl) (pe_bm PySem.F.plainAttrs_list PySem.F.slot_list_pop PySem.F.type_list_pop mt_popAt (pv 2) (pa_cons (pe_call G__law_below (hr.mono (by omega)) (by rfl) g__law_below F__law_below.kp b__law_below .nil pass0 (pa_cons (pv 0) (pa_cons (pe_callB call_len_seq (by rfl) T.n_len (by decide +kernel) (pa_cons (pv 2) pa_nil)) pa_nil))) pa_nil)))
  (pss_cons (ps_set (i := 9) sc_law_some_names.nd rfl (.inl rfl) (pe_op op_cat (pe_op op_cat (pe_slice sl_list (pv 6) po_none (po_some (pv 4))) (pe_lst (pa_cons (pv 8) pa_nil))) (pe_slice sl_list (pv 6) (po_some (pe_op op_add (pv 4) pe_int)) po_none)))
  (pss_one (ps_expr (pe_bm PySem.F.plainAttrs_list PySem.F.slot_list_append PySem.F.type_list_append mt_append (pv 5) (pa_cons (pe_join pe_str (pe_slice sl_list (pv 9) po_none (po_some (pe_op op_add (pe_op op_add (pv 4) pe_int) (pe_call G__law_below (hr.mono (by omega)) (by rfl) g__law_below F__law_below.kp b__law_below .nil pass0 (pa_cons (pv 0) (pa_cons (pe_op op_sub pe_int (pv 4)) pa_nil))))))) pa_nil)))))))
  (pss_one (ps_ret (pv 5))))))), ?_⟩
    -- letters, signs
    refine ⟨_, rfl, by decide +kernel, fun L0 nL => ⟨_, rfl, by decide +kernel, fun S0 nS => ⟨by show 2 ≤ sizeLine; decide, fun T0 nT => ?_⟩⟩⟩
    have hL1 := (same_upd (o := .lst (sgs c_SIGNS.cps.toList)) nS).trans (same_upd (o := .tup [.ref L0, .ref S0]) nT) L0 (.lst (sgs c_LETTERS.cps.toList)) upd_same
    have hS1 := same_upd (o := .tup [.ref L0, .ref S0]) nT S0 (.lst (sgs c_SIGNS.cps.toList)) upd_same
    have s1 := ((same_upd (o := .lst (sgs c_LETTERS.cps.toList)) nL).trans (same_upd (o := .lst (sgs c_SIGNS.cps.toList)) nS)).trans (same_upd (o := .tup [.ref L0, .ref S0]) nT)
    refine ⟨T0, _, rfl, .inl (.inl upd_same), rfl, _, _, rfl, _, _, rfl, rfl, ?_⟩
    have nSH : H S0 = none := (same_upd nL).free nS
    have hP1 := hP.same s1
    obtain ⟨ns0, p0, am0, sz0, hp0, hc0, hl0⟩ := id hP
    have npL : p ≠ L0 := ne_of_none hp0 nL
    have ncL : c ≠ L0 := ne_of_none hc0 nL
    have npS : p ≠ S0 := ne_of_none hp0 nSH
    have bH1 := But.of (s1 _ _ hp0) s1
    -- place, found
    refine ⟨_, rfl, p, c, 4, rfl, hP1, by decide, by decide, fun pl H2 pl0 pl1 hP2 b2 => ⟨Nat.zero_le _, fun F0 nF => ⟨_, _, rfl, ?_⟩⟩⟩
    have bH2 : But p H H2 := bH1.trans b2
    have hL2 := b2.1 _ _ hL1 (Ne.symm npL)
    have hS2 := b2.1 _ _ hS1 (Ne.symm npS)
    have nFH : H F0 = none := bH2.free nF
    obtain ⟨ns2, p2', am2, sz2, hp2, hc2, hl2⟩ := id hP2
    have npF : p ≠ F0 := ne_of_none hp2 nF
    have ncF : c ≠ F0 := ne_of_none hc2 nF
    have nLF : L0 ≠ F0 := ne_of_none hL2 nF
    have s3 : Same H2 (upd H2 F0 (.lst [])) := same_upd nF
    have hL3 := s3 _ _ hL2
    have hS3 := s3 _ _ hS2
    have hP3 := hP2.same s3
    have bH3 : But p H (upd H2 F0 (.lst [])) := bH2.set nFH
    have hF3 : upd H2 F0 (.lst []) F0 = some (.lst []) := upd_same
    generalize upd H2 F0 (.lst []) = H3 at s3 hL3 hS3 hP3 bH3 hF3 ⊢
    -- stem
    refine ⟨8, rfl, by decide, by decide, fun Z nZ => ?_⟩
    have nZH : H Z = none := bH3.free nZ
    obtain ⟨ns3, p3', am3, sz3, hp3, hc3, hl3⟩ := id hP3
    have npZ : p ≠ Z := ne_of_none hp3 nZ
    have ncZ : c ≠ Z := ne_of_none hc3 nZ
    have nLZ : L0 ≠ Z := ne_of_none hL3 nZ
    have nFZ : F0 ≠ Z := ne_of_none hF3 nZ
    have sZ : Same H3 (upd H3 Z (.lst [])) := same_upd nZ
    refine lc_range (n := 8) (fun j H4 => But p H3 H4 ∧ Pot H4 p c ∧ ∃ st : List Nat, H4 Z = some (.lst (sgs st)) ∧ st.length = j ∧ (∀ x ∈ st, isSign x = true) ∧ ∀ x, st[0]? = some x → isLet x = true) ⟨But.of (sZ _ _ hp3) sZ, hP3.same sZ, [], upd_same, rfl, (fun _ z => nomatch z), (fun _ z => nomatch z)⟩ ?_ ?_
    · rintro j H4 hj ⟨b4, hP4, st, hZ4, lst4, sg4, le4⟩
      refine ⟨rfl, ?_⟩
      unfold tYes
      dsimp only
      rw [if_pos rfl]
      have hL4 := b4.1 _ _ hL3 (Ne.symm npL)
      have hS4 := b4.1 _ _ hS3 (Ne.symm npS)
      have step : ∀ (x : Nat) (H5 : Hp), But p H4 H5 → Pot H5 p c → isSign x = true → (j = 0 → isLet x = true) → ∃ acc, H5 Z = some (.lst acc) ∧ acc.length < sizeLine ∧ But p H3 (upd H5 Z (.lst (acc ++ [V.str (oneS x)]))) ∧ Pot (upd H5 Z (.lst (acc ++ [V.str (oneS x)]))) p c ∧ ∃ st : List Nat, upd H5 Z (.lst (acc ++ [V.str (oneS x)])) Z = some (.lst (sgs st)) ∧ st.length = j + 1 ∧ (∀ x ∈ st, isSign x = true) ∧ ∀ x, st[0]? = some x → isLet x = true := by
        intro x H5 b5 hP5 hx h0
        have hZ5 := b5.1 _ _ hZ4 (Ne.symm npZ)
        refine ⟨_, hZ5, ?_, (b4.trans b5).set nZ, hP5.upd npZ ncZ, st ++ [x], ?_, ?_, ?_, ?_⟩
        · rw [sgs_len]
          exact small1000 (by omega)
        · rw [upd_same, ← sgs_app]
          rfl
        · rw [List.length_append, lst4]
          rfl
        · intro y hy
          rcases List.mem_append.mp hy with hy | hy
          · exact sg4 y hy
          · rw [List.mem_singleton.mp hy]
            exact hx
        · intro y hy
          cases st with
          | nil =>
            cases hy
            exact h0 lst4.symm
          | cons c0 r0 => exact le4 y hy
      refine ⟨_, rfl, _, rfl, rfl, decide (j = 0), zero_len j, ?_⟩
      by_cases hj0 : j = 0
      · rw [decide_eq_true hj0]
        refine iteT ?_
        refine ⟨_, rfl, p, c, L0, _, rfl, hP4, .inl (.inl hL4), by decide +kernel, by decide +kernel, fun H5 hb5 => .inl (.inl (hb5.1 _ _ hL4 (Ne.symm npL))), fun v H5 hv hP5 b5 => ?_⟩
        obtain ⟨x, hx, rfl⟩ := sgs_mem hv
        have hl : isLet x = true := decide_eq_true hx
        exact step x H5 b5 hP5 (let_sign hl) fun _ => hl
      · rw [decide_eq_false hj0]
        refine iteF ?_
        refine ⟨_, rfl, p, c, S0, _, rfl, hP4, .inl (.inl hS4), by decide +kernel, by decide +kernel, fun H5 hb5 => .inl (.inl (hb5.1 _ _ hS4 (Ne.symm npS))), fun v H5 hv hP5 b5 => ?_⟩
        obtain ⟨x, hx, rfl⟩ := sgs_mem hv
        exact step x H5 b5 hP5 (sign_in hx) fun z => absurd z hj0
    · rintro H4 ⟨b4, hP4, st, hZ4, lst4, sg4, le4⟩
      have hL4 := b4.1 _ _ hL3 (Ne.symm npL)
      have hF4 := b4.1 _ _ hF3 (Ne.symm npF)
      have bH4 := bH3.trans b4
      obtain ⟨pn, rfl⟩ : ∃ pn : Nat, pl = (pn : Int) := ⟨pl.toNat, by omega⟩
      have hpn : pn < 4 := by omega
      refine ⟨_, rfl, (many : Int), rfl, by omega, by omega, for_range (n := many) (fun i σ H5 => ∃ (ls : List Nat) (ws : List Str) (v7 v8 v9 v10 : Option V), σ = [some (.ref p), some (.int many), some (.ref L0), some (.ref S0), some (.int pn), some (.ref F0), some (.ref Z), v7, v8, v9, v10] ∧ But p H H5 ∧ Pot H5 p c ∧ H5 L0 = some (.lst (sgs ls)) ∧ H5 Z = some (.lst (sgs st)) ∧ H5 F0 = some (.lst (ws.map V.str)) ∧
        ls.Nodup ∧ (∀ x ∈ ls, isLet x = true) ∧ ls.length + i = 26 ∧ ws.length = i ∧ (∀ y ∈ ws, isNm y = true ∧ ∃ u, y.cps.toList[pn]? = some u ∧ u ∉ ls) ∧ ws.Nodup)
        ⟨c_LETTERS.cps.toList, [], none, none, none, none, rfl, bH4, hP4, hL4, hZ4, hF4, by decide +kernel, (fun x hx => decide_eq_true hx), by decide +kernel, rfl, (fun _ z => nomatch z), List.nodup_nil⟩ ?_ ?_⟩
      · rintro i σ H5 hi ⟨ls, ws, v7, v8, v9, v10, rfl, b5, hP5, hL5, hZ5, hF5, nd, le5, ln5, lw5, nm5, nw5⟩
        -- letter = letters.pop(..)
        refine ⟨_, rfl, .inl ⟨rfl, _, .inl (.inl hL5)⟩, _, rfl, _, rfl, L0, _, rfl, .inl (.inl (.inl hL5)), p, c, _, rfl, hP5, ?_, ?_, fun v H6 v0 v1 hP6 b6 => ?_⟩
        · rw [sgs_len]
          omega
        · rw [sgs_len]
          omega
        rw [sgs_len] at v1
        obtain ⟨j, rfl⟩ : ∃ j : Nat, v = (j : Int) := ⟨v.toNat, by omega⟩
        have hj : j < ls.length := by omega
        have hL6 := b6.1 _ _ hL5 (Ne.symm npL)
        have hZ6 := b6.1 _ _ hZ5 (Ne.symm npZ)
        have hF6 := b6.1 _ _ hF5 (Ne.symm npF)
        refine ⟨L0, _, _, j, V.str (oneS ls[j]), rfl, rfl, hL6, by omega, by omega, seq_nat (by rw [sgs_len]; exact hj), ?_, ?_⟩
        · unfold sgs
          rw [List.getElem?_map, List.getElem?_eq_getElem hj]
          rfl
        rw [sgs_erase]
        have hlet := le5 _ (List.getElem_mem hj)
        have hnot : ls[j] ∉ ls.eraseIdx j := erase_not nd hj
        have hL7 : upd H6 L0 (.lst (sgs (ls.eraseIdx j))) L0 = some (.lst (sgs (ls.eraseIdx j))) := upd_same
        have hZ7 : upd H6 L0 (.lst (sgs (ls.eraseIdx j))) Z = some (.lst (sgs st)) := by rw [upd_ne (Ne.symm nLZ)]; exact hZ6
        have hF7 : upd H6 L0 (.lst (sgs (ls.eraseIdx j))) F0 = some (.lst (ws.map V.str)) := by rw [upd_ne (Ne.symm nLF)]; exact hF6
        have hP7 : Pot (upd H6 L0 (.lst (sgs (ls.eraseIdx j)))) p c := hP6.upd npL ncL
        have b7 : But p H (upd H6 L0 (.lst (sgs (ls.eraseIdx j)))) := (b5.trans b6).set nL
        generalize upd H6 L0 (.lst (sgs (ls.eraseIdx j))) = H7 at hL7 hZ7 hF7 hP7 b7 ⊢
        -- word
        refine ⟨_, rfl, _, rfl, _, rfl, Z, _, rfl, .inl (.inl hZ7), fun a1 f1 => ?_⟩
        rw [cut_pre st pn (by omega)]
        refine ⟨_, rfl, by show 1 ≤ sizeLine; decide, fun a2 f2 => ?_⟩
        refine ⟨a1, a2, sgs (st.take pn), [V.str (oneS ls[j])], rfl, rfl, (same_upd f2) _ _ upd_same, upd_same, fits_few (by rw [sgs_len, List.length_take]; show _ + 1 ≤ _; omega), fun a3 f3 => ?_⟩
        refine ⟨_, rfl, _, rfl, _, _, rfl, rfl, _, rfl, Z, _, rfl, .inl (.inl (same_upd f3 _ _ (same_upd f2 _ _ (same_upd f1 _ _ hZ7)))), fun a4 f4 => ?_⟩
        rw [cut_post st pn (by omega)]
        refine ⟨a3, a4, _, sgs (st.drop (pn + 1)), rfl, rfl, (same_upd f4) _ _ upd_same, upd_same, fits_few (by rw [List.length_append, sgs_len, sgs_len, List.length_take, List.length_drop]; show _ + 1 + _ ≤ _; omega), fun a5 f5 => ?_⟩
        have eW : (sgs (st.take pn) ++ [V.str (oneS ls[j])]) ++ sgs (st.drop (pn + 1)) = sgs (wordOf st pn ls[j]) := by
          unfold wordOf
          rw [← sgs_app, ← sgs_app]
          rfl
        rw [eW]
        have s8 : Same H7 (upd _ a5 (.lst (sgs (wordOf st pn ls[j])))) := ((((same_upd f1).trans (same_upd f2)).trans (same_upd f3)).trans (same_upd f4)).trans (same_upd f5)
        have hF8 := s8 _ _ hF7
        have hP8 := hP7.same s8
        have hW8 : ∀ G : Hp, upd G a5 (.lst (sgs (wordOf st pn ls[j]))) a5 = some (.lst (sgs (wordOf st pn ls[j]))) := fun G => upd_same
        obtain ⟨ns7, p7, am7, sz7, hp7, hc7, hl7⟩ := id hP7
        have np5 : p ≠ a5 := fun z => by
          have y := ne_of_none (((((same_upd f1).trans (same_upd f2)).trans (same_upd f3)).trans (same_upd f4)) _ _ hp7) f5
          exact y z
        -- found.append(..)
        refine ⟨_, rfl, .inl ⟨rfl, _, .inl (.inl hF8)⟩, ⟨_, rfl⟩, ?_⟩
        refine ⟨_, rfl, _, rfl, _, _, rfl, rfl, _, rfl, _, rfl, _, _, rfl, rfl, p, c, _, rfl, hP8, by omega, by omega, fun b H9 b0 b1 hP9 b9 => ?_⟩
        obtain ⟨bn, rfl⟩ : ∃ bn : Nat, b = (bn : Int) := ⟨b.toNat, by omega⟩
        have hbn : pn + 1 + bn ≤ 8 := by omega
        have hW9 := b9.1 _ _ (hW8 _) (Ne.symm np5)
        have hF9 := b9.1 _ _ hF8 (Ne.symm npF)
        have hL9 := b9.1 _ _ (s8 _ _ hL7) (Ne.symm npL)
        have hZ9 := b9.1 _ _ (s8 _ _ hZ7) (Ne.symm npZ)
        have wl : (wordOf st pn ls[j]).length = 8 := word_len lst4 (by omega)
        refine ⟨_, _, rfl, rfl, _, rfl, a5, _, rfl, .inl (.inl hW9), fun a6 f6 => ?_⟩
        rw [cut_name _ pn bn (by omega), sgs_strs ((wordOf st pn ls[j]).take (pn + 1 + bn))]
        have hF10 := same_upd (o := .lst ((((wordOf st pn ls[j]).take (pn + 1 + bn)).map oneS).map V.str)) f6 _ _ hF9
        have s10 := same_upd (o := .lst ((((wordOf st pn ls[j]).take (pn + 1 + bn)).map oneS).map V.str)) f6
        have nm : isNm (Txt.join "" (((wordOf st pn ls[j]).take (pn + 1 + bn)).map oneS)) = true := name_of wl (by omega) hbn (fun y hy => word_first lst4 (by omega) hlet le4 hy) (word_signs (let_sign hlet) sg4)
        have at' : (Txt.join "" (((wordOf st pn ls[j]).take (pn + 1 + bn)).map oneS)).cps.toList[pn]? = some ls[j] := by
          rw [join_codes, List.getElem?_take_of_lt (by omega)]
          exact word_at lst4 (by omega)
        refine ⟨_, a6, _, rfl, rfl, .inl (.inl (.inl upd_same)), ones_sum (by rw [List.length_take]; omega), F0, _, _, rfl, rfl, hF10, ?_, ?_⟩
        · rw [List.length_map]
          exact small1000 (by omega)
        refine ⟨ls.eraseIdx j, ws ++ [Txt.join "" (((wordOf st pn ls[j]).take (pn + 1 + bn)).map oneS)], _, _, _, _, rfl, (((b7.same s8).trans b9).same s10).set nFH, ((hP9.same s10).upd npF ncF), ?_, ?_, ?_, ?_, ?_, ?_, ?_, ?_, ?_⟩
        · rw [upd_ne nLF]
          exact s10 _ _ hL9
        · rw [upd_ne (Ne.symm nFZ)]
          exact s10 _ _ hZ9
        · rw [upd_same, List.map_append]
          rfl
        · exact nd.sublist (List.eraseIdx_sublist ..)
        · exact fun x hx => le5 x (List.mem_of_mem_eraseIdx hx)
        · rw [List.length_eraseIdx_of_lt hj]
          omega
        · rw [List.length_append, lw5]
          rfl
        · intro y hy
          rcases List.mem_append.mp hy with hy | hy
          · obtain ⟨h1, u, h2, h3⟩ := nm5 y hy
            exact ⟨h1, u, h2, fun z => h3 (List.mem_of_mem_eraseIdx z)⟩
          · rw [List.mem_singleton.mp hy]
            exact ⟨nm, _, at', hnot⟩
        · refine List.nodup_append.mpr ⟨nw5, List.nodup_cons.mpr ⟨(fun z => nomatch z), List.nodup_nil⟩, fun y hy z hz => ?_⟩
          rw [List.mem_singleton.mp hz]
          intro e
          obtain ⟨_, u, h2, h3⟩ := nm5 y hy
          rw [e, at'] at h2
          cases h2
          exact h3 (List.getElem_mem hj)
      · rintro σ H5 ⟨ls, ws, v7, v8, v9, v10, rfl, b5, hP5, hL5, hZ5, hF5, nd, le5, ln5, lw5, nm5, nw5⟩
        exact ⟨_, rfl, q F0 ws H5 b5 hP5 nFH hF5 lw5 (fun y hy => (nm5 y hy).1) nw5⟩
end
end My

namespace My
open PySem PySem.Spec PyProof.Rows L2
theorem Prs.snoc {H : Hp} {rs : List Addr} {ks : List (Str × Int)} {r : Addr} {p : Str × Int} (h : Prs H rs ks) (e : Rd H r (.tup [.str p.1, .int p.2])) : Prs H (rs ++ [r]) (ks ++ [p]) := by
  induction h with
  | nil => exact .cons e .nil
  | cons x _ ih => exact .cons x ih
/-- what grows at Y (a list) leaves the pairs as they are -/
theorem Prs.grow {H : Hp} {Y : Addr} {xs : List V} {o : HO} {rs : List Addr} {ks : List (Str × Int)} (h : Prs H rs ks) (hY : H Y = some (.lst xs)) : Prs (L2.upd H Y o) rs ks := by
  induction h with
  | nil => exact .nil
  | cons x _ ih =>
    refine .cons ?_ ih
    rcases x with x | ⟨o2, x⟩
    · refine .inl ?_
      rw [upd_ne fun z => ?_]
      · exact x
      · rw [z, hY] at x
        cases x
    · refine .inr ⟨o2, ?_⟩
      rw [upd_ne fun z => ?_]
      · exact x
      · rw [z, hY] at x
        cases x
/-- a: a new tuple of pairs, its object told -/
def KindF (H : Hp) (a : Addr) (ks : List (Str × Int)) : Prop := ∃ rs o, H a = some (.frz o (.tup (rs.map V.ref))) ∧ o.dict = none ∧ Prs H rs ks
theorem KindF.at {H : Hp} {a : Addr} {ks : List (Str × Int)} (h : KindF H a ks) : KindAt H a ks := by
  obtain ⟨rs, o, e, _, p⟩ := h
  exact ⟨rs, .inr ⟨o, e⟩, p⟩
theorem KindF.same {H H' : Hp} {a : Addr} {ks : List (Str × Int)} (h : KindF H a ks) (s : Same H H') : KindF H' a ks := by
  obtain ⟨rs, o, e, d, p⟩ := h
  exact ⟨rs, o, s _ _ e, d, p.same s⟩
/-- a right kind -/
def Right (ks : List (Str × Int)) : Prop := (2 ≤ ks.length ∧ ks.length ≤ 8) ∧ okK ks = true ∧ ∀ q ∈ ks, isNm q.1 = true ∧ 0 ≤ q.2 ∧ q.2 ≤ 4
def spKind : Sp := fun vs H Q _ => ∃ (p c : Addr), vs = [.ref p] ∧ Pot H p c ∧ ∀ (a : Addr) (ks : List (Str × Int)) (H' : Hp), But p H H' → Pot H' p c → H a = none → KindF H' a ks → Right ks → Q (.ref a) H'
theorem cutI (ns : List Int) (lo hi : Option Int) : cutV (ns.map V.int) lo hi = ((ns.drop (HT.sIx ns.length 0 lo)).take (HT.sIx ns.length ns.length hi - HT.sIx ns.length 0 lo)).map V.int := cut_map ns lo hi
theorem cutI_pre (ns : List Int) (n : Nat) (h : n ≤ ns.length) : cutV (ns.map V.int) none (some (n : Int)) = (ns.take n).map V.int := by
  rw [cutI, HT.sIx_none, HT.sIx_nat, Nat.sub_zero, List.drop_zero, Nat.min_eq_left h]
theorem cutI_post (ns : List Int) (n : Nat) (h : n ≤ ns.length) : cutV (ns.map V.int) (some (n : Int)) none = (ns.drop n).map V.int := by
  rw [cutI, HT.sIx_none, HT.sIx_nat, Nat.min_eq_left h, List.take_of_length_le (by rw [List.length_drop]; exact Nat.le_refl _)]
section
variable {P : Program} {w : World} {K : PySem.W.Frag} {mg : Str → Option Value} {base : Heap}
theorem ok_some_kind {f fb fp fn : Addr} {fd fdb fdp fdn : FuncData} {k : Nat} (F : Fun K "_law_some_kind" "_law_some_kind" s_law_some_kind f fd) (T : TxtM mg) (F__law_below : Fun K "_law_below" "_law_below" s_law_below fb fdb) (b__law_below : Binds K fdb ["pot", "bound"] []) (g__law_below : mg "_law_below" = some (.ref fb))
    (G__law_below : FnOk P w K mg base CX0 2 fb fdb ["pot", "bound"] spBelow) (F__law_pick : Fun K "_law_pick" "_law_pick" s_law_pick fp fdp) (b__law_pick : Binds K fdp ["pot", "items"] []) (g__law_pick : mg "_law_pick" = some (.ref fp))
    (G__law_pick : FnOk P w K mg base CX0 3 fp fdp ["pot", "items"] (spPick K)) (F__law_some_names : Fun K "_law_some_names" "_law_some_names" s_law_some_names fn fdn) (b__law_some_names : Binds K fdn ["pot", "many"] []) (g__law_some_names : mg "_law_some_names" = some (.ref fn))
    (G__law_some_names : FnOk P w K mg base CX0 4 fn fdn ["pot", "many"] spNames) : FnOk P w K mg base CX0 (k + 5) f fd ["pot"] spKind := by
  refine F.ok sc_law_some_kind (fun vs H Q E h => ?_) (fun cdv A outer s H vs Q E hr h => ?_)
  · obtain ⟨p, c, rfl, _⟩ := h
    rfl
  · obtain ⟨p, c, rfl, hP, q⟩ := h
    refine ⟨_, (pss_cons (ps_set (i := 1) sc_law_some_kind.nd rfl (.inl rfl) (pe_op op_add pe_int (pe_call G__law_below (hr.mono (by omega)) (by rfl) g__law_below F__law_below.kp b__law_below .nil pass0 (pa_cons (pv 0) (pa_cons pe_int pa_nil)))))
  (pss_cons (ps_set (i := 2) sc_law_some_kind.nd rfl (.inl rfl) (pe_op op_cat (pe_lst (pa_cons pe_int (pa_cons (pe_op op_add pe_int (pe_call G__law_below (hr.mono (by omega)) (by rfl) g__law_below F__law_below.kp b__law_below .nil pass0 (pa_cons (pv 0) (pa_cons pe_int pa_nil)))) pa_nil))) (pe_lc (own := [("turn", 4)]) (g := gName 4) rfl sc_law_some_kind.nd (pi_range1 (by rfl) T.n_range (pa_cons (pe_op op_sub (pv 1) pe_int) pa_nil)) (blkOk_by (own := [("turn", 4)]) (N := ["pot", "many", "numbers", "at", "turn", "tag", "number"]) (sc := defScope s_law_some_kind) (by decide +kernel)) (fun _ _ _ _ _ => (pg_name (i := 4) sc_law_some_kind.nd rfl (.inl rfl))) (fun _ _ _ _ _ => pts_nil) (fun _ _ _ _ _ => (pe_call G__law_pick (hr.mono (by omega)) (by rfl) g__law_pick F__law_pick.kp b__law_pick .nil pass0 (pa_cons (pv 0) (pa_cons (pe_lst (pa_cons pe_int (pa_cons pe_int (pa_cons pe_int (pa_cons pe_int (pa_cons pe_int (pa_cons pe_int (pa_cons pe_int pa_nil)))))))) pa_nil)))))))
  (pss_cons (ps_set (i := 3) sc_law_some_kind.nd rfl (.inl rfl) (pe_call G__law_below (hr.mono (by omega)) (by rfl) g__law_below F__law_below.kp b__law_below .nil pass0 (pa_cons (pv 0) (pa_cons (pv 1) pa_nil))))
  (pss_cons (ps_set (i := 2) sc_law_some_kind.nd rfl (.inl rfl) (pe_op op_cat (pe_slice sl_list (pv 2) (po_some (pv 3)) po_none) (pe_slice sl_list (pv 2) po_none (po_some (pv 3)))))
  (pss_one (ps_ret (pe_callTy call_tupleF (by rfl) T.n_tuple (by decide +kernel) (pa_cons (pe_lc (own := [("tag", 5), ("number", 6)]) (g := gTup K 2 (gCons (gName 5) (gCons (gName 6) gNil))) rfl sc_law_some_kind.nd (pi_zip (by rfl) T.n_zip (pa_cons (pe_call G__law_some_names (hr.mono (by omega)) (by rfl) g__law_some_names F__law_some_names.kp b__law_some_names .nil pass0 (pa_cons (pv 0) (pa_cons (pv 1) pa_nil))) (pa_cons (pv 2) pa_nil))) (blkOk_by (own := [("tag", 5), ("number", 6)]) (N := ["pot", "many", "numbers", "at", "turn", "tag", "number"]) (sc := defScope s_law_some_kind) (by decide +kernel)) (fun _ _ _ _ _ => (pg_tup rfl (pgs_cons (pg_name (i := 5) sc_law_some_kind.nd rfl (.inl rfl)) (pgs_cons (pg_name (i := 6) sc_law_some_kind.nd rfl (.inl rfl)) pgs_nil)))) (fun _ _ _ _ _ => pts_nil) (fun _ _ _ _ _ => (pe_tup (pa_cons (pv 5) (pa_cons (pv 6) pa_nil))))) pa_nil)))))))), ?_⟩
    -- many
    refine ⟨_, rfl, p, c, 7, rfl, hP, by decide, by decide, fun v H1 v0 v1 hP1 b1 => ⟨_, _, rfl, rfl, ?_⟩⟩
    obtain ⟨vn, rfl⟩ : ∃ vn : Nat, v = (vn : Int) := ⟨v.toNat, by omega⟩
    have hvn : vn < 7 := by omega
    -- numbers
    refine ⟨_, rfl, p, c, 3, rfl, hP1, by decide, by decide, fun u H2 u0 u1 hP2 b2 => ⟨_, _, rfl, rfl, by show 2 ≤ sizeLine; decide, fun a1 f1 => ?_⟩⟩
    have bH2 := b1.trans b2
    have s3 := same_upd (o := .lst [.int 0, .int (2 + u)]) f1
    have hP3 := hP2.same s3
    have h1a : upd H2 a1 (.lst [.int 0, .int (2 + u)]) a1 = some (.lst [.int 0, .int (2 + u)]) := upd_same
    obtain ⟨ns2, p2', am2, sz2, hp2, hc2, hl2⟩ := id hP2
    have np1 : p ≠ a1 := ne_of_none hp2 f1
    have b3 := bH2.same s3
    refine ⟨_, rfl, _, _, rfl, rfl, (2 + (vn : Int)) - 2, rfl, by omega, by omega, fun Z nZ => ?_⟩
    have npZ : p ≠ Z := ne_of_none (s3 _ _ hp2) nZ
    have ncZ : c ≠ Z := ne_of_none (s3 _ _ hc2) nZ
    have nZH : H Z = none := b3.free nZ
    have sZ := same_upd (o := .lst []) nZ
    refine lc_range (n := ((2 + (vn : Int)) - 2).toNat) (fun j H4 => But p _ H4 ∧ Pot H4 p c ∧ ∃ ns : List Int, H4 Z = some (.lst (ns.map V.int)) ∧ ns.length = j ∧ ∀ n ∈ ns, 0 ≤ n ∧ n ≤ 4) ⟨But.of (sZ _ _ (s3 _ _ hp2)) sZ, hP3.same sZ, [], upd_same, rfl, fun _ z => nomatch z⟩ ?_ ?_
    · rintro j H4 hj ⟨b4, hP4, ns, hZ4, ln, all⟩
      refine ⟨rfl, ?_⟩
      unfold tYes
      dsimp only
      rw [if_pos rfl]
      refine ⟨_, rfl, by show 7 ≤ sizeLine; decide, fun l nl => ?_⟩
      have sl := same_upd (o := .lst [.int 0, .int 0, .int 1, .int 1, .int 2, .int 3, .int 4]) nl
      obtain ⟨ns4, p4, am4, sz4, hp4, hc4, hl4⟩ := id hP4
      have npl : p ≠ l := ne_of_none hp4 nl
      refine ⟨p, c, l, _, rfl, hP4.same sl, .inl (.inl upd_same), (fun z => nomatch z), by show 7 < 1073741824; decide, fun H' hb => .inl (.inl (hb.1 _ _ upd_same (Ne.symm npl))), fun x H5 hx hP5 b5 => ?_⟩
      obtain ⟨n, rfl, n0, n4⟩ : ∃ n : Int, x = .int n ∧ 0 ≤ n ∧ n ≤ 4 := by
        simp only [List.mem_cons, List.not_mem_nil, or_false] at hx
        rcases hx with rfl | rfl | rfl | rfl | rfl | rfl | rfl <;> exact ⟨_, rfl, by decide, by decide⟩
      have hZ5 := b5.1 _ _ (sl _ _ hZ4) (Ne.symm npZ)
      refine ⟨_, hZ5, ?_, ((b4.same sl).trans b5).set nZ, hP5.upd npZ ncZ, ns ++ [n], ?_, ?_, ?_⟩
      · rw [List.length_map, ln]
        exact small1000 (by omega)
      · rw [upd_same, List.map_append]
        rfl
      · rw [List.length_append, ln]
        rfl
      · intro y hy
        rcases List.mem_append.mp hy with hy | hy
        · exact all y hy
        · rw [List.mem_singleton.mp hy]
          exact ⟨n0, n4⟩
    · rintro H4 ⟨b4, hP4, ns, hZ4, ln, all⟩
      have lnn : ns.length = vn := by omega
      have h1b := b4.1 _ _ h1a (Ne.symm np1)
      refine ⟨a1, Z, _, ns.map V.int, rfl, rfl, h1b, hZ4, fits_few (by rw [List.length_map]; show 2 + _ ≤ _; omega), fun a2 f2 => ?_⟩
      have eN : ([V.int 0, V.int (2 + u)] ++ ns.map V.int) = ((0 : Int) :: (2 + u) :: ns).map V.int := rfl
      generalize hnn : ((0 : Int) :: (2 + u) :: ns) = nn at eN
      have lN : nn.length = 2 + vn := by
        rw [← hnn, List.length_cons, List.length_cons]
        omega
      have zN : (0 : Int) ∈ nn := by
        rw [← hnn]
        exact List.mem_cons_self
      have tN : ∃ x ∈ nn, 2 ≤ x := ⟨2 + u, by rw [← hnn]; exact List.mem_cons_of_mem _ List.mem_cons_self, by omega⟩
      have aN : ∀ x ∈ nn, 0 ≤ x ∧ x ≤ 4 := by
        intro x hx
        rw [← hnn] at hx
        rcases List.mem_cons.mp hx with rfl | hx
        · exact ⟨by decide, by decide⟩
        · rcases List.mem_cons.mp hx with rfl | hx
          · exact ⟨by omega, by omega⟩
          · exact all x hx
      rw [eN]
      have s4 := same_upd (o := .lst (nn.map V.int)) f2
      have hP5 := hP4.same s4
      have h2a : upd H4 a2 (.lst (nn.map V.int)) a2 = some (.lst (nn.map V.int)) := upd_same
      obtain ⟨ns4, p4, am4, sz4, hp4, hc4, hl4⟩ := id hP4
      have np2 : p ≠ a2 := ne_of_none hp4 f2
      have bH5 := (b3.trans b4).same s4
      generalize upd H4 a2 (.lst (nn.map V.int)) = H5 at s4 hP5 h2a bH5 ⊢
      -- at
      refine ⟨_, rfl, _, rfl, p, c, _, rfl, hP5, by omega, by omega, fun t H6 t0 t1 hP6 b6 => ?_⟩
      obtain ⟨tn, rfl⟩ : ∃ tn : Nat, t = (tn : Int) := ⟨t.toNat, by omega⟩
      have htn : tn ≤ nn.length := by omega
      have h2b := b6.1 _ _ h2a (Ne.symm np2)
      have bH6 := bH5.trans b6
      -- numbers[at:] + numbers[:at]
      refine ⟨_, rfl, _, rfl, _, rfl, a2, _, rfl, .inl (.inl h2b), fun a3 f3 => ?_⟩
      rw [cutI_post nn tn htn]
      have s7 := same_upd (o := .lst ((nn.drop tn).map V.int)) f3
      refine ⟨_, rfl, _, rfl, _, rfl, a2, _, rfl, .inl (.inl (s7 _ _ h2b)), fun a4 f4 => ?_⟩
      rw [cutI_pre nn tn htn]
      have s8 := same_upd (o := .lst ((nn.take tn).map V.int)) f4
      refine ⟨a3, a4, _, _, rfl, rfl, s8 _ _ upd_same, upd_same, fits_few (by rw [List.length_map, List.length_map, List.length_drop, List.length_take]; omega), fun a5 f5 => ?_⟩
      rw [← List.map_append]
      have s9 := same_upd (o := .lst ((nn.drop tn ++ nn.take tn).map V.int)) f5
      generalize hrot : nn.drop tn ++ nn.take tn = rot at s9 ⊢
      have mem : ∀ x, x ∈ rot ↔ x ∈ nn := fun x => by
        rw [← hrot, List.mem_append, Or.comm, ← List.mem_append, List.take_append_drop]
      have lR : rot.length = 2 + vn := by
        rw [← hrot, List.length_append, List.length_drop, List.length_take]
        omega
      have s69 := (s7.trans s8).trans s9
      have hP9 := hP6.same s69
      have h5a : ∀ G : Hp, upd G a5 (.lst (rot.map V.int)) a5 = some (.lst (rot.map V.int)) := fun G => upd_same
      obtain ⟨ns6, p6, am6, sz6, hp6, hc6, hl6⟩ := id hP6
      have np5 : p ≠ a5 := fun z => by
        have y := ne_of_none ((s7.trans s8) _ _ hp6) f5
        exact y z
      have bH9 := bH6.same s69
      -- tuple([(tag, number) for tag, number in zip(..)])
      refine ⟨_, rfl, _, rfl, p, c, 2 + vn, rfl, hP9, by omega, fun l ws H10 b10 hP10 nl hl lw nm nw => ?_⟩
      have h5b := b10.1 _ _ (h5a _) (Ne.symm np5)
      have bH10 := bH9.trans b10
      have nlr : ws.length = rot.length := by omega
      refine ⟨_, rfl, l, a5, _, _, rfl, .inl (.inl hl), .inl (.inl h5b), fun Y nY => ?_⟩
      have nYH : H Y = none := bH10.free nY
      refine lc_it (walk_zip (n := 2 + vn) (xs := ws.map V.str) (ys := rot.map V.int) (by rw [List.length_map, List.length_map]; omega)) (fun i H11 => Same H10 H11 ∧ ∃ rs : List Addr, H11 Y = some (.lst (rs.map V.ref)) ∧ Prs H11 rs ((ws.zip rot).take i)) ⟨same_upd nY, [], upd_same, .nil⟩ (fun i H11 _ h => ⟨.inl (.inl (h.1 _ _ hl)), .inl (.inl (h.1 _ _ h5b))⟩) ?_ ?_
      · rintro i x H11 H12 hi ⟨s11, rs, hY, pr⟩ ⟨T4, x4, y4, rfl, nT, rfl, ex, ey⟩
        have ex : (ws.map V.str)[i]? = some x4 := ex
        have ey : (rot.map V.int)[i]? = some y4 := ey
        rw [List.getElem?_map, List.getElem?_eq_getElem (show i < ws.length by omega)] at ex
        obtain rfl : V.str ws[i] = x4 := Option.some.inj ex
        obtain ⟨n, rfl, hn⟩ := int_item ey
        have hz : (ws.zip rot)[i]? = some (ws[i], n) := by
          rw [List.getElem?_zip_eq_some]
          exact ⟨List.getElem?_eq_getElem (show i < ws.length by omega), hn⟩
        refine ⟨T4, _, rfl, .inl (.inl upd_same), rfl, _, _, rfl, _, _, rfl, rfl, rfl, ?_⟩
        unfold tYes
        dsimp only
        rw [if_pos rfl]
        have sT := same_upd (o := .tup [.str ws[i], .int n]) nT
        refine ⟨_, rfl, _, rfl, by show 2 ≤ sizeLine; decide, fun r nr => ?_⟩
        have sr := same_upd (o := .tup [.str ws[i], .int n]) nr
        have prl := pr.length
        have nYr : r ≠ Y := fun z => by
          have y := ne_of_none (sT _ _ hY) nr
          exact y z.symm
        refine ⟨_, sr _ _ (sT _ _ hY), ?_, same_at ((s11.trans sT).trans sr) nY, rs ++ [r], ?_, ?_⟩
        · rw [List.length_map, prl, List.length_take]
          exact small1000 (by omega)
        · rw [upd_same, List.map_append]
          rfl
        · rw [List.take_succ, hz]
          refine Prs.snoc ?_ ?_
          · exact ((pr.same sT).same sr).grow (sr _ _ (sT _ _ hY))
          · exact .inl (by rw [upd_ne nYr, upd_same])
      · rintro H11 ⟨s11, rs, hY, pr⟩
        have lz : (ws.zip rot).length = 2 + vn := by rw [List.length_zip]; omega
        rw [← lz, List.take_length] at pr
        refine ⟨Y, _, rfl, .inl (.inl hY), fun a ob na nob => ?_⟩
        have sa := same_upd (o := .frz ob (.tup (rs.map V.ref))) na
        have e1 : (ws.zip rot).map (·.1) = ws := List.map_fst_zip (by omega)
        have e2 : (ws.zip rot).map (·.2) = rot := List.map_snd_zip (by omega)
        refine q a (ws.zip rot) _ ((bH10.same s11).same sa) ((hP10.same s11).same sa) ((bH10.same s11).free na) ⟨rs, ob, upd_same, nob, pr.same sa⟩ ⟨by omega, ?_, ?_⟩
        · unfold okK
          rw [e1, e2, decide_eq_true nw, decide_eq_true ((mem 0).mpr zN), Bool.true_and, Bool.true_and, List.any_eq_true]
          obtain ⟨x, hx, h2⟩ := tN
          exact ⟨x, (mem x).mpr hx, decide_eq_true h2⟩
        · rintro ⟨y, n⟩ hq
          obtain ⟨m1, m2⟩ := List.of_mem_zip hq
          exact ⟨nm y m1, aN n ((mem n).mp m2)⟩
end
end My

namespace My
open PySem PySem.Spec PyProof.Rows L2
/-! ### the parts of a tag -/
def kvK (ks : List (Str × Int)) : List (Key × V) := ks.map fun p => (Sum.inr p.1, V.int p.2)
theorem merge_no {j : Key} : ∀ (kvs acc : List (Key × V)), (∀ p ∈ kvs, p.1 ≠ j) → valV (mergeK acc kvs) j = valV acc j
  | [], _, _ => rfl
  | (k, v) :: r, acc, h => by
    show valV (mergeK (putK acc k v) r) j = _
    rw [merge_no r _ fun p hp => h p (List.mem_cons_of_mem _ hp), valV_put, if_neg fun z => h (k, v) List.mem_cons_self z.symm]
theorem merge_yes {j : Key} {x : V} : ∀ (kvs acc : List (Key × V)), (kvs.map (·.1)).Nodup → (j, x) ∈ kvs → valV (mergeK acc kvs) j = some x
  | [], _, _, h => nomatch h
  | (k, v) :: r, acc, nd, h => by
    show valV (mergeK (putK acc k v) r) j = _
    rw [List.map_cons, List.nodup_cons] at nd
    rcases List.mem_cons.mp h with e | h
    · cases e
      rw [merge_no r _ fun p hp z => nd.1 (List.mem_map.mpr ⟨p, hp, z⟩), valV_put, if_pos rfl]
    · exact merge_yes r _ nd.2 h
/-- what parts_of tells -/
def partsV (ks : List (Str × Int)) (t : Str) : V := (valV (mergeK [] (kvK ks)) (Sum.inr t)).getD .non
theorem parts_yes {ks : List (Str × Int)} {t : Str} {n : Int} (nd : (ks.map (·.1)).Nodup) (h : (t, n) ∈ ks) : partsV ks t = .int n := by
  unfold partsV
  have m : ((Sum.inr t : Key), V.int n) ∈ kvK ks := List.mem_map.mpr ⟨(t, n), h, rfl⟩
  have nd2 : ((kvK ks).map (·.1)).Nodup := by
    unfold kvK
    rw [List.map_map]
    have e : ((fun q : Key × V => q.1) ∘ fun p : Str × Int => ((Sum.inr p.1 : Key), V.int p.2)) = (fun s : Str => (Sum.inr s : Key)) ∘ fun p : Str × Int => p.1 := rfl
    rw [e, ← List.map_map]
    exact List.Pairwise.map _ (fun a b n z => n (Sum.inr.inj z)) nd
  rw [merge_yes _ _ nd2 m]
  rfl
theorem parts_no {ks : List (Str × Int)} {t : Str} (h : t ∉ ks.map (·.1)) : partsV ks t = .non := by
  unfold partsV
  rw [merge_no]
  · rfl
  · intro p hp z
    obtain ⟨q, hq, rfl⟩ := List.mem_map.mp hp
    exact h (List.mem_map.mpr ⟨q, hq, Sum.inr.inj z⟩)
theorem prs_pairs {K : PySem.W.Frag} {H : Hp} {rs : List Addr} {ks : List (Str × Int)} (h : Prs H rs ks) : Paired (fun p (kv : Key × V) => SqT K H p [kV kv.1, kv.2]) rs (kvK ks) := by
  induction h with
  | nil => exact .nil
  | cons e _ ih => exact .cons (.inl e) ih
structure spParts (vs : List V) (H : Hp) (Q : VK) (E : XK) : Prop where
  ex : ∃ (a : Addr) (ks : List (Str × Int)) (t : Str), vs = [.ref a, .str t] ∧ KindF H a ks ∧ ks.length ≤ 30 ∧ ∀ H', Same H H' → Q (partsV ks t) H'
structure TxtG (mg : Str → Option Value) : Prop where
  n_dict : mg "dict" = none
abbrev s_parts_of : Stmt := topS 13
theorem sc_parts_of : FnScope ["kind", "tag"] ["kind", "tag"] (defScope s_parts_of) := ⟨rfl, rfl, rfl, by decide +kernel, rfl, by decide +kernel, by decide +kernel⟩
section
variable {P : Program} {w : World} {K : PySem.W.Frag} {mg : Str → Option Value} {base : Heap}
theorem ok_parts_of {f : Addr} {fd : FuncData} {k : Nat} (F : Fun K "parts_of" "parts_of" s_parts_of f fd) (T : TxtG mg) : FnOk P w K mg base CX0 (k + 1) f fd ["kind", "tag"] spParts := by
  refine F.ok sc_parts_of (fun vs H Q E h => ?_) (fun cdv A outer s H vs Q E hr h => ?_)
  · obtain ⟨a, ks, t, rfl, _⟩ := h
    rfl
  · obtain ⟨a, ks, t, rfl, ⟨rs, o, ea, od, pr⟩, few, q⟩ := h
    refine ⟨_, (pss_one (ps_ret (pe_dget1 (hu_of hr) (pe_callTy (call_dictT (by rfl)) (by rfl) T.n_dict (by decide +kernel) (pa_cons (pv 0) pa_nil)) (pv 1) ⟨by rfl, by rfl, by rfl, by rfl⟩))), ?_⟩
    refine ⟨_, rfl, a, rs, kvK ks, o, rfl, ea, od, ?_, fun d nd => ?_⟩
    · exact prs_pairs pr
    · have sd := same_upd (o := .dK (mergeK [] (kvK ks))) nd
      refine ⟨d, rfl, .inl ⟨_, .inl upd_same⟩, _, rfl, _, .inl ⟨_, Sum.inr t, .inl upd_same, rfl, rfl⟩, q _ sd⟩
end
end My

namespace My
open PySem PySem.Spec PyProof.Rows L2
theorem call_len_seqK {X : Cx} {K : PySem.W.Frag} (hK : X.K = K) : CallR X (.builtin "len") (fun xs H Q => ∃ p ys, xs = [V.ref p] ∧ (SqL K H p ys ∨ SqT K H p ys) ∧ Q (.int ys.length) H) := by
  subst hK
  exact call_len_seq
theorem pi_listK {X : Cx} {K : PySem.W.Frag} (hK : X.K = K) {tg e : Expr} {te : TE} (h : PE X e te) : PI X tg e (iList K te) := by
  subst hK
  exact pi_list h
theorem zero_eq (n : Int) (j : Nat) : V.bl (decide (V.int n = V.int ((0 : Int) + (j : Nat)))) = V.bl (decide (n = (j : Int))) := by
  rw [Int.zero_add]
  congr 1
  refine decide_eq_decide.mpr ⟨fun h => ?_, fun h => by rw [h]⟩
  cases h
  rfl
theorem lay_tup (ns : List Int) : (PyData.tuple (ns.map PyData.int)).canLay0 = true := by
  simp only [PyData.canLay0]
  exact lay_ints ns
theorem sh_tup (ns : List Int) : SeqAt.shaped (.tuple (ns.map PyData.int)) = true := by
  have h := dep_ints ns
  exact sh_of (lay_tup ns) (by simp only [PyData.depth]; omega)
theorem dp_tags {K : PySem.W.Frag} {H : Hp} : ∀ ks : List (Str × Int), DpAll K H (ks.map fun p => V.str p.1) (ks.map fun p => PyData.str p.1)
  | [] => .nil
  | _ :: r => .cons (.str _) (dp_tags r)
theorem nm_signs {z : Str} (h : isNm z = true) : ∀ c ∈ z.cps.toList, isSign c = true := by
  unfold isNm at h
  intro c hc
  split at h
  · cases h
  · rename_i e
    rw [e] at hc
    rw [Bool.and_eq_true, Bool.and_eq_true] at h
    exact List.all_eq_true.mp h.2.2 c hc
theorem nm_len {z : Str} (h : isNm z = true) : z.length ≤ 8 := by
  unfold isNm at h
  split at h
  · cases h
  · rename_i e
    rw [Bool.and_eq_true, decide_eq_true_eq] at h
    rw [str_len, e, List.length_cons]
    omega
theorem sign_ok {c : Nat} (h : isSign c = true) : c < 1114112 := by
  have all : ∀ c ∈ (c_LETTERS ++ c_DIGITS).cps.toList, c < 1114112 := by decide +kernel
  exact all c (of_decide_eq_true h)
theorem lay_tags : ∀ {ks : List (Str × Int)}, (∀ p ∈ ks, isNm p.1 = true) → (PyData.list (ks.map fun p => PyData.str p.1)).canLay0 = true := by
  intro ks h
  simp only [PyData.canLay0]
  induction ks with
  | nil => simp [PyData.canLayAll0]
  | cons p r ih =>
    have h1 := nm_signs (h p List.mem_cons_self)
    have h2 := ih fun q hq => h q (List.mem_cons_of_mem _ hq)
    have h3 : ∀ c ∈ p.1.cps.toList, c < 1114112 := fun c hc => sign_ok (h1 c hc)
    simp only [List.map_cons, PyData.canLayAll0, PyData.canLay0, PyData.strOk, h2, Bool.and_true]
    simp only [Array.all_eq_true, decide_eq_true_eq]
    intro i hi
    exact h3 _ (by simp)
theorem dep_tags : ∀ ks : List (Str × Int), PyData.depthAll (ks.map fun p => PyData.str p.1) ≤ 1
  | [] => by simp [PyData.depthAll]
  | p :: r => by
    have h := dep_tags r
    simp only [List.map_cons, PyData.depthAll, PyData.depth]
    omega
theorem sh_tags {ks : List (Str × Int)} (h : ∀ p ∈ ks, isNm p.1 = true) : SeqAt.shaped (.list (ks.map fun p => PyData.str p.1)) = true := by
  have d := dep_tags ks
  exact sh_of (lay_tags h) (by simp only [PyData.depth]; omega)
theorem ne_self (x : V) : V.bl (!decide (x = x)) = V.bl false := by simp
theorem no_mark (z : Str) : isNm (z ++ "?") = false := by
  have e : (z ++ ("?" : Str)).cps.toList = z.cps.toList ++ [63] := by
    show (z.cps ++ ("?" : Str).cps).toList = _
    rw [Array.toList_append]
    rfl
  cases h : isNm (z ++ "?") with
  | false => rfl
  | true =>
    have y := nm_signs h 63 (by rw [e]; exact List.mem_append_right _ List.mem_cons_self)
    exact absurd y (by decide +kernel)
/-! ### what the program tells of a right kind -/
structure TxtR (mg : Str → Option Value) : Prop where
  n_isinstance : mg "isinstance" = none
  n_tuple : mg "tuple" = none
  n_len : mg "len" = none
  n_max : mg "max" = none
  n_range : mg "range" = none
  n_list : mg "list" = none
structure spTold (vs : List V) (H : Hp) (Q : VK) (E : XK) : Prop where
  ex : ∃ (a : Addr) (ks : List (Str × Int)), vs = [.ref a] ∧ KindF H a ks ∧ Right ks ∧ ∀ H', Same H H' → Q (.bl true) H'
abbrev s_law_told_right : Stmt := topS 27
theorem sc_law_told_right : FnScope ["kind", "tag", "number", "numbers", "shares", "tags", "size", "one"] ["kind"] (defScope s_law_told_right) := ⟨rfl, rfl, rfl, by decide +kernel, rfl, by decide +kernel, by decide +kernel⟩
section
variable {P : Program} {w : World} {K : PySem.W.Frag} {mg : Str → Option Value} {base : Heap}
theorem ok_told {f f1 f2 f3 f4 : Addr} {fd fd1 fd2 fd3 fd4 : FuncData} {k : Nat} (F : Fun K "_law_told_right" "_law_told_right" s_law_told_right f fd) (T : TxtR mg) (F_polynomial : Fun K "polynomial" "polynomial" s_polynomial f1 fd1) (b_polynomial : Binds K fd1 ["kind"] []) (g_polynomial : mg "polynomial" = some (.ref f1)) (G_polynomial : FnOk P w K mg base CX0 1 f1 fd1 ["kind"] spPoly)
    (F_difference : Fun K "difference" "difference" s_difference f2 fd2) (b_difference : Binds K fd2 ["kind"] []) (g_difference : mg "difference" = some (.ref f2)) (G_difference : FnOk P w K mg base CX0 2 f2 fd2 ["kind"] spDiff) (F_tags_of : Fun K "tags_of" "tags_of" s_tags_of f3 fd3) (b_tags_of : Binds K fd3 ["kind"] []) (g_tags_of : mg "tags_of" = some (.ref f3)) (G_tags_of : FnOk P w K mg base CX0 1 f3 fd3 ["kind"] spTags)
    (F_parts_of : Fun K "parts_of" "parts_of" s_parts_of f4 fd4) (b_parts_of : Binds K fd4 ["kind", "tag"] []) (g_parts_of : mg "parts_of" = some (.ref f4)) (G_parts_of : FnOk P w K mg base CX0 1 f4 fd4 ["kind", "tag"] spParts) : FnOk P w K mg base CX0 (k + 3) f fd ["kind"] spTold := by
  refine F.ok sc_law_told_right (fun vs H Q E h => ?_) (fun cdv A outer s H vs Q E hr h => ?_)
  · obtain ⟨a, ks, rfl, _⟩ := h
    rfl
  · obtain ⟨a, ks, rfl, hkF, hR, q⟩ := h
    refine ⟨_, (pss_cons (ps_set (i := 3) sc_law_told_right.nd rfl (.inr rfl) (pe_lc (own := [("tag", 1), ("number", 2)]) (g := gTup K 2 (gCons (gName 1) (gCons (gName 2) gNil))) rfl sc_law_told_right.nd (pi_tup (pv 0)) (blkOk_by (own := [("tag", 1), ("number", 2)]) (N := ["kind", "tag", "number", "numbers", "shares", "tags", "size", "one"]) (sc := defScope s_law_told_right) (by decide +kernel)) (fun _ _ _ _ _ => (pg_tup rfl (pgs_cons (pg_name (i := 1) sc_law_told_right.nd rfl (.inl rfl)) (pgs_cons (pg_name (i := 2) sc_law_told_right.nd rfl (.inl rfl)) pgs_nil)))) (fun _ _ _ _ _ => pts_nil) (fun _ _ _ _ _ => (pv 2))))
  (pss_cons (ps_setLc (i := 4) (own := [("size", 6)]) (g := gName 6) rfl sc_law_told_right.nd rfl rfl (sw_true rfl rfl rfl (by decide +kernel)) (pi_range1 (by rfl) T.n_range (pa_cons (pe_op op_add (pe_callB (cr_max (by rfl)) (by rfl) T.n_max (by decide +kernel) (pa_cons (pv 3) pa_nil)) pe_int) pa_nil)) (blkOk_by (own := [("size", 6)]) (N := ["kind", "tag", "number", "numbers", "shares", "tags", "size", "one"]) (sc := defScope s_law_told_right) (by decide +kernel)) (fun _ _ _ _ _ => (pg_name (i := 6) sc_law_told_right.nd rfl (.inr rfl))) (fun _ _ _ _ _ => pts_nil) (fun _ _ _ _ _ => (pe_callB (call_len_seqK (K := K) rfl) (by rfl) T.n_len (by decide +kernel) (pa_cons (pe_lc (own := [("one", 7)]) (g := gName 7) rfl sc_law_told_right.nd (pi_listK (K := K) rfl (pv 3)) (blkOk_by (own := [("one", 7)]) (N := ["kind", "tag", "number", "numbers", "shares", "tags", "size", "one"]) (sc := { kind := .function, names := [(".0", .local), ("size", .cell), ("len", .globalImplicit), ("numbers", .cell)], isGenerator := false, isCoroutine := false }) (by decide +kernel)) (fun _ _ _ _ _ => (pg_name (i := 7) sc_law_told_right.nd rfl (.inl rfl))) (fun _ _ _ _ _ => (pts_one (pt_cmpR op_eq (pv 7) (pv 6) (nomark _)))) (fun _ _ _ _ _ => (pv 7))) pa_nil))))
  (pss_cons (ps_if (PW.pt (pw_or (pt_not (pt_val (pe_callB call_isi (by rfl) T.n_isinstance (by decide +kernel) (pa_cons (pe_call G_polynomial (hr.mono (by omega)) (by rfl) g_polynomial F_polynomial.kp b_polynomial .nil pass0 (pa_cons (pv 0) pa_nil)) (pa_cons (pe_bltn (v := .ty "tuple") (by rfl) T.n_tuple (by decide +kernel) rfl) pa_nil))))) (pw_or1 (pt_cmpR (op_neD hr.units) (pe_call G_polynomial (hr.mono (by omega)) (by rfl) g_polynomial F_polynomial.kp b_polynomial .nil pass0 (pa_cons (pv 0) pa_nil)) (pe_callTy call_tuple_of (by rfl) T.n_tuple (by decide +kernel) (pa_cons (pv 4) pa_nil)) (nomark _)))))
   (pss_one (ps_ret pe_bl))
   pss_nil)
  (pss_cons (ps_asg (pe_op op_sub (pe_ix ix_list (pv 4) pe_int (fun _ _ => rfl)) pe_int) (pg_sub (pv 4) pe_int set_list))
  (pss_cons (ps_if (PW.pt (pw_or (pt_not (pt_val (pe_callB call_isi (by rfl) T.n_isinstance (by decide +kernel) (pa_cons (pe_call G_difference (hr.mono (by omega)) (by rfl) g_difference F_difference.kp b_difference .nil pass0 (pa_cons (pv 0) pa_nil)) (pa_cons (pe_bltn (v := .ty "tuple") (by rfl) T.n_tuple (by decide +kernel) rfl) pa_nil))))) (pw_or1 (pt_cmpR (op_neD hr.units) (pe_call G_difference (hr.mono (by omega)) (by rfl) g_difference F_difference.kp b_difference .nil pass0 (pa_cons (pv 0) pa_nil)) (pe_callTy call_tuple_of (by rfl) T.n_tuple (by decide +kernel) (pa_cons (pv 4) pa_nil)) (nomark _)))))
   (pss_one (ps_ret pe_bl))
   pss_nil)
  (pss_cons (ps_set (i := 5) sc_law_told_right.nd rfl (.inl rfl) (pe_call G_tags_of (hr.mono (by omega)) (by rfl) g_tags_of F_tags_of.kp b_tags_of .nil pass0 (pa_cons (pv 0) pa_nil)))
  (pss_cons (ps_if (PW.pt (pw_or (pt_cmpR (op_neD hr.units) (pv 5) (pe_lc (own := [("tag", 1), ("number", 2)]) (g := gTup K 2 (gCons (gName 1) (gCons (gName 2) gNil))) rfl sc_law_told_right.nd (pi_tup (pv 0)) (blkOk_by (own := [("tag", 1), ("number", 2)]) (N := ["kind", "tag", "number", "numbers", "shares", "tags", "size", "one"]) (sc := defScope s_law_told_right) (by decide +kernel)) (fun _ _ _ _ _ => (pg_tup rfl (pgs_cons (pg_name (i := 1) sc_law_told_right.nd rfl (.inl rfl)) (pgs_cons (pg_name (i := 2) sc_law_told_right.nd rfl (.inl rfl)) pgs_nil)))) (fun _ _ _ _ _ => pts_nil) (fun _ _ _ _ _ => (pv 1))) (nomark _)) (pw_or1 (pt_not (pt_val (pe_callB call_isi (by rfl) T.n_isinstance (by decide +kernel) (pa_cons (pv 5) (pa_cons (pe_bltn (v := .ty "list") (by rfl) T.n_list (by decide +kernel) rfl) pa_nil))))))))
   (pss_one (ps_ret pe_bl))
   pss_nil)
  (pss_cons (ps_expr (pe_bm0 PySem.F.plainAttrs_list PySem.F.slot_list_clear PySem.F.type_list_clear mt_clear (pv 5)))
  (pss_cons (ps_for PassesOwn.never rfl (pi_tup (pv 0)) (pg_tup rfl (pgs_cons (pg_name (i := 1) sc_law_told_right.nd rfl (.inl rfl)) (pgs_cons (pg_name (i := 2) sc_law_told_right.nd rfl (.inl rfl)) pgs_nil)))
   (pss_one (ps_if (PW.pt (pw_or (pt_cmpR op_ne (pe_call G_parts_of (hr.mono (by omega)) (by rfl) g_parts_of F_parts_of.kp b_parts_of .nil pass0 (pa_cons (pv 0) (pa_cons (pv 1) pa_nil))) (pv 2) (nomark _)) (pw_or1 (pt_cmpR op_notN (pe_call G_parts_of (hr.mono (by omega)) (by rfl) g_parts_of F_parts_of.kp b_parts_of .nil pass0 (pa_cons (pv 0) (pa_cons (pe_op op_add_str (pv 1) pe_str) pa_nil))) pe_non (nomark _)))))
   (pss_one (ps_ret pe_bl))
   pss_nil)))
  (pss_one (ps_ret (pe_and (pe_cmpR (op_eqD hr.units) (pe_call G_tags_of (hr.mono (by omega)) (by rfl) g_tags_of F_tags_of.kp b_tags_of .nil pass0 (pa_cons (pv 0) pa_nil)) (pe_lc (own := [("tag", 1), ("number", 2)]) (g := gTup K 2 (gCons (gName 1) (gCons (gName 2) gNil))) rfl sc_law_told_right.nd (pi_tup (pv 0)) (blkOk_by (own := [("tag", 1), ("number", 2)]) (N := ["kind", "tag", "number", "numbers", "shares", "tags", "size", "one"]) (sc := defScope s_law_told_right) (by decide +kernel)) (fun _ _ _ _ _ => (pg_tup rfl (pgs_cons (pg_name (i := 1) sc_law_told_right.nd rfl (.inl rfl)) (pgs_cons (pg_name (i := 2) sc_law_told_right.nd rfl (.inl rfl)) pgs_nil)))) (fun _ _ _ _ _ => pts_nil) (fun _ _ _ _ _ => (pv 1))) (nomark _)) (pe_one (pe_cmpR op_isN (pe_call G_parts_of (hr.mono (by omega)) (by rfl) g_parts_of F_parts_of.kp b_parts_of .nil pass0 (pa_cons (pv 0) (pa_cons pe_str pa_nil))) pe_non (nomark _))))))))))))))), ?_⟩
    obtain ⟨⟨r2, r8⟩, rok, rall⟩ := id hR
    have rok2 := rok
    unfold okK at rok2
    rw [Bool.and_eq_true, Bool.and_eq_true, decide_eq_true_eq, decide_eq_true_eq, List.any_eq_true] at rok2
    obtain ⟨rnd, r0, rbig⟩ := rok2
    have hk := hkF.at
    obtain ⟨rs, ea, pr⟩ := id hk
    have lr := pr.length
    have ln : (ks.map (·.2)).length = ks.length := List.length_map ..
    -- numbers
    refine ⟨_, rfl, a, rfl, ⟨_, .inl ea⟩, fun N nN => ?_⟩
    refine lc_it (walk_tup (xs := rs.map V.ref)) (fun i H2 => Same H H2 ∧ H2 N = some (.lst ((ks.take i).map fun p => V.int p.2))) ⟨same_upd nN, upd_same⟩ (fun i H2 _ h => .inl (ea.same h.1)) ?_ ?_
    · rintro i x H2 H3 hi ⟨s2, hN⟩ ⟨rfl, ex⟩
      obtain ⟨r, pp, rfl, hk1, hr2⟩ := pr.item ex
      refine ⟨r, _, rfl, .inl (hr2.same s2), rfl, _, _, rfl, _, _, rfl, rfl, rfl, ?_⟩
      unfold tYes
      dsimp only
      rw [if_pos rfl]
      refine ⟨_, rfl, _, hN, ?_, ?_, ?_⟩
      · rw [List.length_map, List.length_take]
        exact small1000 (by omega)
      · exact same_at s2 nN
      · rw [upd_same, take_next hk1]
    · rintro H2 ⟨s2, hN⟩
      rw [List.length_map, lr, List.take_length] at hN
      have hN2 : H2 N = some (.lst ((ks.map (·.2)).map V.int)) := by
        rw [hN, List.map_map]
        rfl
      -- shares
      refine ⟨_, rfl, N, ks.map (·.2), rfl, .inl (.inl hN2), by omega, fun mx hmx hall => ⟨_, _, rfl, rfl, mx + 1, rfl, ?_⟩⟩
      obtain ⟨q0, hq0, eq0⟩ := List.mem_map.mp hmx
      have mx0 : 0 ≤ mx ∧ mx ≤ 4 := by rw [← eq0]; exact (rall q0 hq0).2
      obtain ⟨m, rfl⟩ : ∃ m : Nat, mx = (m : Int) := ⟨mx.toNat, by omega⟩
      have most : Most (ks.map (·.2)) m := ⟨hmx, fun n hn => by
        obtain ⟨q1, hq1, eq1⟩ := List.mem_map.mp hn
        exact ⟨by rw [← eq1]; exact (rall q1 hq1).2.1, hall n hn⟩⟩
      have m2 : 2 ≤ m := by
        obtain ⟨x, hx, h2⟩ := rbig
        have z := hall x hx
        have y := of_decide_eq_true h2
        omega
      refine ⟨by omega, by omega, fun S nS => ?_⟩
      refine lc_range (n := m + 1) (fun j H4 => Same H2 H4 ∧ H4 S = some (.lst ((cnt (ks.map (·.2)) j).map V.int))) ⟨same_upd nS, upd_same⟩ ?_ ?_
      · rintro j H4 hj ⟨s4, hS⟩
        refine ⟨rfl, ?_⟩
        unfold tYes
        dsimp only
        rw [if_pos rfl]
        have hN4 := s4 _ _ hN2
        refine ⟨_, rfl, N, rfl, ⟨_, .inl (.inl hN4)⟩, fun Y nY => ?_⟩
        refine lc_it (walk_list (xs := (ks.map (·.2)).map V.int)) (fun i H5 => Same H4 H5 ∧ ∃ zs : List V, H5 Y = some (.lst zs) ∧ zs.length = ((ks.map (·.2)).take i).count (j : Int)) ⟨same_upd nY, [], upd_same, rfl⟩ (fun i H5 _ h => .inl (.inl (h.1 _ _ hN4))) ?_ ?_
        · rintro i x H5 H6 hi ⟨s5, zs, hY, lz⟩ ⟨rfl, ex⟩
          obtain ⟨n, rfl, hk1⟩ := int_item ex
          have hc : ((ks.map (·.2)).take (i + 1)).count (j : Int) = ((ks.map (·.2)).take i).count (j : Int) + (if n = (j : Int) then 1 else 0) := by
            rw [List.take_succ, hk1, List.count_append]
            simp [List.count_singleton]
          have zl : zs.length ≤ i := by
            rw [lz]
            exact Nat.le_trans List.count_le_length (by rw [List.length_take]; exact Nat.min_le_left ..)
          have hi2 : i < 8 := by
            rw [List.length_map, ln] at hi
            omega
          refine ⟨rfl, _, rfl, _, rfl, rfl, decide (n = (j : Int)), zero_eq n j, ?_⟩
          by_cases hn : n = (j : Int)
          · rw [decide_eq_true hn]
            refine iteT ?_
            refine ⟨_, rfl, zs, hY, small1000 (by omega), same_at s5 nY, _, upd_same, ?_⟩
            rw [List.length_append, hc, if_pos hn, lz]
            rfl
          · rw [decide_eq_false hn]
            refine iteF ?_
            refine ⟨s5, zs, hY, ?_⟩
            rw [hc, if_neg hn, lz]
            rfl
        · rintro H5 ⟨s5, zs, hY, lz⟩
          rw [List.length_map, List.take_length] at lz
          refine ⟨Y, zs, rfl, .inl (.inl (.inl hY)), _, s5 _ _ hS, ?_, same_at (s4.trans s5) nS, ?_⟩
          · rw [List.length_map, cnt_len]
            exact small1000 (by omega)
          · rw [upd_same, cnt_next, List.map_append, lz]
            rfl
      · rintro H4 ⟨s4, hS⟩
        have sA := s2.trans s4
        have lC : ((cnt (ks.map (·.2)) (m + 1)).map V.int).length = m + 1 := by rw [List.length_map, cnt_len]
        -- polynomial
        refine ⟨_, rfl, ⟨a, ks, m, rfl, hk.same sA, by omega, most, by omega, fun l H5 s5 nl hl => ?_⟩⟩
        refine ⟨_, _, _, _, true, rfl, .ty "tuple", .base (.tup hl), kit_ty (show kitB "tuple" "tuple" = some true by decide +kernel), true, rfl, iteF ?_⟩
        refine ⟨_, rfl, ⟨a, ks, m, rfl, hk.same (sA.trans s5), by omega, most, by omega, fun l2 H6 s6 nl2 hl2 => ?_⟩⟩
        have hS6 := (s5.trans s6) _ _ hS
        refine ⟨_, rfl, S, _, rfl, .inl ⟨.inl (.inl hS6), fun l3 nl3 => ?_⟩⟩
        have s7 := same_upd (o := .tup ((cnt (ks.map (·.2)) (m + 1)).map V.int)) nl3
        refine ⟨_, _, .tup (.inl (.inl (s7 _ _ hl2))) (dp_ints _), .tup (.inl (.inl upd_same)) (dp_ints _), sh_tup _, sh_tup _, false, ?_, iteF ?_⟩
        · rw [SeqAt.eqv_refl _ (lay_tup _)]
          rfl
        have s57 := (s5.trans s6).trans s7
        have hS7 := s57 _ _ hS
        generalize upd H6 l3 (.tup ((cnt (ks.map (·.2)) (m + 1)).map V.int)) = H7 at s57 hS7 ⊢
        clear s7
        -- shares[1] = shares[1] - 1
        have c1 : ((cnt (ks.map (·.2)) (m + 1)).map V.int)[1]? = some (V.int (((ks.map (·.2)).count 1 : Nat) : Int)) := by
          unfold cnt
          rw [List.map_map, List.getElem?_map, List.getElem?_range (by omega)]
          rfl
        refine ⟨_, rfl, S, _, _, _, rfl, rfl, .inl (.inl hS7), atI_nat (j := 1) c1, _, _, rfl, rfl, _, rfl, S, _, _, 1, rfl, rfl, hS7, ?_, ?_⟩
        · unfold ixN
          rw [lC, if_pos (by decide), if_pos (by omega)]
          rfl
        rw [← List.map_set]
        have nSH : H S = none := s2.free nS
        have sB : Same H H7 := sA.trans s57
        have hS8 : upd H7 S (.lst (((cnt (ks.map (·.2)) (m + 1)).set 1 (((ks.map (·.2)).count 1 : Nat) - 1)).map V.int)) S = some (.lst (((cnt (ks.map (·.2)) (m + 1)).set 1 (((ks.map (·.2)).count 1 : Nat) - 1)).map V.int)) := upd_same
        have sC : Same H (upd H7 S (.lst (((cnt (ks.map (·.2)) (m + 1)).set 1 (((ks.map (·.2)).count 1 : Nat) - 1)).map V.int))) := same_at sB nSH
        generalize upd H7 S (.lst (((cnt (ks.map (·.2)) (m + 1)).set 1 (((ks.map (·.2)).count 1 : Nat) - 1)).map V.int)) = H8 at hS8 sC ⊢
        -- difference
        refine ⟨_, rfl, ⟨a, ks, m, rfl, hk.same sC, by omega, most, m2, by omega, fun d1 H9 s9 nd1 hd1 => ?_⟩⟩
        refine ⟨_, _, _, _, true, rfl, .ty "tuple", .base (.tup hd1), kit_ty (show kitB "tuple" "tuple" = some true by decide +kernel), true, rfl, iteF ?_⟩
        refine ⟨_, rfl, ⟨a, ks, m, rfl, hk.same (sC.trans s9), by omega, most, m2, by omega, fun d2 H10 s10 nd2 hd2 => ?_⟩⟩
        refine ⟨_, rfl, S, _, rfl, .inl ⟨.inl (.inl ((s9.trans s10) _ _ hS8)), fun d3 nd3 => ?_⟩⟩
        have s11 := same_upd (o := .tup (((cnt (ks.map (·.2)) (m + 1)).set 1 (((ks.map (·.2)).count 1 : Nat) - 1)).map V.int)) nd3
        refine ⟨_, _, .tup (.inl (.inl (s11 _ _ hd2))) (dp_ints _), .tup (.inl (.inl upd_same)) (dp_ints _), sh_tup _, sh_tup _, false, ?_, iteF ?_⟩
        · rw [SeqAt.eqv_refl _ (lay_tup _)]
          rfl
        have sD : Same H (upd H10 d3 (.tup (((cnt (ks.map (·.2)) (m + 1)).set 1 (((ks.map (·.2)).count 1 : Nat) - 1)).map V.int))) := ((sC.trans s9).trans s10).trans s11
        generalize upd H10 d3 (.tup (((cnt (ks.map (·.2)) (m + 1)).set 1 (((ks.map (·.2)).count 1 : Nat) - 1)).map V.int)) = H11 at sD ⊢
        clear s11
        -- tags
        refine ⟨_, rfl, ⟨a, ks, rfl, hk.same sD, by omega, fun g1 H12 s12 ng1 hg1 => ?_⟩⟩
        have ea12 := ea.same (sD.trans s12)
        have pr12 := pr.same (sD.trans s12)
        -- tags != [tag for tag, number in kind]
        refine ⟨_, rfl, _, rfl, a, rfl, ⟨_, .inl ea12⟩, fun Y nY => ?_⟩
        refine lc_it (walk_tup (xs := rs.map V.ref)) (fun i H13 => Same H12 H13 ∧ H13 Y = some (.lst ((ks.take i).map fun p => V.str p.1))) ⟨same_upd nY, upd_same⟩ (fun i H13 _ h => .inl (ea12.same h.1)) ?_ ?_
        · rintro i x H13 H14 hi ⟨s13, hY⟩ ⟨rfl, ex⟩
          obtain ⟨r, pp, rfl, hk1, hr2⟩ := pr12.item ex
          refine ⟨r, _, rfl, .inl (hr2.same s13), rfl, _, _, rfl, _, _, rfl, rfl, rfl, ?_⟩
          unfold tYes
          dsimp only
          rw [if_pos rfl]
          refine ⟨_, rfl, _, hY, ?_, ?_, ?_⟩
          · rw [List.length_map, List.length_take]
            exact small1000 (by omega)
          · exact same_at s13 nY
          · rw [upd_same, take_next hk1]
        · rintro H13 ⟨s13, hY⟩
          rw [List.length_map, lr, List.take_length] at hY
          have hg13 := s13 _ _ hg1
          refine ⟨_, _, .lst (.inl (.inl hg13)) (dp_tags ks), .lst (.inl (.inl hY)) (dp_tags ks), sh_tags (fun p hp => (rall p hp).1), sh_tags (fun p hp => (rall p hp).1), false, ?_, iteF ?_⟩
          · rw [SeqAt.eqv_refl _ (lay_tags fun p hp => (rall p hp).1)]
            rfl
          refine ⟨_, rfl, _, _, _, _, true, rfl, .ty "list", .base (.lst hg13), kit_ty (show kitB "list" "list" = some true by decide +kernel), true, rfl, iteF ?_⟩
          -- tags.clear()
          refine ⟨_, rfl, .inl ⟨rfl, _, .inl (.inl hg13)⟩, g1, _, rfl, rfl, hg13, ?_⟩
          have nG : H g1 = none := sD.free ng1
          have sE : Same H (upd H13 g1 (.lst [])) := same_at ((sD.trans s12).trans s13) nG
          generalize upd H13 g1 (.lst []) = H14 at sE ⊢
          -- for tag, number in kind
          refine ⟨_, rfl, a, rfl, ⟨_, .inl (ea.same sE)⟩, ?_⟩
          refine for_it (walk_tup (xs := rs.map V.ref)) (fun i σ H15 => Same H14 H15 ∧ ∃ v1 v2 v6 v7 : Option V, σ = [some (.ref a), v1, v2, some (.ref N), some (.ref S), some (.ref g1), v6, v7]) ⟨same_rfl H14, none, none, none, none, rfl⟩ (fun i σ H15 _ h => .inl ((ea.same sE).same h.1)) ?_ ?_
          · rintro i x σ H15 H16 hi ⟨s15, v1, v2, v6, v7, rfl⟩ ⟨rfl, ex⟩
            obtain ⟨r, pp, rfl, hk1, hr2⟩ := (pr.same (sE.trans s15)).item ex
            have hpp : (pp.1, pp.2) ∈ ks := List.mem_of_getElem? hk1
            have e1 := parts_yes rnd hpp
            refine ⟨r, _, rfl, .inl hr2, rfl, _, _, rfl, _, _, rfl, rfl, ?_⟩
            refine ⟨_, rfl, _, rfl, ⟨a, ks, pp.1, rfl, hkF.same (sE.trans s15), by omega, fun H17 s17 => ?_⟩⟩
            rw [e1]
            refine ⟨_, rfl, rfl, false, ne_self _, iteF ?_⟩
            have e2 : partsV ks (pp.1 ++ "?") = .non := parts_no fun z => by
              obtain ⟨y, hy, ey⟩ := List.mem_map.mp z
              have n1 := (rall y hy).1
              rw [ey, no_mark] at n1
              cases n1
            have zl : pp.1.length ≤ 8 := nm_len (rall pp (List.mem_of_getElem? hk1)).1
            refine ⟨_, rfl, _, rfl, _, _, rfl, rfl, ?_, ⟨a, ks, pp.1 ++ "?", rfl, hkF.same ((sE.trans s15).trans s17), by omega, fun H18 s18 => ?_⟩⟩
            · exact fits_few (by show pp.1.length + 1 ≤ 100; omega)
            rw [e2]
            refine ⟨rfl, false, ne_self _, iteF ?_⟩
            exact ⟨(s15.trans s17).trans s18, _, _, _, _, rfl⟩
          · rintro σ H15 ⟨s15, v1, v2, v6, v7, rfl⟩
            have sF := sE.trans s15
            -- return
            refine ⟨_, rfl, ⟨a, ks, rfl, hk.same sF, by omega, fun g2 H16 s16 ng2 hg2 => ?_⟩⟩
            have ea16 := ea.same (sF.trans s16)
            have pr16 := pr.same (sF.trans s16)
            refine ⟨_, rfl, a, rfl, ⟨_, .inl ea16⟩, fun Z nZ => ?_⟩
            refine lc_it (walk_tup (xs := rs.map V.ref)) (fun i H17 => Same H16 H17 ∧ H17 Z = some (.lst ((ks.take i).map fun p => V.str p.1))) ⟨same_upd nZ, upd_same⟩ (fun i H17 _ h => .inl (ea16.same h.1)) ?_ ?_
            · rintro i x H17 H18 hi ⟨s17, hZ⟩ ⟨rfl, ex⟩
              obtain ⟨r, pp, rfl, hk1, hr2⟩ := pr16.item ex
              refine ⟨r, _, rfl, .inl (hr2.same s17), rfl, _, _, rfl, _, _, rfl, rfl, rfl, ?_⟩
              unfold tYes
              dsimp only
              rw [if_pos rfl]
              refine ⟨_, rfl, _, hZ, ?_, ?_, ?_⟩
              · rw [List.length_map, List.length_take]
                exact small1000 (by omega)
              · exact same_at s17 nZ
              · rw [upd_same, take_next hk1]
            · rintro H17 ⟨s17, hZ⟩
              rw [List.length_map, lr, List.take_length] at hZ
              refine ⟨_, _, .lst (.inl (.inl (s17 _ _ hg2))) (dp_tags ks), .lst (.inl (.inl hZ)) (dp_tags ks), sh_tags (fun p hp => (rall p hp).1), sh_tags (fun p hp => (rall p hp).1), true, ?_, iteT ?_⟩
              · rw [SeqAt.eqv_refl _ (lay_tags fun p hp => (rall p hp).1)]
              have e3 : partsV ks "" = .non := parts_no fun z => by
                obtain ⟨y, hy, ey⟩ := List.mem_map.mp z
                have n1 := (rall y hy).1
                rw [ey] at n1
                exact absurd n1 (by decide +kernel)
              refine ⟨_, rfl, ⟨a, ks, "", rfl, hkF.same ((sF.trans s16).trans s17), by omega, fun H18 s18 => ?_⟩⟩
              rw [e3]
              exact ⟨rfl, q H18 (((sF.trans s16).trans s17).trans s18)⟩
end
end My

namespace My
open PySem PySem.Spec PyProof.Rows L2
/-! ### things stay things where a pot is drawn from -/
/-- p is a list before and behind, all else the same -/
def Drew (p : Addr) (H H' : Hp) : Prop := But p H H' ∧ (∃ xs, H p = some (.lst xs)) ∧ ∃ ys, H' p = some (.lst ys)
theorem drew_of {p c : Addr} {H H' : Hp} (b : But p H H') (h1 : Pot H p c) (h2 : Pot H' p c) : Drew p H H' := by
  obtain ⟨_, _, _, _, e1, _⟩ := h1
  obtain ⟨_, _, _, _, e2, _⟩ := h2
  exact ⟨b, ⟨_, e1⟩, ⟨_, e2⟩⟩
theorem Drew.rd {p : Addr} {H H' : Hp} (d : Drew p H H') {a : Addr} {xs : List V} (h : Rd H a (.tup xs)) : Rd H' a (.tup xs) := by
  obtain ⟨b, ⟨_, e1⟩, _⟩ := d
  rcases h with e | ⟨o, e⟩
  · exact .inl (b.1 a _ e fun z => by rw [z, e1] at e; cases e)
  · exact .inr ⟨o, b.1 a _ e fun z => by rw [z, e1] at e; cases e⟩
mutual
theorem Th.drew {K : PySem.W.Frag} {p : Addr} {H H' : Hp} (d : Drew p H H') : ∀ {x : PyData} {v : V}, Th K H v x → Th K H' v x
  | _, _, .non => .non
  | _, _, .bl b => .bl b
  | _, _, .int i => .int i
  | _, _, .str h hv => .str h hv
  | _, _, @Th.lst _ _ a xs e => by
    by_cases z : a = p
    · obtain ⟨_, _, ys, e2⟩ := d
      exact .lst (xs := ys) (by rw [z]; exact e2)
    · exact .lst (d.1.1 a _ e z)
  | _, _, @Th.dct _ _ a kvs e => by
    refine .dct (kvs := kvs) (d.1.1 a _ e fun z => ?_)
    obtain ⟨_, ⟨_, e1⟩, _⟩ := d
    rw [z, e1] at e
    cases e
  | _, _, .tup e h => .tup (d.rd e) (ThAll.drew d h)
theorem ThAll.drew {K : PySem.W.Frag} {p : Addr} {H H' : Hp} (d : Drew p H H') : ∀ {ds : List PyData} {vs : List V}, ThAll K H vs ds → ThAll K H' vs ds
  | _, _, .nil => .nil
  | _, _, .cons h t => .cons (h.drew d) (t.drew d)
end
/-- some thing; some things -/
def Tg (K : PySem.W.Frag) (H : Hp) (v : V) : Prop := ∃ d, Th K H v d
def TgL (K : PySem.W.Frag) (H : Hp) (vs : List V) : Prop := ∀ v ∈ vs, Tg K H v
theorem TgL.all {K : PySem.W.Frag} {H : Hp} : ∀ {vs : List V}, TgL K H vs → ∃ ds, ThAll K H vs ds
  | [], _ => ⟨[], .nil⟩
  | v :: r, h => by
    obtain ⟨d, hd⟩ := h v List.mem_cons_self
    obtain ⟨ds, hds⟩ := TgL.all (vs := r) fun x hx => h x (List.mem_cons_of_mem _ hx)
    exact ⟨d :: ds, .cons hd hds⟩
theorem Tg.tup {K : PySem.W.Frag} {H : Hp} {a : Addr} {vs : List V} (e : Rd H a (.tup vs)) (h : TgL K H vs) : Tg K H (.ref a) := by
  obtain ⟨ds, hds⟩ := h.all
  exact ⟨_, .tup e hds⟩
theorem Tg.same {K : PySem.W.Frag} {H H' : Hp} {v : V} (h : Tg K H v) (s : Same H H') : Tg K H' v := by
  obtain ⟨d, hd⟩ := h
  exact ⟨d, hd.same s⟩
theorem Tg.drew {K : PySem.W.Frag} {p : Addr} {H H' : Hp} {v : V} (h : Tg K H v) (s : Drew p H H') : Tg K H' v := by
  obtain ⟨d, hd⟩ := h
  exact ⟨d, hd.drew s⟩
theorem TgL.same {K : PySem.W.Frag} {H H' : Hp} {vs : List V} (h : TgL K H vs) (s : Same H H') : TgL K H' vs := fun v hv => (h v hv).same s
theorem TgL.drew {K : PySem.W.Frag} {p : Addr} {H H' : Hp} {vs : List V} (h : TgL K H vs) (s : Drew p H H') : TgL K H' vs := fun v hv => (h v hv).drew s
theorem TgL.app {K : PySem.W.Frag} {H : Hp} {xs ys : List V} (h : TgL K H xs) (g : TgL K H ys) : TgL K H (xs ++ ys) := fun v hv => (List.mem_append.mp hv).elim (h v) (g v)
theorem TgL.cut {K : PySem.W.Frag} {H : Hp} {xs : List V} {lo hi : Option Int} (h : TgL K H xs) : TgL K H (cutV xs lo hi) := fun v hv => h v (List.mem_of_mem_drop (List.mem_of_mem_take hv))
theorem TgL.one {K : PySem.W.Frag} {H : Hp} {v : V} (h : Tg K H v) : TgL K H [v] := fun x hx => by
  rw [List.mem_singleton.mp hx]
  exact h
theorem TgL.two {K : PySem.W.Frag} {H : Hp} {v u : V} (h : Tg K H v) (g : Tg K H u) : TgL K H [v, u] := fun x hx => by
  rcases List.mem_cons.mp hx with rfl | hx
  · exact h
  · rw [List.mem_singleton.mp hx]
    exact g
theorem tg_int {K : PySem.W.Frag} {H : Hp} {i : Int} : Tg K H (.int i) := ⟨_, .int i⟩
theorem tg_str {K : PySem.W.Frag} {H : Hp} {z : Str} (h : z.length ≤ 1000) (hv : ∀ c ∈ z.cps.toList, c < 1114112) : Tg K H (.str z) := ⟨_, .str h hv⟩
theorem tg_nm {K : PySem.W.Frag} {H : Hp} {z : Str} (h : isNm z = true) : Tg K H (.str z) := tg_str (Nat.le_trans (nm_len h) (by decide)) fun c hc => sign_ok (nm_signs h c hc)
theorem tg_kind {K : PySem.W.Frag} {H : Hp} {rs : List Addr} {ks : List (Str × Int)} (h : Prs H rs ks) (g : ∀ q ∈ ks, isNm q.1 = true) : TgL K H (rs.map V.ref) := by
  induction h with
  | nil => exact fun _ z => nomatch z
  | cons e _ ih =>
    intro v hv
    rcases List.mem_cons.mp hv with rfl | hv
    · exact Tg.tup e (TgL.two (tg_nm (g _ List.mem_cons_self)) tg_int)
    · exact ih (fun q hq => g q (List.mem_cons_of_mem _ hq)) v hv
theorem eq_int (u i : Int) : V.bl (decide (V.int u = V.int i)) = V.bl (decide (u = i)) := by
  congr 1
  refine decide_eq_decide.mpr ⟨fun h => ?_, fun h => by rw [h]⟩
  cases h
  rfl
theorem mul_ok (z : Str) (n : Int) (h : (decide (n < -(2 ^ 63 : Int)) || decide (n ≥ 2 ^ 63)) = false) (h2 : decide ((z.length : Int) > (2 ^ 63 - 1) / n) = false) (h3 : Builtin.Str.tooLong (z.length * n.toNat) = false) : MulOk z n := ⟨h, fun _ _ => of_decide_eq_false h2, fun _ _ => h3⟩
theorem tg_more {K : PySem.W.Frag} {H : Hp} {z : Str} (h : isNm z = true) : Tg K H (.str (z ++ "x")) := by
  refine tg_str ?_ fun c hc => ?_
  · have y := nm_len h
    show (z ++ ("x" : Str)).length ≤ 1000
    rw [strLen_append]
    have e : ("x" : Str).length = 1 := rfl
    omega
  · have e : (z ++ ("x" : Str)).cps.toList = z.cps.toList ++ [120] := by
      show (z.cps ++ ("x" : Str).cps).toList = _
      rw [Array.toList_append]
      rfl
    rw [e] at hc
    rcases List.mem_append.mp hc with hc | hc
    · exact sign_ok (nm_signs h c hc)
    · rw [List.mem_singleton.mp hc]
      decide
structure spSpoilt (K : PySem.W.Frag) (vs : List V) (H : Hp) (Q : VK) (E : XK) : Prop where
  ex : ∃ (p c a : Addr) (ks : List (Str × Int)), vs = [.ref p, .ref a] ∧ Pot H p c ∧ KindAt H a ks ∧ Right ks ∧ ∀ x H', But p H H' → Pot H' p c → Tg K H' x → Q x H'
structure TxtS (mg : Str → Option Value) : Prop where
  n_len : mg "len" = none
  n_list : mg "list" = none
  n_tuple : mg "tuple" = none
  n_min : mg "min" = none
abbrev s_law_spoilt : Stmt := topS 26
theorem sc_law_spoilt : FnScope ["pot", "kind", "at", "way", "tag", "number", "other", "odd", "one"] ["pot", "kind"] (defScope s_law_spoilt) := ⟨rfl, rfl, rfl, by decide +kernel, rfl, by decide +kernel, by decide +kernel⟩
section
variable {P : Program} {w : World} {K : PySem.W.Frag} {mg : Str → Option Value} {base : Heap}
theorem ok_spoilt {f fb fp : Addr} {fd fdb fdp : FuncData} {k : Nat} (F : Fun K "_law_spoilt" "_law_spoilt" s_law_spoilt f fd) (T : TxtS mg) (F__law_below : Fun K "_law_below" "_law_below" s_law_below fb fdb) (b__law_below : Binds K fdb ["pot", "bound"] []) (g__law_below : mg "_law_below" = some (.ref fb))
    (G__law_below : FnOk P w K mg base CX0 2 fb fdb ["pot", "bound"] spBelow) (F__law_pick : Fun K "_law_pick" "_law_pick" s_law_pick fp fdp) (b__law_pick : Binds K fdp ["pot", "items"] []) (g__law_pick : mg "_law_pick" = some (.ref fp))
    (G__law_pick : FnOk P w K mg base CX0 3 fp fdp ["pot", "items"] (spPick K)) : FnOk P w K mg base CX0 (k + 4) f fd ["pot", "kind"] (spSpoilt K) := by
  refine F.ok sc_law_spoilt (fun vs H Q E h => ?_) (fun cdv A outer s H vs Q E hr h => ?_)
  · obtain ⟨p, c, a, ks, rfl, _⟩ := h
    rfl
  · obtain ⟨p, c, a, ks, rfl, hP, hk, hR, q⟩ := h
    refine ⟨_, (pss_cons (ps_par (i := 2) (j := 3) (by rfl) sc_law_spoilt.nd rfl rfl (by decide) rfl rfl (pa_cons (pe_call G__law_below (hr.mono (by omega)) (by rfl) g__law_below F__law_below.kp b__law_below .nil pass0 (pa_cons (pv 0) (pa_cons (pe_callB call_len_seq (by rfl) T.n_len (by decide +kernel) (pa_cons (pv 1) pa_nil)) pa_nil))) (pa_cons (pe_call G__law_below (hr.mono (by omega)) (by rfl) g__law_below F__law_below.kp b__law_below .nil pass0 (pa_cons (pv 0) (pa_cons pe_int pa_nil))) pa_nil)) (by rfl))
  (pss_cons (ps_asg (pe_ix ix_tup (pv 1) (pv 2) (fun _ _ => rfl)) (pg_tup rfl (pgs_cons (pg_name (i := 4) sc_law_spoilt.nd rfl (.inl rfl)) (pgs_cons (pg_name (i := 5) sc_law_spoilt.nd rfl (.inl rfl)) pgs_nil))))
  (pss_cons (ps_set (i := 6) sc_law_spoilt.nd rfl (.inl rfl) (pe_ix ix_tup (pv 1) (pe_call G__law_below (hr.mono (by omega)) (by rfl) g__law_below F__law_below.kp b__law_below .nil pass0 (pa_cons (pv 0) (pa_cons (pe_callB call_len_seq (by rfl) T.n_len (by decide +kernel) (pa_cons (pv 1) pa_nil)) pa_nil))) (fun _ _ => rfl)))
  (pss_cons (ps_if (pt_cmpR op_eq (pv 3) pe_int (nomark _))
   (pss_one (ps_ret (pe_op op_catX (pe_slice sl_X (pv 1) po_none (po_some (pv 2))) (pe_slice sl_X (pv 1) (po_some (pe_op op_add (pv 2) pe_int)) po_none))))
   pss_nil)
  (pss_cons (ps_if (pt_cmpR op_eq (pv 3) pe_int (nomark _))
   (pss_cons (ps_set (i := 7) sc_law_spoilt.nd rfl (.inl rfl) (pe_lst (pa_cons pe_int (pa_cons pe_int (pa_cons pe_int (pa_cons pe_int (pa_cons pe_int (pa_cons (pe_op op_sub pe_int pe_int) (pa_cons pe_non (pa_cons pe_bl (pa_cons pe_str (pa_cons (pe_tup (pa_cons pe_int pa_nil)) pa_nil))))))))))))
  (pss_one (ps_ret (pe_op op_catX (pe_op op_catX (pe_slice sl_X (pv 1) po_none (po_some (pv 2))) (pe_tup (pa_cons (pe_tup (pa_cons (pv 4) (pa_cons (pe_call G__law_pick (hr.mono (by omega)) (by rfl) g__law_pick F__law_pick.kp b__law_pick .nil pass0 (pa_cons (pv 0) (pa_cons (pv 7) pa_nil))) pa_nil))) pa_nil))) (pe_slice sl_X (pv 1) (po_some (pe_op op_add (pv 2) pe_int)) po_none)))))
   pss_nil)
  (pss_cons (ps_if (pt_cmpR op_eq (pv 3) pe_int (nomark _))
   (pss_cons (ps_set (i := 7) sc_law_spoilt.nd rfl (.inl rfl) (pe_lst (pa_cons (pe_ix ix_tup (pv 6) pe_int (fun _ _ => rfl)) (pa_cons pe_str (pa_cons pe_str (pa_cons pe_int (pa_cons pe_non (pa_cons (pe_op op_add_str (pv 4) pe_str) (pa_cons pe_str (pa_cons (pe_lst (pa_cons (pv 4) pa_nil)) (pa_cons pe_dnewK (pa_cons (pe_tup (pa_cons (pv 4) pa_nil)) pa_nil))))))))))))
  (pss_one (ps_ret (pe_op op_catX (pe_op op_catX (pe_slice sl_X (pv 1) po_none (po_some (pv 2))) (pe_tup (pa_cons (pe_tup (pa_cons (pe_call G__law_pick (hr.mono (by omega)) (by rfl) g__law_pick F__law_pick.kp b__law_pick .nil pass0 (pa_cons (pv 0) (pa_cons (pv 7) pa_nil))) (pa_cons (pv 5) pa_nil))) pa_nil))) (pe_slice sl_X (pv 1) (po_some (pe_op op_add (pv 2) pe_int)) po_none)))))
   pss_nil)
  (pss_cons (ps_if (pt_cmpR op_eq (pv 3) pe_int (nomark _))
   (pss_cons (ps_set (i := 7) sc_law_spoilt.nd rfl (.inl rfl) (pe_lst (pa_cons (pe_lst (pa_cons (pv 4) (pa_cons (pv 5) pa_nil))) (pa_cons (pe_tup (pa_cons (pv 4) pa_nil)) (pa_cons (pe_tup (pa_cons (pv 4) (pa_cons (pv 5) (pa_cons pe_int pa_nil)))) (pa_cons pe_non (pa_cons (pv 4) (pa_cons (pe_tup (pa_cons (pv 5) (pa_cons (pv 4) pa_nil))) pa_nil))))))))
  (pss_one (ps_ret (pe_op op_catX (pe_op op_catX (pe_slice sl_X (pv 1) po_none (po_some (pv 2))) (pe_tup (pa_cons (pe_call G__law_pick (hr.mono (by omega)) (by rfl) g__law_pick F__law_pick.kp b__law_pick .nil pass0 (pa_cons (pv 0) (pa_cons (pv 7) pa_nil))) pa_nil))) (pe_slice sl_X (pv 1) (po_some (pv 2)) po_none)))))
   pss_nil)
  (pss_cons (ps_if (pt_cmpR op_eq (pv 3) pe_int (nomark _))
   (pss_one (ps_ret (pe_callTy call_list_of (by rfl) T.n_list (by decide +kernel) (pa_cons (pv 1) pa_nil))))
   pss_nil)
  (pss_cons (ps_if (pt_cmpR op_eq (pv 3) pe_int (nomark _))
   (pss_one (ps_ret (pe_op op_catX (pv 1) (pe_tup (pa_cons (pe_tup (pa_cons (pe_op op_repS pe_str pe_int) (pa_cons (pe_call G__law_below (hr.mono (by omega)) (by rfl) g__law_below F__law_below.kp b__law_below .nil pass0 (pa_cons (pv 0) (pa_cons pe_int pa_nil))) pa_nil))) pa_nil)))))
   pss_nil)
  (pss_cons (ps_if (pt_cmpR op_eq (pv 3) pe_int (nomark _))
   (pss_one (ps_ret (pe_revT (pv 1))))
   pss_nil)
  (pss_cons (ps_if (pt_cmpR op_eq (pv 3) pe_int (nomark _))
   (pss_one (ps_ret (pe_op op_catX (pe_op op_catX (pe_slice sl_X (pv 1) po_none (po_some (pv 2))) (pe_tup (pa_cons (pv 6) pa_nil))) (pe_slice sl_X (pv 1) (po_some (pv 2)) po_none))))
   pss_nil)
  (pss_one (ps_ret (pe_callTy call_tuple_of (by rfl) T.n_tuple (by decide +kernel) (pa_cons (pe_lc (own := [("one", 8)]) (g := gName 8) rfl sc_law_spoilt.nd (pi_tup (pv 1)) (blkOk_by (own := [("one", 8)]) (N := ["pot", "kind", "at", "way", "tag", "number", "other", "odd", "one"]) (sc := defScope s_law_spoilt) (by decide +kernel)) (fun _ _ _ _ _ => (pg_name (i := 8) sc_law_spoilt.nd rfl (.inl rfl))) (fun _ _ _ _ _ => pts_nil) (fun _ _ _ _ _ => (pe_tup (pa_cons (pe_ix (r := rIxT K) ix_tup (pv 8) pe_int (fun _ _ => rfl)) (pa_cons (pe_callB (call_min2 (by rfl)) (by rfl) T.n_min (by decide +kernel) (pa_cons (pe_ix (r := rIxT K) ix_tup (pv 8) pe_int (fun _ _ => rfl)) (pa_cons pe_int pa_nil))) pa_nil))))) pa_nil))))))))))))))), ?_⟩
    obtain ⟨⟨r2, r8⟩, rok, rall⟩ := id hR
    obtain ⟨rs, ea, pr⟩ := id hk
    have lr := pr.length
    have lx : (rs.map V.ref).length = ks.length := by rw [List.length_map, lr]
    have kl := tg_kind (K := K) pr fun q hq => (rall q hq).1
    -- at, way
    refine ⟨_, rfl, _, rfl, a, _, rfl, .inr (.inl ea), p, c, _, rfl, hP, by omega, by omega, fun v H1 v0 v1 hP1 b1 => ?_⟩
    refine ⟨_, rfl, p, c, 9, rfl, hP1, by decide, by decide, fun u H2 u0 u1 hP2 b2 => ⟨_, _, rfl, ?_⟩⟩
    obtain ⟨j, rfl⟩ : ∃ j : Nat, v = (j : Int) := ⟨v.toNat, by omega⟩
    have hj : j < rs.length := by omega
    have d2 := drew_of (b1.trans b2) hP hP2
    have ea2 := d2.rd ea
    obtain ⟨pp, hpp, er⟩ := pr.get (List.getElem?_eq_getElem hj)
    have er2 := d2.rd er
    have gx : (rs.map V.ref)[j]? = some (V.ref rs[j]) := by rw [List.getElem?_map, List.getElem?_eq_getElem hj]; rfl
    have nmp := (rall pp (List.mem_of_getElem? hpp)).1
    refine ⟨_, rfl, _, rfl, a, _, _, _, rfl, rfl, .inl ea2, atI_nat gx, rs[j], _, rfl, .inl er2, rfl, _, _, rfl, _, _, rfl, rfl, ?_⟩
    -- other
    refine ⟨_, rfl, _, rfl, _, rfl, a, _, rfl, .inr (.inl ea2), p, c, _, rfl, hP2, by omega, by omega, fun w1 H3 w0 w2 hP3 b3 => ?_⟩
    obtain ⟨j2, rfl⟩ : ∃ j : Nat, w1 = (j : Int) := ⟨w1.toNat, by omega⟩
    have hj2 : j2 < rs.length := by omega
    have bA : But p H H3 := (b1.trans b2).trans b3
    have d3 := drew_of bA hP hP3
    have ea3 := d3.rd ea
    have kl3 := kl.drew d3
    have gx2 : (rs.map V.ref)[j2]? = some (V.ref rs[j2]) := by rw [List.getElem?_map, List.getElem?_eq_getElem hj2]; rfl
    obtain ⟨pq, hpq, eq2⟩ := pr.get (List.getElem?_eq_getElem hj2)
    have eq3 := d3.rd eq2
    have nmq := (rall pq (List.mem_of_getElem? hpq)).1
    refine ⟨a, _, _, _, rfl, rfl, .inl ea3, atI_nat gx2, ?_⟩
    have lc : ∀ lo hi : Option Int, (cutV (rs.map V.ref) lo hi).length ≤ 8 := fun lo hi => Nat.le_trans (cutV_length _ _ _) (by omega)
    -- way == 0
    refine ⟨_, rfl, rfl, decide (u = 0), eq_int u 0, ?_⟩
    by_cases hu0 : u = 0
    · rw [decide_eq_true hu0]
      refine iteT ?_
      refine ⟨_, rfl, _, rfl, _, rfl, a, _, rfl, ea3, fun r1 H4 s4 e4 => ?_⟩
      refine ⟨_, rfl, _, rfl, _, _, rfl, rfl, _, rfl, a, _, rfl, ea3.same s4, fun r2 H5 s5 e5 => ?_⟩
      refine ⟨r1, r2, _, _, rfl, rfl, e4.same s5, e5, fits_few (Nat.le_trans (Nat.add_le_add (lc _ _) (lc _ _)) (by decide)), fun r3 H6 s6 e6 => ?_⟩
      exact q _ H6 (((bA.same s4).same s5).same s6) (((hP3.same s4).same s5).same s6) (Tg.tup e6 ((((kl3.same s4).same s5).same s6).cut.app (((kl3.same s4).same s5).same s6).cut))
    rw [decide_eq_false hu0]
    refine iteF ?_
    -- way == 1
    refine ⟨_, rfl, rfl, decide (u = 1), eq_int u 1, ?_⟩
    by_cases hu1 : u = 1
    · rw [decide_eq_true hu1]
      refine iteT ?_
      refine ⟨_, _, rfl, rfl, by show 1 ≤ sizeLine; decide, fun t nt => ⟨by show 10 ≤ sizeLine; decide, fun o no => ?_⟩⟩
      have st := same_upd (o := .tup [.int 2]) nt
      have so := same_upd (o := .lst [.int 0, .int 1, .int 2, .int 4, .int 5, .int (0 - 1), .non, .bl true, .str "2", .ref t]) no
      have ot : ∀ G : Hp, Rd (upd G o (.lst [.int 0, .int 1, .int 2, .int 4, .int 5, .int (0 - 1), .non, .bl true, .str "2", .ref t])) t (.tup [.int 2]) ∨ True := fun _ => .inr trivial
      have all : TgL K (upd (upd H3 t (.tup [.int 2])) o (.lst [.int 0, .int 1, .int 2, .int 4, .int 5, .int (0 - 1), .non, .bl true, .str "2", .ref t])) [.int 0, .int 1, .int 2, .int 4, .int 5, .int (0 - 1), .non, .bl true, .str "2", .ref t] := by
        intro x hx
        simp only [List.mem_cons, List.not_mem_nil, or_false] at hx
        rcases hx with rfl | rfl | rfl | rfl | rfl | rfl | rfl | rfl | rfl | rfl
        · exact tg_int
        · exact tg_int
        · exact tg_int
        · exact tg_int
        · exact tg_int
        · exact tg_int
        · exact ⟨_, .non⟩
        · exact ⟨_, .bl true⟩
        · exact tg_str (by decide) (by decide +kernel)
        · exact Tg.tup (.inl (so _ _ upd_same)) (TgL.one tg_int)
      have sX := st.trans so
      have hoX : ∀ G : Hp, upd G o (.lst [.int 0, .int 1, .int 2, .int 4, .int 5, .int (0 - 1), .non, .bl true, .str "2", .ref t]) o = some (.lst [.int 0, .int 1, .int 2, .int 4, .int 5, .int (0 - 1), .non, .bl true, .str "2", .ref t]) := fun G => upd_same
      have npo : p ≠ o := fun z => by
        obtain ⟨_, _, ys, e⟩ := d3
        have y := ne_of_none (st _ _ e) no
        exact y z
      -- kind[:at] + (..) + kind[..]
      refine ⟨_, rfl, _, rfl, _, rfl, a, _, rfl, ea3.same sX, fun r1 H5 s5 e5 => ?_⟩
      have hP5 := (hP3.same sX).same s5
      have ho5 := s5 _ _ (hoX _)
      have all5 := all.same s5
      have kl5 := (kl3.same sX).same s5
      have bB := (bA.same sX).same s5
      refine ⟨_, rfl, _, rfl, _, rfl, p, c, o, _, rfl, hP5, .inl (.inl ho5), (fun z => nomatch z), by show 10 < 1073741824; decide, fun H' hb => .inl (.inl (hb.1 _ _ ho5 (Ne.symm npo))), fun x H6 hx hP6 b6 => ?_⟩
      have d6 := drew_of b6 hP5 hP6
      have hx6 := (all5 x hx).drew d6
      have kl6 := kl5.drew d6
      have e6 := d6.rd e5
      have ea6 := d6.rd ((ea3.same sX).same s5)
      have bC := bB.trans b6
      refine ⟨by show 2 ≤ sizeLine; decide, fun t1 n1 => ⟨by show 1 ≤ sizeLine; decide, fun t2 n2 => ?_⟩⟩
      have sP := same_upd (o := .tup [.str pp.1, x]) n1
      have sQ := same_upd (o := .tup [.ref t1]) n2
      have sR := sP.trans sQ
      have new : TgL K (upd (upd H6 t1 (.tup [.str pp.1, x])) t2 (.tup [.ref t1])) [.ref t1] := TgL.one (Tg.tup (.inl (sQ _ _ upd_same)) (TgL.two ((tg_nm nmp).same sR) (hx6.same sR)))
      refine ⟨r1, t2, _, _, rfl, rfl, e6.same sR, .inl upd_same, fits_few (Nat.le_trans (Nat.add_le_add_right (lc _ _) 1) (by decide)), fun r3 H9 s9 e9 => ?_⟩
      refine ⟨_, rfl, _, rfl, _, _, rfl, rfl, _, rfl, a, _, rfl, (ea6.same sR).same s9, fun r4 H10 s10 e10 => ?_⟩
      refine ⟨r3, r4, _, _, rfl, rfl, e9.same s10, e10, fits_few (by rw [List.length_append]; exact Nat.le_trans (Nat.add_le_add (Nat.add_le_add_right (lc _ _) 1) (lc _ _)) (by decide)), fun r5 H11 s11 e11 => ?_⟩
      have sZ := ((sR.trans s9).trans s10).trans s11
      exact q _ H11 (bC.same sZ) (hP6.same sZ) (Tg.tup e11 (((kl6.same sZ).cut.app (((new.same s9).same s10).same s11)).app (kl6.same sZ).cut))
    rw [decide_eq_false hu1]
    refine iteF ?_
    -- way == 2
    refine ⟨_, rfl, rfl, decide (u = 2), eq_int u 2, ?_⟩
    by_cases hu2 : u = 2
    · rw [decide_eq_true hu2]
      refine iteT ?_
      refine ⟨_, rfl, rs[j2], _, _, V.str pq.1, rfl, rfl, .inl eq3, rfl, _, rfl, _, _, rfl, rfl, fits_few (by show pp.1.length + 1 ≤ 100; have := nm_len nmp; omega), _, rfl, by show 1 ≤ sizeLine; decide, fun l1 nl1 => ?_⟩
      intro dd ndd
      refine ⟨_, rfl, by show 1 ≤ sizeLine; decide, fun t nt => ⟨by show 10 ≤ sizeLine; decide, fun o no => ?_⟩⟩
      have sl := same_upd (o := .lst [.str pp.1]) nl1
      have sd := same_upd (o := .dK []) ndd
      have st0 := same_upd (o := .tup [.str pp.1]) nt
      have st := (sl.trans sd).trans st0
      have so := same_upd (o := .lst [.str pq.1, .str "", .str "A", .int 1, .non, .str (pp.1 ++ "x"), .str "leaf9", .ref l1, .ref dd, .ref t]) no
      have sX := st.trans so
      have all : TgL K (upd (upd (upd (upd H3 l1 (.lst [.str pp.1])) dd (.dK [])) t (.tup [.str pp.1])) o (.lst [.str pq.1, .str "", .str "A", .int 1, .non, .str (pp.1 ++ "x"), .str "leaf9", .ref l1, .ref dd, .ref t])) [.str pq.1, .str "", .str "A", .int 1, .non, .str (pp.1 ++ "x"), .str "leaf9", .ref l1, .ref dd, .ref t] := by
        intro x hx
        simp only [List.mem_cons, List.not_mem_nil, or_false] at hx
        rcases hx with rfl | rfl | rfl | rfl | rfl | rfl | rfl | rfl | rfl | rfl
        · exact tg_nm nmq
        · exact tg_str (by decide) (by decide +kernel)
        · exact tg_str (by decide) (by decide +kernel)
        · exact tg_int
        · exact ⟨_, .non⟩
        · exact tg_more nmp
        · exact tg_str (by decide +kernel) (by decide +kernel)
        · exact ⟨_, .lst (((sd.trans st0).trans so) _ _ upd_same)⟩
        · exact ⟨_, .dct ((st0.trans so) _ _ upd_same)⟩
        · exact Tg.tup (.inl (so _ _ upd_same)) (TgL.one (tg_nm nmp))
      have hoX : ∀ G : Hp, upd G o (.lst [.str pq.1, .str "", .str "A", .int 1, .non, .str (pp.1 ++ "x"), .str "leaf9", .ref l1, .ref dd, .ref t]) o = some (.lst [.str pq.1, .str "", .str "A", .int 1, .non, .str (pp.1 ++ "x"), .str "leaf9", .ref l1, .ref dd, .ref t]) := fun G => upd_same
      have npo : p ≠ o := fun z => by
        obtain ⟨_, _, ys, e⟩ := d3
        have y := ne_of_none (st _ _ e) no
        exact y z
      -- kind[:at] + (..) + kind[..]
      refine ⟨_, rfl, _, rfl, _, rfl, a, _, rfl, ea3.same sX, fun r1 H5 s5 e5 => ?_⟩
      have hP5 := (hP3.same sX).same s5
      have ho5 := s5 _ _ (hoX _)
      have all5 := all.same s5
      have kl5 := (kl3.same sX).same s5
      have bB := (bA.same sX).same s5
      refine ⟨_, rfl, _, rfl, p, c, o, _, rfl, hP5, .inl (.inl ho5), (fun z => nomatch z), by show 10 < 1073741824; decide, fun H' hb => .inl (.inl (hb.1 _ _ ho5 (Ne.symm npo))), fun x H6 hx hP6 b6 => ?_⟩
      have d6 := drew_of b6 hP5 hP6
      have hx6 := (all5 x hx).drew d6
      have kl6 := kl5.drew d6
      have e6 := d6.rd e5
      have ea6 := d6.rd ((ea3.same sX).same s5)
      have bC := bB.trans b6
      refine ⟨_, rfl, by show 2 ≤ sizeLine; decide, fun t1 n1 => ⟨by show 1 ≤ sizeLine; decide, fun t2 n2 => ?_⟩⟩
      have sP := same_upd (o := .tup [x, .int pp.2]) n1
      have sQ := same_upd (o := .tup [.ref t1]) n2
      have sR := sP.trans sQ
      have new : TgL K (upd (upd H6 t1 (.tup [x, .int pp.2])) t2 (.tup [.ref t1])) [.ref t1] := TgL.one (Tg.tup (.inl (sQ _ _ upd_same)) (TgL.two (hx6.same sR) tg_int))
      refine ⟨r1, t2, _, _, rfl, rfl, e6.same sR, .inl upd_same, fits_few (Nat.le_trans (Nat.add_le_add_right (lc _ _) 1) (by decide)), fun r3 H9 s9 e9 => ?_⟩
      refine ⟨_, rfl, _, rfl, _, _, rfl, rfl, _, rfl, a, _, rfl, (ea6.same sR).same s9, fun r4 H10 s10 e10 => ?_⟩
      refine ⟨r3, r4, _, _, rfl, rfl, e9.same s10, e10, fits_few (by rw [List.length_append]; exact Nat.le_trans (Nat.add_le_add (Nat.add_le_add_right (lc _ _) 1) (lc _ _)) (by decide)), fun r5 H11 s11 e11 => ?_⟩
      have sZ := ((sR.trans s9).trans s10).trans s11
      exact q _ H11 (bC.same sZ) (hP6.same sZ) (Tg.tup e11 (((kl6.same sZ).cut.app (((new.same s9).same s10).same s11)).app (kl6.same sZ).cut))
    rw [decide_eq_false hu2]
    refine iteF ?_
    -- way == 3
    refine ⟨_, rfl, rfl, decide (u = 3), eq_int u 3, ?_⟩
    by_cases hu3 : u = 3
    · rw [decide_eq_true hu3]
      refine iteT ?_
      refine ⟨_, rfl, _, rfl, by show 2 ≤ sizeLine; decide, fun l1 nl1 => ⟨_, rfl, by show 1 ≤ sizeLine; decide, fun t1 nt1 => ⟨_, rfl, _, rfl, by show 3 ≤ sizeLine; decide, fun t2 nt2 => ⟨_, rfl, _, rfl, _, rfl, by show 2 ≤ sizeLine; decide, fun t3 nt3 => ⟨by show 6 ≤ sizeLine; decide, fun o no => ?_⟩⟩⟩⟩⟩
      have sl := same_upd (o := .lst [.str pp.1, .int pp.2]) nl1
      have sa := same_upd (o := .tup [.str pp.1]) nt1
      have sb := same_upd (o := .tup [.str pp.1, .int pp.2, .int 0]) nt2
      have sc := same_upd (o := .tup [.int pp.2, .str pp.1]) nt3
      have st := ((sl.trans sa).trans sb).trans sc
      have so := same_upd (o := .lst [.ref l1, .ref t1, .ref t2, .non, .str pp.1, .ref t3]) no
      have sX := st.trans so
      have all : TgL K (upd (upd (upd (upd (upd H3 l1 (.lst [.str pp.1, .int pp.2])) t1 (.tup [.str pp.1])) t2 (.tup [.str pp.1, .int pp.2, .int 0])) t3 (.tup [.int pp.2, .str pp.1])) o (.lst [.ref l1, .ref t1, .ref t2, .non, .str pp.1, .ref t3])) [.ref l1, .ref t1, .ref t2, .non, .str pp.1, .ref t3] := by
        intro x hx
        simp only [List.mem_cons, List.not_mem_nil, or_false] at hx
        rcases hx with rfl | rfl | rfl | rfl | rfl | rfl
        · exact ⟨_, .lst ((((sa.trans sb).trans sc).trans so) _ _ upd_same)⟩
        · exact Tg.tup (.inl (((sb.trans sc).trans so) _ _ upd_same)) (TgL.one (tg_nm nmp))
        · exact Tg.tup (.inl ((sc.trans so) _ _ upd_same)) ((TgL.two (tg_nm nmp) tg_int).app (TgL.one tg_int))
        · exact ⟨_, .non⟩
        · exact tg_nm nmp
        · exact Tg.tup (.inl (so _ _ upd_same)) (TgL.two tg_int (tg_nm nmp))
      have hoX : ∀ G : Hp, upd G o (.lst [.ref l1, .ref t1, .ref t2, .non, .str pp.1, .ref t3]) o = some (.lst [.ref l1, .ref t1, .ref t2, .non, .str pp.1, .ref t3]) := fun G => upd_same
      have npo : p ≠ o := fun z => by
        obtain ⟨_, _, ys, e⟩ := d3
        have y := ne_of_none (st _ _ e) no
        exact y z
      -- kind[:at] + (..) + kind[..]
      refine ⟨_, rfl, _, rfl, _, rfl, a, _, rfl, ea3.same sX, fun r1 H5 s5 e5 => ?_⟩
      have hP5 := (hP3.same sX).same s5
      have ho5 := s5 _ _ (hoX _)
      have all5 := all.same s5
      have kl5 := (kl3.same sX).same s5
      have bB := (bA.same sX).same s5
      refine ⟨_, rfl, _, rfl, p, c, o, _, rfl, hP5, .inl (.inl ho5), (fun z => nomatch z), by show 6 < 1073741824; decide, fun H' hb => .inl (.inl (hb.1 _ _ ho5 (Ne.symm npo))), fun x H6 hx hP6 b6 => ?_⟩
      have d6 := drew_of b6 hP5 hP6
      have hx6 := (all5 x hx).drew d6
      have kl6 := kl5.drew d6
      have e6 := d6.rd e5
      have ea6 := d6.rd ((ea3.same sX).same s5)
      have bC := bB.trans b6
      refine ⟨by show 1 ≤ sizeLine; decide, fun t9 n9 => ?_⟩
      have sR := same_upd (o := .tup [x]) n9
      have new : TgL K (upd H6 t9 (.tup [x])) [x] := TgL.one (hx6.same sR)
      refine ⟨r1, t9, _, _, rfl, rfl, e6.same sR, .inl upd_same, fits_few (Nat.le_trans (Nat.add_le_add_right (lc _ _) 1) (by decide)), fun r3 H9 s9 e9 => ?_⟩
      refine ⟨_, rfl, _, rfl, _, rfl, a, _, rfl, (ea6.same sR).same s9, fun r4 H10 s10 e10 => ?_⟩
      refine ⟨r3, r4, _, _, rfl, rfl, e9.same s10, e10, fits_few (by rw [List.length_append]; exact Nat.le_trans (Nat.add_le_add (Nat.add_le_add_right (lc _ _) 1) (lc _ _)) (by decide)), fun r5 H11 s11 e11 => ?_⟩
      have sZ := ((sR.trans s9).trans s10).trans s11
      exact q _ H11 (bC.same sZ) (hP6.same sZ) (Tg.tup e11 (((kl6.same sZ).cut.app (((new.same s9).same s10).same s11)).app (kl6.same sZ).cut))
    rw [decide_eq_false hu3]
    refine iteF ?_
    -- way == 4
    refine ⟨_, rfl, rfl, decide (u = 4), eq_int u 4, ?_⟩
    by_cases hu4 : u = 4
    · rw [decide_eq_true hu4]
      refine iteT ?_
      refine ⟨_, rfl, a, _, rfl, .inr (.inl ea3), fun l nl => ?_⟩
      have sl := same_upd (o := .lst (rs.map V.ref)) nl
      exact q _ _ (bA.same sl) (hP3.same sl) ⟨_, .lst upd_same⟩
    rw [decide_eq_false hu4]
    refine iteF ?_
    -- way == 5
    refine ⟨_, rfl, rfl, decide (u = 5), eq_int u 5, ?_⟩
    by_cases hu5 : u = 5
    · rw [decide_eq_true hu5]
      refine iteT ?_
      refine ⟨_, rfl, _, _, rfl, rfl, mul_ok _ _ (by decide) (by decide +kernel) (by decide +kernel), _, rfl, p, c, 3, rfl, hP3, by decide, by decide, fun y H6 y0 y1 hP6 b6 => ?_⟩
      have d6 := drew_of b6 hP3 hP6
      have kl6 := kl3.drew d6
      have ea6 := d6.rd ea3
      refine ⟨by show 2 ≤ sizeLine; decide, fun t1 n1 => ⟨by show 1 ≤ sizeLine; decide, fun t2 n2 => ?_⟩⟩
      have sP := same_upd (o := .tup [.str (Txt.mul "x" 8), .int y]) n1
      have sQ := same_upd (o := .tup [.ref t1]) n2
      have sR := sP.trans sQ
      have new : TgL K (upd (upd H6 t1 (.tup [.str (Txt.mul "x" 8), .int y])) t2 (.tup [.ref t1])) [.ref t1] := TgL.one (Tg.tup (.inl (sQ _ _ upd_same)) (TgL.two (tg_str (by decide +kernel) (by decide +kernel)) tg_int))
      refine ⟨a, t2, _, _, rfl, rfl, ea6.same sR, .inl upd_same, fits_few (by rw [lx]; show _ + 1 ≤ 100; omega), fun r3 H9 s9 e9 => ?_⟩
      have sZ := sR.trans s9
      exact q _ H9 ((bA.trans b6).same sZ) (hP6.same sZ) (Tg.tup e9 ((kl6.same sZ).app (new.same s9)))
    rw [decide_eq_false hu5]
    refine iteF ?_
    -- way == 6
    refine ⟨_, rfl, rfl, decide (u = 6), eq_int u 6, ?_⟩
    by_cases hu6 : u = 6
    · rw [decide_eq_true hu6]
      refine iteT ?_
      refine ⟨_, rfl, a, _, rfl, .inl ea3, fun l nl => ?_⟩
      have sl := same_upd (o := .tup (rs.map V.ref).reverse) nl
      exact q _ _ (bA.same sl) (hP3.same sl) (Tg.tup (.inl upd_same) fun x hx => (kl3.same sl) x (List.mem_reverse.mp hx))
    rw [decide_eq_false hu6]
    refine iteF ?_
    -- way == 7
    refine ⟨_, rfl, rfl, decide (u = 7), eq_int u 7, ?_⟩
    by_cases hu7 : u = 7
    · rw [decide_eq_true hu7]
      refine iteT ?_
      refine ⟨_, rfl, _, rfl, _, rfl, a, _, rfl, ea3, fun r1 H6 s6 e6 => ?_⟩
      refine ⟨_, rfl, by show 1 ≤ sizeLine; decide, fun t9 n9 => ?_⟩
      have sR := same_upd (o := .tup [.ref rs[j2]]) n9
      have kl6 := kl3.same s6
      have new : TgL K (upd H6 t9 (.tup [.ref rs[j2]])) [.ref rs[j2]] := TgL.one (((kl3 _ (List.mem_of_getElem? gx2)).same s6).same sR)
      refine ⟨r1, t9, _, _, rfl, rfl, e6.same sR, .inl upd_same, fits_few (Nat.le_trans (Nat.add_le_add_right (lc _ _) 1) (by decide)), fun r3 H9 s9 e9 => ?_⟩
      refine ⟨_, rfl, _, rfl, _, rfl, a, _, rfl, ((ea3.same s6).same sR).same s9, fun r4 H10 s10 e10 => ?_⟩
      refine ⟨r3, r4, _, _, rfl, rfl, e9.same s10, e10, fits_few (by rw [List.length_append]; exact Nat.le_trans (Nat.add_le_add (Nat.add_le_add_right (lc _ _) 1) (lc _ _)) (by decide)), fun r5 H11 s11 e11 => ?_⟩
      have sZ := ((sR.trans s9).trans s10).trans s11
      exact q _ H11 ((bA.same s6).same sZ) ((hP3.same s6).same sZ) (Tg.tup e11 (((kl6.same sZ).cut.app (((new.same s9).same s10).same s11)).app (kl6.same sZ).cut))
    rw [decide_eq_false hu7]
    refine iteF ?_
    -- the last way
    have pr3 : ∀ (i : Nat) (x : V), (rs.map V.ref)[i]? = some x → ∃ r pp, x = .ref r ∧ ks[i]? = some pp ∧ Rd H3 r (.tup [.str pp.1, .int pp.2]) := fun i x e => by
      obtain ⟨r, pp, h1, h2, h3⟩ := pr.item e
      exact ⟨r, pp, h1, h2, d3.rd h3⟩
    refine ⟨_, rfl, a, rfl, ⟨_, .inl ea3⟩, fun Z nZ => ?_⟩
    refine lc_it (walk_tup (xs := rs.map V.ref)) (fun i H4 => Same H3 H4 ∧ ∃ zs : List V, H4 Z = some (.lst zs) ∧ zs.length ≤ i ∧ TgL K H4 zs) ⟨same_upd nZ, [], upd_same, Nat.le_refl 0, fun _ z => nomatch z⟩ (fun i H4 _ h => .inl (ea3.same h.1)) ?_ ?_
    · rintro i x H4 H5 hi ⟨s4, zs, hZ, lz, tz⟩ ⟨rfl, ex⟩
      obtain ⟨r, pp, rfl, hk1, hr2⟩ := pr3 i x ex
      have hr4 := hr2.same s4
      refine ⟨rfl, ?_⟩
      unfold tYes
      dsimp only
      rw [if_pos rfl]
      refine ⟨_, rfl, r, _, _, V.str pp.1, rfl, rfl, .inl hr4, rfl, _, rfl, r, _, _, V.int pp.2, rfl, rfl, .inl hr4, rfl, _, _, rfl, by show 2 ≤ sizeLine; decide, fun t nt => ?_⟩
      have st := same_upd (o := .tup [.str pp.1, .int (if (1 : Int) < pp.2 then 1 else pp.2)]) nt
      have nm1 := (rall pp (List.mem_of_getElem? hk1)).1
      have hi8 : i < 8 := by
        rw [lx] at hi
        omega
      have hZ5 := st _ _ hZ
      have dz : Drew Z (upd H5 t (.tup [.str pp.1, .int (if (1 : Int) < pp.2 then 1 else pp.2)])) (upd (upd H5 t (.tup [.str pp.1, .int (if (1 : Int) < pp.2 then 1 else pp.2)])) Z (.lst (zs ++ [.ref t]))) := ⟨but_upd, ⟨_, hZ5⟩, ⟨_, upd_same⟩⟩
      refine ⟨zs, hZ5, small1000 (by omega), same_at (s4.trans st) nZ, _, upd_same, ?_, ?_⟩
      · rw [List.length_append]
        show _ + 1 ≤ _
        omega
      · exact ((tz.same st).drew dz).app (TgL.one ((Tg.tup (.inl upd_same) (TgL.two (tg_nm nm1) tg_int)).drew dz))
    · rintro H4 ⟨s4, zs, hZ, lz, tz⟩
      refine ⟨Z, _, rfl, .inl ⟨.inl (.inl hZ), fun l nl => ?_⟩⟩
      have sl := same_upd (o := .tup zs) nl
      exact q _ _ ((bA.same s4).same sl) ((hP3.same s4).same sl) (Tg.tup (.inl upd_same) (tz.same sl))
end
end My

namespace My
open PySem PySem.Spec PyProof.Rows L2
/-! ### how long a repr is -/
theorem textFrom_le {m : Nat} : ∀ (ts : List Str) (k : Nat) (acc : Str), (∀ t ∈ ts, t.length ≤ m) → (textFrom k acc ts).length ≤ acc.length + ts.length * (m + 2)
  | [], k, acc, _ => by
    show acc.length ≤ acc.length + _
    omega
  | t :: r, k, acc, h => by
    have ih := textFrom_le (m := m) r (k + 1) (acc ++ (if k > 0 then ", " else "" : String) ++ t) fun x hx => h x (List.mem_cons_of_mem _ hx)
    have ht := h t List.mem_cons_self
    have e : (acc ++ (if k > 0 then ", " else "" : String) ++ t : Str).length ≤ acc.length + 2 + m := by
      rw [strLen_append, strLen_append]
      have z : ((if k > 0 then ", " else "" : String) : Str).length ≤ 2 := by
        split
        · exact Nat.le_refl 2
        · exact Nat.zero_le 2
      omega
    show (textFrom (k + 1) _ r).length ≤ _
    rw [List.length_cons, Nat.succ_mul]
    omega
theorem listText_le {m : Nat} {ts : List Str} (h : ∀ t ∈ ts, t.length ≤ m) : (listText ts).length ≤ 2 + ts.length * (m + 2) := by
  have z := textFrom_le ts 0 "[" h
  unfold listText
  rw [strLen_append]
  have e1 : ("[" : Str).length = 1 := rfl
  have e2 : ("]" : Str).length = 1 := rfl
  omega
theorem piled_le {m : Nat} : ∀ (ts : List Str), (∀ t ∈ ts, t.length ≤ m) → piled ts ≤ ts.length * (m + 2)
  | [], _ => by simp [piled]
  | t :: r, h => by
    have ih := piled_le r fun x hx => h x (List.mem_cons_of_mem _ hx)
    have ht := h t List.mem_cons_self
    rw [List.length_cons, Nat.succ_mul]
    unfold piled at *
    simp at *
    omega
theorem tupleText_le {m : Nat} {ts : List Str} (n : ts ≠ []) (h : ∀ t ∈ ts, t.length ≤ m) : (tupleText ts).length ≤ 3 + ts.length * (m + 2) := by
  have z := piled_le ts h
  have y := join_length_add ts n
  unfold tupleText
  rw [strLen_append, strLen_append]
  have e1 : ("(" : Str).length = 1 := rfl
  have e2 : ((if ts.length == 1 then ",)" else ")" : String) : Str).length ≤ 2 := by
    split
    · exact Nat.le_refl 2
    · exact Nat.le_succ 1
  omega
theorem rp_bl {K : PySem.W.Frag} {H : Hp} {b : Bool} {Q : VK} (q : Q (.str (PyData.bool b).shown) H) : rRepr K [.bl b] H Q := by
  refine ⟨.bl b, .bool b, rfl, .bl b, by simp only [PyData.showable], by simp only [PyData.canLay0], by simp [PyData.depth], ?_, q⟩
  cases b <;> exact Nat.le_of_lt (small1000 (by decide +kernel))
theorem fits_small {s : Str} {n : Nat} (h : s.length ≤ n) (hn : n ≤ 16000000) : s.length ≤ sizeLine := by
  rw [sizeLine_eq]
  omega
/-! ### the repr of a kind -/
def dKind (ks : List (Str × Int)) : PyData := .tuple (ks.map fun p => .tuple [.str p.1, .int p.2])
theorem dp_kind {K : PySem.W.Frag} {H : Hp} {rs : List Addr} {ks : List (Str × Int)} (h : Prs H rs ks) : DpAll K H (rs.map V.ref) (ks.map fun p => PyData.tuple [.str p.1, .int p.2]) := by
  induction h with
  | nil => exact .nil
  | cons e _ ih => exact .cons (.tup (.inl e) (.cons (.str _) (.cons (.int _) .nil))) ih
theorem small_int {i : Int} (h : 0 ≤ i ∧ i ≤ 4) : i.natAbs.log2 < 1920 ∧ (PyData.int i).shown.length ≤ 100 := by
  have z : i = 0 ∨ i = 1 ∨ i = 2 ∨ i = 3 ∨ i = 4 := by omega
  rcases z with rfl | rfl | rfl | rfl | rfl <;> exact ⟨by decide +kernel, by decide +kernel⟩
abbrev dPairs (ks : List (Str × Int)) : List PyData := ks.map fun p => PyData.tuple [.str p.1, .int p.2]
theorem kd_len : ∀ ks : List (Str × Int), (PyData.shownAll (dPairs ks)).length = ks.length
  | [] => by simp [dPairs, PyData.shownAll]
  | p :: r => by
    have ih := kd_len r
    unfold dPairs at ih ⊢
    simp only [List.map_cons, PyData.shownAll, List.length_cons, ih]
theorem kd_show : ∀ (ks : List (Str × Int)), (∀ q ∈ ks, isNm q.1 = true ∧ 0 ≤ q.2 ∧ q.2 ≤ 4) → PyData.showableAll (dPairs ks) = true ∧ PyData.canLayAll0 (dPairs ks) = true ∧ PyData.depthAll (dPairs ks) ≤ 10 ∧ ∀ t ∈ PyData.shownAll (dPairs ks), t.length ≤ 1000
  | [], _ => ⟨by simp [PyData.showableAll], by simp [PyData.canLayAll0], by simp [PyData.depthAll], fun t ht => by simp [PyData.shownAll] at ht⟩
  | p :: r, rall => by
    obtain ⟨i1, i2, i3, i4⟩ := kd_show r fun q hq => rall q (List.mem_cons_of_mem _ hq)
    obtain ⟨nm, num⟩ := rall p List.mem_cons_self
    obtain ⟨n1, n2⟩ := small_int num
    have cps : ∀ c ∈ p.1.cps.toList, c < 1114112 := fun c hc => sign_ok (nm_signs nm c hc)
    have lp := nm_len nm
    have rt := PySem.StrLaws.reprText_len p.1 fun c hc => Nat.lt_trans (cps c hc) (by decide)
    unfold dPairs at i1 i2 i3 i4 ⊢
    refine ⟨?_, ?_, ?_, ?_⟩
    · simp only [List.map_cons, PyData.showableAll, PyData.showable, i1, decide_eq_true n1, Bool.and_self]
    · simp only [List.map_cons, PyData.canLayAll0, PyData.canLay0, i2, Bool.and_true, PyData.strOk]
      simp only [Array.all_eq_true, decide_eq_true_eq]
      intro i hi
      exact cps _ (by simp)
    · simp only [List.map_cons, PyData.depthAll, PyData.depth]
      omega
    · intro t ht
      simp only [List.map_cons, PyData.shownAll, List.mem_cons] at ht
      rcases ht with rfl | ht
      · rw [PyData.shown]
        simp only [PyData.shownAll]
        refine Nat.le_trans (tupleText_le (m := 100) (fun z => nomatch z) fun t ht => ?_) (show 3 + 2 * (100 + 2) ≤ 1000 by decide)
        simp only [List.mem_cons, List.not_mem_nil, or_false] at ht
        rcases ht with rfl | rfl
        · rw [PyData.shown]
          omega
        · exact n2
      · exact i4 t ht
theorem rp_kind {K : PySem.W.Frag} {H : Hp} {a : Addr} {ks : List (Str × Int)} {Q : VK} (hk : KindAt H a ks) (hR : Right ks) (q : Q (.str (dKind ks).shown) H) : rRepr K [.ref a] H Q := by
  obtain ⟨rs, ea, pr⟩ := hk
  obtain ⟨⟨r2, r8⟩, _, rall⟩ := hR
  have show1 := kd_show ks rall
  obtain ⟨h1, h2, h3, h4⟩ := show1
  refine ⟨.ref a, dKind ks, rfl, .tup (.inl ea) (dp_kind pr), ?_, ?_, ?_, ?_, q⟩
  · unfold dKind
    simp only [PyData.showable]
    exact h1
  · unfold dKind
    simp only [PyData.canLay0]
    exact h2
  · unfold dKind
    have h3' : PyData.depthAll (ks.map fun p => PyData.tuple [.str p.1, .int p.2]) ≤ 10 := h3
    simp only [PyData.depth]
    omega
  · unfold dKind
    rw [PyData.shown]
    have ln := kd_len ks
    refine fits_small (n := 3 + 8 * (1000 + 2)) (Nat.le_trans (tupleText_le (m := 1000) (fun z => ?_) h4) ?_) (by decide)
    · have y := congrArg List.length z
      rw [ln, List.length_nil] at y
      omega
    · rw [ln]
      omega
def spLaw (K : PySem.W.Frag) : Sp := fun vs H Q _ => ∃ (a : Addr) (ns : List Int), vs = [.ref a] ∧ SqL K H a (ns.map V.int) ∧ ns.length ≤ 63 ∧ ∀ H', Q (.bl true) H'
/-! ### what makes a new thing -/
def MkT (K : PySem.W.Frag) (te : TE) (σ : L2.St) : Prop := ∀ (H : Hp) (Q : VK), (∀ v H', Same H H' → Tg K H' v → Q v H') → te σ H Q
def MkTL (K : PySem.W.Frag) (ta : TA) (σ : L2.St) (n : Nat) : Prop := ∀ (H : Hp) (Q : List V → Hp → Prop), (∀ vs H', Same H H' → TgL K H' vs → vs.length = n → Q vs H') → ta σ H Q
theorem mt_nil {K : PySem.W.Frag} {σ : L2.St} : MkTL K tNil σ 0 := fun H Q q => q [] H (same_rfl H) (fun _ z => nomatch z) rfl
theorem mt_cons {K : PySem.W.Frag} {σ : L2.St} {te : TE} {ta : TA} {n : Nat} (h : MkT K te σ) (r : MkTL K ta σ n) : MkTL K (tCons te ta) σ (n + 1) := fun H Q q => h H _ fun v H1 s1 t1 => r H1 _ fun vs H2 s2 t2 l2 => q (v :: vs) H2 (s1.trans s2) (fun x hx => (List.mem_cons.mp hx).elim (fun e => e ▸ t1.same s2) (t2 x)) (by rw [List.length_cons, l2])
theorem mt_c {K : PySem.W.Frag} {σ : L2.St} {v : V} (h : ∀ H, Tg K H v) : MkT K (tC v) σ := fun H Q q => q v H (same_rfl H) (h H)
theorem mt_tup {K : PySem.W.Frag} {σ : L2.St} {ta : TA} {n : Nat} (h : MkTL K ta σ n) (hn : n ≤ 100) : MkT K (tTup ta) σ := fun H Q q => h H _ fun vs H1 s1 t1 l1 => ⟨fits_few (by omega), fun p hp => q (.ref p) _ (s1.trans (same_upd hp)) (Tg.tup (.inl upd_same) (t1.same (same_upd hp)))⟩
theorem mt_lst {K : PySem.W.Frag} {σ : L2.St} {ta : TA} {n : Nat} (h : MkTL K ta σ n) (hn : n ≤ 100) : MkT K (tLst ta) σ := fun H Q q => h H _ fun vs H1 s1 t1 l1 => ⟨fits_few (by omega), fun p hp => q (.ref p) _ (s1.trans (same_upd hp)) ⟨_, .lst upd_same⟩⟩
theorem mt_dct {K : PySem.W.Frag} {σ : L2.St} : MkT K tDNewK σ := fun H Q q p hp => q (.ref p) _ (same_upd hp) ⟨_, .dct upd_same⟩
structure TxtI (mg : Str → Option Value) : Prop where
  n_repr : mg "repr" = none
  n_range : mg "range" = none
abbrev s_law : Stmt := topS 28
theorem sc_law : FnScope ["script", "pot", "odd", "thing", "turn", "kind", "before", "lap", "again", "one"] ["script"] (defScope s_law) := ⟨rfl, rfl, rfl, by decide +kernel, rfl, by decide +kernel, by decide +kernel⟩
section
variable {P : Program} {w : World} {K : PySem.W.Frag} {mg : Str → Option Value} {base : Heap}
theorem go_nox {k : Nat} {f : Addr} {fd : FuncData} {ps N : List Str} {sp : Sp} {x qual : Str} {st : Stmt} (F : Fun K x qual st f fd) (S : FnScope N ps (defScope st)) (many : ∀ vs H Q E, sp vs H Q E → vs.length = ps.length)
    (hb : ∀ (cdv : Value) (A : Around) (outer : List Env) (s : Shared) (H : Hp) (vs : List V) (Q : VK) (E : XK), Room k (A.deeper (envOfC qual (defScope st) s.heap.objs.size f cdv)) → (A.deeper (envOfC qual (defScope st) s.heap.objs.size f cdv)).guards = some [] →
      sp vs H Q E → ∃ t, PSs (cxOf CX0 P w K mg base N qual (defScope st) f cdv A outer s H E).nox (defBody st) t ∧ t { nx := fun _ H' => Q .non H', rt := Q } (L2.start N vs) H) : FnG P w K mg base CX0 (k + 1) f fd ps sp :=
  go_of F S many fun cdv A outer s H vs Q E hr quiet h => by
    obtain ⟨t, ht, q⟩ := hb cdv A outer s H vs Q E hr quiet h
    exact ⟨t, ht.nox, q⟩
structure Def (P : Program) (w : World) (K : PySem.W.Frag) (mg : Str → Option Value) (base : Heap) (x : Str) (st : Stmt) (ps : List Str) (k : Nat) (sp : Sp) (f : Addr) (fd : FuncData) : Prop where
  F : Fun K x x st f fd
  b : Binds K fd ps []
  g : mg x = some (.ref f)
  G : FnOk P w K mg base CX0 k f fd ps sp
end
end My

namespace My
open PySem PySem.Spec PyProof.Rows L2
/-! ### an expression, then what follows, with a word between them -/
def tCutE (te : TE) : TE := fun σ H Q => ∃ M : VK, te σ H M ∧ ∀ v H', M v H' → Q v H'
theorem pe_cut {X : Cx} {e : Expr} {te : TE} (h : PE X e te) : PE X e (tCutE te) := ⟨fun pins s σ H Q I ⟨M, hm, hq⟩ => thn (h.run pins s σ H M I hm) fun v s' ⟨x, H', I', r, m⟩ => ⟨x, H', I', r, hq x H' m⟩⟩
/-! ### the law's own lists of odd things -/
theorem mkL {K : PySem.W.Frag} {σ : L2.St} {ta : TA} {n : Nat} (h : MkTL K ta σ n) (hn : n ≤ 100) {H : Hp} {Q : VK} (q : ∀ l vs H', Same H H' → TgL K H' vs → vs.length = n → H' l = some (.lst vs) → Q (.ref l) H') : tLst ta σ H Q :=
  h H _ fun vs H1 s1 t1 l1 => ⟨fits_few (by omega), fun p hp => q p vs _ (s1.trans (same_upd hp)) (t1.same (same_upd hp)) l1 upd_same⟩
abbrev tP (z : Str) (i : Int) : TE := tTup (tCons (tC (.str z)) (tCons (tC (.int i)) tNil))
abbrev tU1 (a : TE) : TE := tTup (tCons a tNil)
abbrev tU2 (a b : TE) : TE := tTup (tCons a (tCons b tNil))
theorem mk_P {K : PySem.W.Frag} {σ : L2.St} {z : Str} {i : Int} (h1 : z.length ≤ 1000) (h2 : ∀ c ∈ z.cps.toList, c < 1114112) : MkT K (tP z i) σ := mt_tup (mt_cons (mt_c fun _ => tg_str h1 h2) (mt_cons (mt_c fun _ => tg_int) mt_nil)) (by decide)
theorem mk_a {K : PySem.W.Frag} {σ : L2.St} {i : Int} : MkT K (tP "a" i) σ := mk_P (by decide) (by decide +kernel)
theorem mk_b {K : PySem.W.Frag} {σ : L2.St} {i : Int} : MkT K (tP "b" i) σ := mk_P (by decide) (by decide +kernel)
theorem mk_U1 {K : PySem.W.Frag} {σ : L2.St} {a : TE} (h : MkT K a σ) : MkT K (tU1 a) σ := mt_tup (mt_cons h mt_nil) (by decide)
theorem mk_U2 {K : PySem.W.Frag} {σ : L2.St} {a b : TE} (h : MkT K a σ) (g : MkT K b σ) : MkT K (tU2 a b) σ := mt_tup (mt_cons h (mt_cons g mt_nil)) (by decide)
theorem mk_T0 {K : PySem.W.Frag} {σ : L2.St} : MkT K (tTup tNil) σ := mt_tup mt_nil (by decide)
theorem mk_L0 {K : PySem.W.Frag} {σ : L2.St} : MkT K (tLst tNil) σ := mt_lst mt_nil (by decide)
theorem mk_non {K : PySem.W.Frag} {σ : L2.St} : MkT K (tC .non) σ := mt_c fun _ => ⟨_, .non⟩
theorem mk_int {K : PySem.W.Frag} {σ : L2.St} {i : Int} : MkT K (tC (.int i)) σ := mt_c fun _ => tg_int
theorem mk_word {K : PySem.W.Frag} {σ : L2.St} : MkT K (tC (.str "kind")) σ := mt_c fun _ => tg_str (by decide) (by decide +kernel)
theorem mk_wb {K : PySem.W.Frag} {σ : L2.St} : MkT K (tC (.str "b")) σ := mt_c fun _ => tg_str (by decide) (by decide +kernel)
def oddA : TA := tCons (tC .non) (tCons (tTup tNil) (tCons (tLst tNil) (tCons tDNewK (tCons (tC (.str "kind")) (tCons (tC (.int 0)) (tCons (tU1 (tP "a" 0)) (tCons (tU1 (tP "a" 2)) (tCons (tU2 (tP "a" 0) (tP "b" 1)) (tCons (tU2 (tP "a" 1) (tP "b" 2)) (tCons (tU2 (tTup tNil) (tTup tNil)) tNil))))))))))
theorem mkA {K : PySem.W.Frag} {σ : L2.St} : MkTL K oddA σ 11 := mt_cons mk_non (mt_cons mk_T0 (mt_cons mk_L0 (mt_cons mt_dct (mt_cons mk_word (mt_cons mk_int (mt_cons (mk_U1 mk_a) (mt_cons (mk_U1 mk_a) (mt_cons (mk_U2 mk_a mk_b) (mt_cons (mk_U2 mk_a mk_b) (mt_cons (mk_U2 mk_T0 mk_T0) mt_nil))))))))))
def oddB : TA := tCons (tU2 (tP "a" 0) (tP "b" 2)) (tCons (tU2 (tP "a" 2) (tP "b" 0)) (tCons (tU2 (tP "a" 0) (tP "a" 2)) (tCons (tU2 (tP "a" 0) (tLst (tCons (tC (.str "b")) (tCons (tC (.int 2)) tNil)))) tNil)))
theorem mkB {K : PySem.W.Frag} {σ : L2.St} : MkTL K oddB σ 4 := mt_cons (mk_U2 mk_a mk_b) (mt_cons (mk_U2 mk_a mk_b) (mt_cons (mk_U2 mk_a mk_a) (mt_cons (mk_U2 mk_a (mt_lst (mt_cons mk_wb (mt_cons mk_int mt_nil)) (by decide))) mt_nil)))
/-! ### a kind as a thing -/
theorem th_prs {K : PySem.W.Frag} {H : Hp} {rs : List Addr} {ks : List (Str × Int)} (h : Prs H rs ks) : (∀ q ∈ ks, isNm q.1 = true ∧ 0 ≤ q.2 ∧ q.2 ≤ 4) → ThAll K H (rs.map V.ref) (dPairs ks) := by
  induction h with
  | nil => exact fun _ => .nil
  | cons e _ ih =>
    intro g
    have n := (g _ List.mem_cons_self).1
    exact .cons (.tup e (.cons (.str (Nat.le_trans (nm_len n) (by decide)) fun c hc => sign_ok (nm_signs n c hc)) (.cons (.int _) .nil))) (ih fun q hq => g q (List.mem_cons_of_mem _ hq))
theorem th_kind {K : PySem.W.Frag} {H : Hp} {a : Addr} {ks : List (Str × Int)} (h : KindAt H a ks) (g : Right ks) : Th K H (.ref a) (dKind ks) := by
  obtain ⟨rs, e, pr⟩ := h
  exact .tup e (th_prs pr g.2.2)
theorem pairs_self : ∀ ks : List (Str × Int), (∀ q ∈ ks, isNm q.1 = true ∧ 0 ≤ q.2 ∧ q.2 ≤ 4) → allPairs (dPairs ks) = some ks
  | [], _ => rfl
  | p :: r, g => by
    have ih := pairs_self r fun q hq => g q (List.mem_cons_of_mem _ hq)
    obtain ⟨n, n0, n4⟩ := g p List.mem_cons_self
    have e : asPair (.tuple [.str p.1, .int p.2]) = some p := by
      unfold asPair
      simp only [n, decide_eq_true n0, decide_eq_true n4, Bool.and_self, if_true]
    show allPairs (PyData.tuple [.str p.1, .int p.2] :: dPairs r) = _
    rw [allPairs_cons, e, ih]
theorem kind_self {ks : List (Str × Int)} (g : Right ks) : kindB (dKind ks) = true := by
  have l : (dPairs ks).length = ks.length := List.length_map ..
  unfold dKind
  rw [kind_some (ds := dPairs ks) (ks := ks) (by rw [l]; exact g.1) (pairs_self ks g.2.2)]
  exact g.2.1
theorem kind_at {K : PySem.W.Frag} {H : Hp} {x : V} {d : PyData} (h : Th K H x d) (e : kindB d = true) : ∃ a ks, x = .ref a ∧ KindAt H a ks ∧ Right ks := by
  unfold kindB at e
  cases hd : asKind d with
  | none => rw [hd] at e; cases e
  | some ks =>
    unfold asKind at hd
    split at hd
    · rename_i ds
      split at hd
      · rename_i hl
        cases hp : allPairs ds with
        | none => rw [hp] at hd; cases hd
        | some ks' =>
          rw [hp] at hd
          dsimp only at hd
          split at hd
          · rename_i ho
            cases hd
            cases h with
            | tup ea t =>
              obtain ⟨rs, rfl, pr, all⟩ := prs_of t hp
              exact ⟨_, _, rfl, ⟨rs, ea, pr⟩, by rw [pairs_len hp]; exact hl, ho, all⟩
          · cases hd
      · cases hd
    · cases hd
theorem Prs.drew {p : Addr} {H H' : Hp} (d : Drew p H H') {rs : List Addr} {ks : List (Str × Int)} (h : Prs H rs ks) : Prs H' rs ks := by
  induction h with
  | nil => exact .nil
  | cons e _ ih => exact .cons (d.rd e) ih
theorem KindF.drew {p : Addr} {H H' : Hp} (d : Drew p H H') {a : Addr} {ks : List (Str × Int)} (h : KindF H a ks) : KindF H' a ks := by
  obtain ⟨rs, o, e, n, pr⟩ := h
  refine ⟨rs, o, d.1.1 _ _ e fun z => ?_, n, pr.drew d⟩
  obtain ⟨xs, ex⟩ := d.2.1
  rw [z, ex] at e
  cases e
end My

namespace My
open PySem PySem.Spec PyProof.Rows L2
section
variable {P : Program} {w : World} {K : PySem.W.Frag} {mg : Str → Option Value} {base : Heap}
theorem drew_same {p : Addr} {H H' H2 : Hp} (d : Drew p H H') (s : Same H' H2) : Drew p H H2 := by
  obtain ⟨b, h, ys, hy⟩ := d
  exact ⟨b.same s, h, ys, s _ _ hy⟩
theorem go_law {f f1 f2 f3 f4 f5 f6 : Addr} {fd fd1 fd2 fd3 fd4 fd5 fd6 : FuncData} (F : Fun K "law" "law" s_law f fd) (T : TxtI mg)
    (D1 : Def P w K mg base "_law_pot_of" s_law_pot_of ["script"] 1 (spPotOf K) f1 fd1) (D2 : Def P w K mg base "is_kind" s_is_kind ["thing"] 3 (spThing kindB K) f2 fd2) (D3 : Def P w K mg base "_law_is_right" s_law_is_right ["thing"] 3 (spThing kindB K) f3 fd3)
    (D4 : Def P w K mg base "_law_some_kind" s_law_some_kind ["pot"] 5 spKind f4 fd4) (D5 : Def P w K mg base "_law_told_right" s_law_told_right ["kind"] 3 spTold f5 fd5) (D6 : Def P w K mg base "_law_spoilt" s_law_spoilt ["pot", "kind"] 4 (spSpoilt K) f6 fd6) : FnG P w K mg base CX0 6 f fd ["script"] (spLaw K) := by
  have ⟨F__law_pot_of, b__law_pot_of, g__law_pot_of, G__law_pot_of⟩ := D1
  have ⟨F_is_kind, b_is_kind, g_is_kind, G_is_kind⟩ := D2
  have ⟨F__law_is_right, b__law_is_right, g__law_is_right, G__law_is_right⟩ := D3
  have ⟨F__law_some_kind, b__law_some_kind, g__law_some_kind, G__law_some_kind⟩ := D4
  have ⟨F__law_told_right, b__law_told_right, g__law_told_right, G__law_told_right⟩ := D5
  have ⟨F__law_spoilt, b__law_spoilt, g__law_spoilt, G__law_spoilt⟩ := D6
  refine go_nox (k := 5) F sc_law (fun vs H Q E h => ?_) (fun cdv A outer s H vs Q E hr quiet h => ?_)
  · obtain ⟨a, ns, rfl, _⟩ := h
    rfl
  · obtain ⟨a, ns, rfl, hS, hl, q⟩ := h
    refine ⟨_, (pss_cons (ps_set (i := 1) sc_law.nd rfl (.inl rfl) (pe_call G__law_pot_of (hr.mono (by omega)) (by rfl) g__law_pot_of F__law_pot_of.kp b__law_pot_of .nil pass0 (pa_cons (pv 0) pa_nil)))
  (pss_cons (ps_set (i := 2) sc_law.nd rfl (.inl rfl) (pe_cut (pe_lst (pa_cons pe_non (pa_cons (pe_tup pa_nil) (pa_cons (pe_lst pa_nil) (pa_cons pe_dnewK (pa_cons pe_str (pa_cons pe_int (pa_cons (pe_tup (pa_cons (pe_tup (pa_cons pe_str (pa_cons pe_int pa_nil))) pa_nil)) (pa_cons (pe_tup (pa_cons (pe_tup (pa_cons pe_str (pa_cons pe_int pa_nil))) pa_nil)) (pa_cons (pe_tup (pa_cons (pe_tup (pa_cons pe_str (pa_cons pe_int pa_nil))) (pa_cons (pe_tup (pa_cons pe_str (pa_cons pe_int pa_nil))) pa_nil))) (pa_cons (pe_tup (pa_cons (pe_tup (pa_cons pe_str (pa_cons pe_int pa_nil))) (pa_cons (pe_tup (pa_cons pe_str (pa_cons pe_int pa_nil))) pa_nil))) (pa_cons (pe_tup (pa_cons (pe_tup pa_nil) (pa_cons (pe_tup pa_nil) pa_nil))) pa_nil))))))))))))))
  (pss_cons (ps_for PassesOwn.never rfl (pi_list (pe_op op_cat (pv 2) (pe_cut (pe_lst (pa_cons (pe_tup (pa_cons (pe_tup (pa_cons pe_str (pa_cons pe_int pa_nil))) (pa_cons (pe_tup (pa_cons pe_str (pa_cons pe_int pa_nil))) pa_nil))) (pa_cons (pe_tup (pa_cons (pe_tup (pa_cons pe_str (pa_cons pe_int pa_nil))) (pa_cons (pe_tup (pa_cons pe_str (pa_cons pe_int pa_nil))) pa_nil))) (pa_cons (pe_tup (pa_cons (pe_tup (pa_cons pe_str (pa_cons pe_int pa_nil))) (pa_cons (pe_tup (pa_cons pe_str (pa_cons pe_int pa_nil))) pa_nil))) (pa_cons (pe_tup (pa_cons (pe_tup (pa_cons pe_str (pa_cons pe_int pa_nil))) (pa_cons (pe_lst (pa_cons pe_str (pa_cons pe_int pa_nil))) pa_nil))) pa_nil)))))))) (pg_name (i := 3) sc_law.nd rfl (.inl rfl))
   (pss_one (ps_if (pt_cmpR op_ne (pe_callB (call_repr quiet hr.units) (by rfl) T.n_repr (by decide +kernel) (pa_cons (pe_call G_is_kind (hr.mono (by omega)) (by rfl) g_is_kind F_is_kind.kp b_is_kind .nil pass0 (pa_cons (pv 3) pa_nil)) pa_nil)) (pe_callB (call_repr quiet hr.units) (by rfl) T.n_repr (by decide +kernel) (pa_cons (pe_call G__law_is_right (hr.mono (by omega)) (by rfl) g__law_is_right F__law_is_right.kp b__law_is_right .nil pass0 (pa_cons (pv 3) pa_nil)) pa_nil)) (nomark _))
   (pss_one (ps_ret pe_bl))
   pss_nil)))
  (pss_cons (ps_for PassesOwn.never rfl (pi_range1 (by rfl) T.n_range (pa_cons pe_int pa_nil)) (pg_name (i := 4) sc_law.nd rfl (.inl rfl))
   (pss_cons (ps_set (i := 5) sc_law.nd rfl (.inl rfl) (pe_call G__law_some_kind (hr.mono (by omega)) (by rfl) g__law_some_kind F__law_some_kind.kp b__law_some_kind .nil pass0 (pa_cons (pv 1) pa_nil)))
  (pss_cons (ps_set (i := 6) sc_law.nd rfl (.inl rfl) (pe_callB (call_repr quiet hr.units) (by rfl) T.n_repr (by decide +kernel) (pa_cons (pv 5) pa_nil)))
  (pss_cons (ps_if (PW.pt (pw_or (pt_cmpR op_isnot_bl (pe_call G_is_kind (hr.mono (by omega)) (by rfl) g_is_kind F_is_kind.kp b_is_kind .nil pass0 (pa_cons (pv 5) pa_nil)) pe_bl (nomark _)) (pw_or1 (pt_not (pt_val (pe_call G__law_told_right (hr.mono (by omega)) (by rfl) g__law_told_right F__law_told_right.kp b__law_told_right .nil pass0 (pa_cons (pv 5) pa_nil)))))))
   (pss_one (ps_ret pe_bl))
   pss_nil)
  (pss_cons (ps_for PassesOwn.never rfl (pi_range1 (by rfl) T.n_range (pa_cons pe_int pa_nil)) (pg_name (i := 7) sc_law.nd rfl (.inl rfl))
   (pss_cons (ps_set (i := 3) sc_law.nd rfl (.inl rfl) (pe_call G__law_spoilt (hr.mono (by omega)) (by rfl) g__law_spoilt F__law_spoilt.kp b__law_spoilt .nil pass0 (pa_cons (pv 1) (pa_cons (pv 5) pa_nil))))
  (C8.pss_cut (ps_set (i := 8) sc_law.nd rfl (.inl rfl) (pe_ifExp (pt_val (pe_call G__law_is_right (hr.mono (by omega)) (by rfl) g__law_is_right F__law_is_right.kp b__law_is_right .nil pass0 (pa_cons (pv 3) pa_nil))) (pe_call G__law_spoilt (hr.mono (by omega)) (by rfl) g__law_spoilt F__law_spoilt.kp b__law_spoilt .nil pass0 (pa_cons (pv 1) (pa_cons (pv 3) pa_nil))) (pv 3)))
  (pss_one (ps_for PassesOwn.never rfl (pi_tup (pe_tup (pa_cons (pv 3) (pa_cons (pv 8) pa_nil)))) (pg_name (i := 9) sc_law.nd rfl (.inl rfl))
   (pss_one (ps_if (pt_cmpR op_ne (pe_callB (call_repr quiet hr.units) (by rfl) T.n_repr (by decide +kernel) (pa_cons (pe_call G_is_kind (hr.mono (by omega)) (by rfl) g_is_kind F_is_kind.kp b_is_kind .nil pass0 (pa_cons (pv 9) pa_nil)) pa_nil)) (pe_callB (call_repr quiet hr.units) (by rfl) T.n_repr (by decide +kernel) (pa_cons (pe_call G__law_is_right (hr.mono (by omega)) (by rfl) g__law_is_right F__law_is_right.kp b__law_is_right .nil pass0 (pa_cons (pv 9) pa_nil)) pa_nil)) (nomark _))
   (pss_one (ps_ret pe_bl))
   pss_nil)))))))
  (pss_one (ps_if (pt_cmpR op_ne (pe_callB (call_repr quiet hr.units) (by rfl) T.n_repr (by decide +kernel) (pa_cons (pv 5) pa_nil)) (pv 6) (nomark _))
   (pss_one (ps_ret pe_bl))
   pss_nil)))))))
  (pss_one (ps_ret pe_bl)))))), ?_⟩
    clear G__law_pot_of G_is_kind G__law_is_right G__law_some_kind G__law_told_right G__law_spoilt D1 D2 D3 D4 D5 D6 F__law_pot_of F_is_kind F__law_is_right F__law_some_kind F__law_told_right F__law_spoilt b__law_pot_of b_is_kind b__law_is_right b__law_some_kind b__law_told_right b__law_spoilt
    -- pot
    refine ⟨_, rfl, a, ns, rfl, hS, hl, fun p c H1 s1 np nc hP1 => ?_⟩
    clear hS s1
    -- odd
    refine ⟨fun v H2 => ∃ l vs, v = .ref l ∧ Same H1 H2 ∧ TgL K H2 vs ∧ vs.length = 11 ∧ H2 l = some (.lst vs), mkL (K := K) (ta := oddA) (n := 11) mkA (by decide) fun l vs H2 s2 t2 l2 e2 => ⟨l, vs, rfl, s2, t2, l2, e2⟩, ?_⟩
    rintro _ H2 ⟨l, vs, rfl, s2, t2, l2, e2⟩
    have hP2 := hP1.same s2
    clear hP1 s2
    -- odd + [..]
    refine ⟨_, rfl, ?_⟩
    refine ⟨fun v H3 => ∃ l vs, v = .ref l ∧ Same H2 H3 ∧ TgL K H3 vs ∧ vs.length = 4 ∧ H3 l = some (.lst vs), mkL (K := K) (ta := oddB) (n := 4) mkB (by decide) fun l vs H2 s2 t2 l2 e2 => ⟨l, vs, rfl, s2, t2, l2, e2⟩, ?_⟩
    rintro _ H3 ⟨l3, vs3, rfl, s3, t3, l3l, e3⟩
    have hP3 := hP2.same s3
    have e2' := s3 _ _ e2
    have t2' := t2.same s3
    clear hP2 t2 s3 e2
    refine ⟨l, l3, vs, vs3, rfl, rfl, e2', e3, fits_few (by omega), fun m nm => ?_⟩
    have sm : Same H3 (upd H3 m (.lst (vs ++ vs3))) := same_upd nm
    have hm : (upd H3 m (.lst (vs ++ vs3))) m = some (.lst (vs ++ vs3)) := upd_same
    generalize upd H3 m (.lst (vs ++ vs3)) = H4 at sm hm ⊢
    have hP4 := hP3.same sm
    have t4 : TgL K H4 (vs ++ vs3) := (t2'.app t3).same sm
    refine ⟨m, rfl, ⟨_, .inl (.inl hm)⟩, ?_⟩
    refine for_it (walk_list (xs := vs ++ vs3)) (fun i σ H5 => Same H4 H5 ∧ ∃ v3 : Option V, σ = [some (.ref a), some (.ref p), some (.ref l), v3, none, none, none, none, none, none]) ⟨same_rfl H4, none, rfl⟩ (fun i σ H5 _ h => .inl (.inl (h.1 _ _ hm))) ?_ ?_
    · rintro i x σ H5 H6 hi ⟨s5, v3, rfl⟩ ⟨rfl, ex⟩
      obtain ⟨d, hx⟩ := (t4 x (List.mem_of_getElem? ex)).same s5
      refine ⟨_, rfl, thing_of hx fun H7 s7 => ?_⟩
      refine rp_bl ?_
      refine ⟨_, rfl, thing_of (hx.same s7) fun H8 s8 => ?_⟩
      refine rp_bl ?_
      refine ⟨rfl, false, ne_self _, iteF ?_⟩
      exact ⟨(s5.trans s7).trans s8, _, rfl⟩
    · rintro σ H5 ⟨s5, v3, rfl⟩
      have hP5 := hP4.same s5
      clear hP4 hP3 t4 t3 t2' hm sm s5 e3 e2'
      -- for turn in range(8)
      refine ⟨8, rfl, by decide, by decide, for_range (n := 8) (fun i σ H6 => Pot H6 p c ∧ ∃ u3 u4 u5 u6 u7 u8 u9 : Option V, σ = [some (.ref a), some (.ref p), some (.ref l), u3, u4, u5, u6, u7, u8, u9]) ⟨hP5, _, _, _, _, _, _, _, rfl⟩ ?_ ?_⟩
      · rintro i σ H6 hi ⟨hP6, u3, u4, u5, u6, u7, u8, u9, rfl⟩
        -- kind
        refine ⟨_, rfl, p, c, rfl, hP6, fun ka ks H7 b7 hP7 nk hk hR => ?_⟩
        -- before
        refine ⟨_, rfl, rp_kind hk.at hR ?_⟩
        -- is_kind(kind) is not True
        refine ⟨_, rfl, thing_of (th_kind hk.at hR) fun H8 s8 => ?_⟩
        rw [kind_self hR]
        refine ⟨true, true, rfl, rfl, false, rfl, iteF ?_⟩
        have hk8 := hk.same s8
        have hP8 := hP7.same s8
        -- told
        refine ⟨_, rfl, ⟨ka, ks, rfl, hk8, hR, fun H9 s9 => ?_⟩⟩
        refine ⟨true, rfl, ?_⟩
        refine iteF ?_
        have hk9 := hk8.same s9
        have hP9 := hP8.same s9
        clear hk hk8 hP7 hP8 s8 s9 b7
        -- for lap in range(4)
        refine ⟨4, rfl, by decide, by decide, for_range (n := 4) (fun i σ H10 => (Pot H10 p c ∧ KindF H10 ka ks) ∧ ∃ w3 w4 w7 w8 w9 : Option V, σ = [some (.ref a), some (.ref p), some (.ref l), w3, w4, some (.ref ka), some (.str (dKind ks).shown), w7, w8, w9]) ⟨⟨hP9, hk9⟩, _, _, _, _, _, rfl⟩ ?_ ?_⟩
        · rintro j σ H10 hj ⟨⟨hP10, hk10⟩, w3, w4, w7, w8, w9, rfl⟩
          -- thing
          refine ⟨_, rfl, _, rfl, ⟨p, c, ka, ks, rfl, hP10, hk10.at, hR, fun x H11 b11 hP11 tx => ?_⟩⟩
          have hk11 := hk10.drew (drew_of b11 hP10 hP11)
          -- again
          refine ⟨fun σ H12 => ((Pot H12 p c ∧ KindF H12 ka ks) ∧ Tg K H12 x) ∧ ∃ y, Tg K H12 y ∧ ∃ w4 w7 w9 : Option V, σ = [some (.ref a), some (.ref p), some (.ref l), some x, w4, some (.ref ka), some (.str (dKind ks).shown), w7, some y, w9], ?_, ?_⟩
          · obtain ⟨d, hx⟩ := tx
            refine ⟨_, rfl, thing_of hx fun H12 s12 => ?_⟩
            refine ⟨kindB d, rfl, ?_⟩
            have hP12 := hP11.same s12
            have hk12 := hk11.same s12
            have hx12 := hx.same s12
            cases hd : kindB d with
            | false =>
              refine iteF ?_
              exact ⟨_, rfl, ⟨⟨hP12, hk12⟩, d, hx12⟩, x, ⟨d, hx12⟩, _, _, _, rfl⟩
            | true =>
              refine iteT ?_
              obtain ⟨a', ks', rfl, ka', R'⟩ := kind_at hx12 hd
              refine ⟨_, rfl, _, rfl, ⟨p, c, a', ks', rfl, hP12, ka', R', fun y H13 b13 hP13 ty => ?_⟩⟩
              have dr := drew_of b13 hP12 hP13
              exact ⟨⟨⟨hP13, hk12.drew dr⟩, d, hx12.drew dr⟩, y, ty, _, _, _, rfl⟩
          · rintro σ H12 ⟨⟨⟨hP12, hk12⟩, tx12⟩, y, ty, z4, z7, z9, rfl⟩
            refine ⟨_, rfl, _, rfl, fits_few (by show 2 ≤ 100; decide), fun t nt => ?_⟩
            have st : Same H12 (upd H12 t (.tup [x, y])) := same_upd nt
            have ht : (upd H12 t (.tup [x, y])) t = some (.tup [x, y]) := upd_same
            generalize upd H12 t (.tup [x, y]) = H13 at st ht ⊢
            refine ⟨t, rfl, ⟨_, .inl (.inl ht)⟩, ?_⟩
            refine for_it (walk_tup (xs := [x, y])) (fun i σ H14 => Same H13 H14 ∧ ∃ z9 : Option V, σ = [some (.ref a), some (.ref p), some (.ref l), some x, z4, some (.ref ka), some (.str (dKind ks).shown), z7, some y, z9]) ⟨same_rfl H13, _, rfl⟩ (fun i σ H5 _ h => .inl (.inl (h.1 _ _ ht))) ?_ ?_
            · rintro i o σ H14 H15 hi ⟨s14, z9, rfl⟩ ⟨rfl, ex⟩
              have to : Tg K H15 o := by
                have m : o ∈ [x, y] := List.mem_of_getElem? ex
                simp only [List.mem_cons, List.not_mem_nil, or_false] at m
                rcases m with rfl | rfl
                · exact tx12.same (st.trans s14)
                · exact ty.same (st.trans s14)
              obtain ⟨d, hx⟩ := to
              refine ⟨_, rfl, thing_of hx fun H7 s7 => ?_⟩
              refine rp_bl ?_
              refine ⟨_, rfl, thing_of (hx.same s7) fun H8 s8 => ?_⟩
              refine rp_bl ?_
              refine ⟨rfl, false, ne_self _, iteF ?_⟩
              exact ⟨(s14.trans s7).trans s8, _, rfl⟩
            · rintro σ H14 ⟨s14, z9, rfl⟩
              exact ⟨⟨hP12.same (st.trans s14), hk12.same (st.trans s14)⟩, _, _, _, _, _, rfl⟩
        · rintro σ H10 ⟨⟨hP10, hk10⟩, w3, w4, w7, w8, w9, rfl⟩
          refine ⟨_, rfl, rp_kind hk10.at hR ?_⟩
          refine ⟨_, rfl, rfl, false, ne_self _, iteF ?_⟩
          exact ⟨hP10, _, _, _, _, _, _, _, rfl⟩
      · rintro σ H6 ⟨hP6, u3, u4, u5, u6, u7, u8, u9, rfl⟩
        exact q H6
end
end My

namespace My
open PySem PySem.Spec PyProof.Rows L2
/-! ### the facts of the text -/
section
variable {P : Program} {w : World} {K : PySem.W.Frag} {mg : Str → Option Value} {base : Heap}
/-- a def as the top has written it -/
structure DefK (K : PySem.W.Frag) (mg : Str → Option Value) (x : Str) (st : Stmt) (f : Addr) (fd : FuncData) : Prop where
  g : mg x = some (.ref f)
  F : Fun K x x st f fd
theorem def_mk {h : Heap} {x : Str} {st : Stmt} {f : Addr} {oc : Value} {od an : Option Addr} {osl : Array (Option Value)} {kV doc pm cdv ct : Value} (X : K.In h) (G : h.Ns mainGlobals mg) (g : PySem.W.nsIn K mainGlobals x = some (some (.ref f)))
    (l : K.lookup f = some ⟨oc, od, .func (PySem.W.fnOf x x (defArgs st) (defBody st) (defScope st) .none kV doc pm an cdv ct), osl⟩) (c : PySem.W.codeIn K cdv x = true) (k : PySem.W.keepIn K (.ref f) = true) : DefK K mg x st f (PySem.W.fnOf x x (defArgs st) (defBody st) (defScope st) .none kV doc pm an cdv ct) := ⟨PySem.W.mg_of X G g, fun_mk l c k⟩
theorem all_mk {h : Heap} {f_law_kneaded f_law_pot_of f_law_below f_law_pick f_is_name f_is_integer f_is_variant f_tags_of f_is_kind f_polynomial f_difference f_parts_of f_law_is_named f_law_is_variant f_law_is_right f_law_some_names f_law_some_kind f_law_told_right f_law_spoilt f_law : Addr} {fd_law_kneaded fd_law_pot_of fd_law_below fd_law_pick fd_is_name fd_is_integer fd_is_variant fd_tags_of fd_is_kind fd_polynomial fd_difference fd_parts_of fd_law_is_named fd_law_is_variant fd_law_is_right fd_law_some_names fd_law_some_kind fd_law_told_right fd_law_spoilt fd_law : FuncData} {tL tD tN tF tM tP : Tok} {fa : Addr} (X : K.In h) (G : h.Ns mainGlobals mg) (hfa : mg "law" = some (.ref fa))
    (d_law_kneaded : DefK K mg "_law_kneaded" s_law_kneaded f_law_kneaded fd_law_kneaded)
    (d_law_pot_of : DefK K mg "_law_pot_of" s_law_pot_of f_law_pot_of fd_law_pot_of)
    (d_law_below : DefK K mg "_law_below" s_law_below f_law_below fd_law_below)
    (d_law_pick : DefK K mg "_law_pick" s_law_pick f_law_pick fd_law_pick)
    (d_is_name : DefK K mg "is_name" s_is_name f_is_name fd_is_name)
    (d_is_integer : DefK K mg "is_integer" s_is_integer f_is_integer fd_is_integer)
    (d_is_variant : DefK K mg "is_variant" s_is_variant f_is_variant fd_is_variant)
    (d_tags_of : DefK K mg "tags_of" s_tags_of f_tags_of fd_tags_of)
    (d_is_kind : DefK K mg "is_kind" s_is_kind f_is_kind fd_is_kind)
    (d_polynomial : DefK K mg "polynomial" s_polynomial f_polynomial fd_polynomial)
    (d_difference : DefK K mg "difference" s_difference f_difference fd_difference)
    (d_parts_of : DefK K mg "parts_of" s_parts_of f_parts_of fd_parts_of)
    (d_law_is_named : DefK K mg "_law_is_named" s_law_is_named f_law_is_named fd_law_is_named)
    (d_law_is_variant : DefK K mg "_law_is_variant" s_law_is_variant f_law_is_variant fd_law_is_variant)
    (d_law_is_right : DefK K mg "_law_is_right" s_law_is_right f_law_is_right fd_law_is_right)
    (d_law_some_names : DefK K mg "_law_some_names" s_law_some_names f_law_some_names fd_law_some_names)
    (d_law_some_kind : DefK K mg "_law_some_kind" s_law_some_kind f_law_some_kind fd_law_some_kind)
    (d_law_told_right : DefK K mg "_law_told_right" s_law_told_right f_law_told_right fd_law_told_right)
    (d_law_spoilt : DefK K mg "_law_spoilt" s_law_spoilt f_law_spoilt fd_law_spoilt)
    (d_law : DefK K mg "law" s_law f_law fd_law)
    (b_law_kneaded : Binds K fd_law_kneaded ["seed", "lap"] [])
    (b_law_pot_of : Binds K fd_law_pot_of ["script"] [])
    (b_law_below : Binds K fd_law_below ["pot", "bound"] [])
    (b_law_pick : Binds K fd_law_pick ["pot", "items"] [])
    (b_is_name : Binds K fd_is_name ["thing"] [])
    (b_is_integer : Binds K fd_is_integer ["thing"] [])
    (b_is_variant : Binds K fd_is_variant ["thing"] [])
    (b_tags_of : Binds K fd_tags_of ["kind"] [])
    (b_is_kind : Binds K fd_is_kind ["thing"] [])
    (b_polynomial : Binds K fd_polynomial ["kind"] [])
    (b_difference : Binds K fd_difference ["kind"] [])
    (b_parts_of : Binds K fd_parts_of ["kind", "tag"] [])
    (b_law_is_named : Binds K fd_law_is_named ["word"] [])
    (b_law_is_variant : Binds K fd_law_is_variant ["thing"] [])
    (b_law_is_right : Binds K fd_law_is_right ["thing"] [])
    (b_law_some_names : Binds K fd_law_some_names ["pot", "many"] [])
    (b_law_some_kind : Binds K fd_law_some_kind ["pot"] [])
    (b_law_told_right : Binds K fd_law_told_right ["kind"] [])
    (b_law_spoilt : Binds K fd_law_spoilt ["pot", "kind"] [])
    (b_law : Binds K fd_law ["script"] [])
    (n_int : PySem.W.nsIn K mainGlobals "int" = some none)
    (n_range : PySem.W.nsIn K mainGlobals "range" = some none)
    (n_abs : PySem.W.nsIn K mainGlobals "abs" = some none)
    (n_enumerate : PySem.W.nsIn K mainGlobals "enumerate" = some none)
    (n_len : PySem.W.nsIn K mainGlobals "len" = some none)
    (n_isinstance : PySem.W.nsIn K mainGlobals "isinstance" = some none)
    (n_str : PySem.W.nsIn K mainGlobals "str" = some none)
    (n_bool : PySem.W.nsIn K mainGlobals "bool" = some none)
    (n_all : PySem.W.nsIn K mainGlobals "all" = some none)
    (n_tuple : PySem.W.nsIn K mainGlobals "tuple" = some none)
    (n_set : PySem.W.nsIn K mainGlobals "set" = some none)
    (n_any : PySem.W.nsIn K mainGlobals "any" = some none)
    (n_list : PySem.W.nsIn K mainGlobals "list" = some none)
    (n_zip : PySem.W.nsIn K mainGlobals "zip" = some none)
    (n_dict : PySem.W.nsIn K mainGlobals "dict" = some none)
    (n_max : PySem.W.nsIn K mainGlobals "max" = some none)
    (n_min : PySem.W.nsIn K mainGlobals "min" = some none)
    (n_repr : PySem.W.nsIn K mainGlobals "repr" = some none)
    (g_LETTERS : PySem.W.nsIn K mainGlobals "LETTERS" = some (some (.str c_LETTERS tL)))
    (g_DIGITS : PySem.W.nsIn K mainGlobals "DIGITS" = some (some (.str c_DIGITS tD)))
    (g_LONGEST_NAME : PySem.W.nsIn K mainGlobals "LONGEST_NAME" = some (some (.int 8 tN)))
    (g_FEWEST_VARIANTS : PySem.W.nsIn K mainGlobals "FEWEST_VARIANTS" = some (some (.int 2 tF)))
    (g_MOST_VARIANTS : PySem.W.nsIn K mainGlobals "MOST_VARIANTS" = some (some (.int 8 tM)))
    (g_MOST_PARTS : PySem.W.nsIn K mainGlobals "MOST_PARTS" = some (some (.int 4 tP)))
    (bindL : ∀ (s : Shared) (v : Value), BindsTo s fd_law ⟨[v], []⟩ [("script", v)]) :
    ∃ fd : FuncData, (∀ (s : Shared) (v : Value), BindsTo s fd ⟨[v], []⟩ [("script", v)]) ∧ ∀ base : Heap, K.In base → base.Ns mainGlobals mg → FnG P w K mg base CX0 6 fa fd ["script"] (spLaw K) := by
  have e := hfa.symm.trans d_law.g
  cases e
  refine ⟨fd_law, bindL, fun base _ _ => ?_⟩
  have TD : TxtD mg := { n_int := PySem.W.mg_none_of X G n_int, n_range := PySem.W.mg_none_of X G n_range, n_abs := PySem.W.mg_none_of X G n_abs, n_enumerate := PySem.W.mg_none_of X G n_enumerate, n_len := PySem.W.mg_none_of X G n_len }
  have TN : TxtN mg tL tD tN := { n_isinstance := PySem.W.mg_none_of X G n_isinstance, n_str := PySem.W.mg_none_of X G n_str, n_int := PySem.W.mg_none_of X G n_int, n_bool := PySem.W.mg_none_of X G n_bool, n_len := PySem.W.mg_none_of X G n_len, n_all := PySem.W.mg_none_of X G n_all, g_LETTERS := PySem.W.mg_of X G g_LETTERS, g_DIGITS := PySem.W.mg_of X G g_DIGITS, g_LONGEST_NAME := PySem.W.mg_of X G g_LONGEST_NAME }
  have TK : TxtK mg tF tM tP := { n_isinstance := PySem.W.mg_none_of X G n_isinstance, n_tuple := PySem.W.mg_none_of X G n_tuple, n_len := PySem.W.mg_none_of X G n_len, n_set := PySem.W.mg_none_of X G n_set, n_all := PySem.W.mg_none_of X G n_all, n_any := PySem.W.mg_none_of X G n_any, n_str := PySem.W.mg_none_of X G n_str, n_int := PySem.W.mg_none_of X G n_int, n_bool := PySem.W.mg_none_of X G n_bool, g_FEWEST_VARIANTS := PySem.W.mg_of X G g_FEWEST_VARIANTS, g_MOST_VARIANTS := PySem.W.mg_of X G g_MOST_VARIANTS, g_MOST_PARTS := PySem.W.mg_of X G g_MOST_PARTS }
  have TP : TxtP mg tP := { n_range := PySem.W.mg_none_of X G n_range, n_tuple := PySem.W.mg_none_of X G n_tuple, g_MOST_PARTS := PySem.W.mg_of X G g_MOST_PARTS }
  have TM : TxtM mg := { n_list := PySem.W.mg_none_of X G n_list, n_range := PySem.W.mg_none_of X G n_range, n_len := PySem.W.mg_none_of X G n_len, n_tuple := PySem.W.mg_none_of X G n_tuple, n_zip := PySem.W.mg_none_of X G n_zip }
  have TG : TxtG mg := { n_dict := PySem.W.mg_none_of X G n_dict }
  have TR : TxtR mg := { n_isinstance := PySem.W.mg_none_of X G n_isinstance, n_tuple := PySem.W.mg_none_of X G n_tuple, n_len := PySem.W.mg_none_of X G n_len, n_max := PySem.W.mg_none_of X G n_max, n_range := PySem.W.mg_none_of X G n_range, n_list := PySem.W.mg_none_of X G n_list }
  have TS : TxtS mg := { n_len := PySem.W.mg_none_of X G n_len, n_list := PySem.W.mg_none_of X G n_list, n_tuple := PySem.W.mg_none_of X G n_tuple, n_min := PySem.W.mg_none_of X G n_min }
  have TI : TxtI mg := { n_repr := PySem.W.mg_none_of X G n_repr, n_range := PySem.W.mg_none_of X G n_range }
  have G_law_kneaded := ok_kneaded (P := P) (w := w) (base := base) (k := 0) d_law_kneaded.F TD
  have G_law_pot_of := ok_pot_of (P := P) (w := w) (base := base) (k := 0) d_law_pot_of.F TD
  have G_law_below := ok_below (P := P) (w := w) (base := base) (k := 0) d_law_below.F TD d_law_kneaded.F b_law_kneaded d_law_kneaded.g
  have G_law_pick := ok_pick (P := P) (w := w) (base := base) (k := 0) d_law_pick.F TD d_law_below.F b_law_below d_law_below.g G_law_below
  have G_is_name := ok_is_name (P := P) (w := w) (base := base) (k := 0) d_is_name.F TN
  have G_is_integer := ok_is_integer (P := P) (w := w) (base := base) (k := 0) d_is_integer.F TN
  have G_is_variant := ok_is_variant (P := P) (w := w) (base := base) (k := 0) d_is_variant.F TK d_is_name.F b_is_name d_is_name.g G_is_name d_is_integer.F b_is_integer d_is_integer.g G_is_integer
  have G_tags_of := ok_tags_of (P := P) (w := w) (mg := mg) (base := base) (k := 0) d_tags_of.F
  have G_is_kind := ok_is_kind (P := P) (w := w) (base := base) (k := 0) d_is_kind.F TK d_is_variant.F b_is_variant d_is_variant.g G_is_variant d_tags_of.F b_tags_of d_tags_of.g G_tags_of
  have G_polynomial := ok_polynomial (P := P) (w := w) (base := base) (k := 0) d_polynomial.F TP
  have G_difference := ok_difference (P := P) (w := w) (base := base) (k := 0) d_difference.F d_polynomial.F b_polynomial d_polynomial.g G_polynomial
  have G_parts_of := ok_parts_of (P := P) (w := w) (base := base) (k := 0) d_parts_of.F TG
  have G_law_is_named := ok_is_named (P := P) (w := w) (base := base) (k := 0) d_law_is_named.F TN
  have G_law_is_variant := ok_law_variant (P := P) (w := w) (base := base) (k := 0) d_law_is_variant.F TK d_law_is_named.F b_law_is_named d_law_is_named.g G_law_is_named
  have G_law_is_right := ok_is_right (P := P) (w := w) (base := base) (k := 0) d_law_is_right.F TK d_law_is_variant.F b_law_is_variant d_law_is_variant.g G_law_is_variant
  have G_law_some_names := ok_some_names (P := P) (w := w) (base := base) (k := 0) d_law_some_names.F TM d_law_below.F b_law_below d_law_below.g G_law_below d_law_pick.F b_law_pick d_law_pick.g G_law_pick
  have G_law_some_kind := ok_some_kind (P := P) (w := w) (base := base) (k := 0) d_law_some_kind.F TM d_law_below.F b_law_below d_law_below.g G_law_below d_law_pick.F b_law_pick d_law_pick.g G_law_pick d_law_some_names.F b_law_some_names d_law_some_names.g G_law_some_names
  have G_law_told_right := ok_told (P := P) (w := w) (base := base) (k := 0) d_law_told_right.F TR d_polynomial.F b_polynomial d_polynomial.g G_polynomial d_difference.F b_difference d_difference.g G_difference d_tags_of.F b_tags_of d_tags_of.g G_tags_of d_parts_of.F b_parts_of d_parts_of.g G_parts_of
  have G_law_spoilt := ok_spoilt (P := P) (w := w) (base := base) (k := 0) d_law_spoilt.F TS d_law_below.F b_law_below d_law_below.g G_law_below d_law_pick.F b_law_pick d_law_pick.g G_law_pick
  exact go_law d_law.F TI ⟨d_law_pot_of.F, b_law_pot_of, d_law_pot_of.g, G_law_pot_of⟩ ⟨d_is_kind.F, b_is_kind, d_is_kind.g, G_is_kind⟩ ⟨d_law_is_right.F, b_law_is_right, d_law_is_right.g, G_law_is_right⟩ ⟨d_law_some_kind.F, b_law_some_kind, d_law_some_kind.g, G_law_some_kind⟩ ⟨d_law_told_right.F, b_law_told_right, d_law_told_right.g, G_law_told_right⟩ ⟨d_law_spoilt.F, b_law_spoilt, d_law_spoilt.g, G_law_spoilt⟩
end
end My

open PySem PySem.W PyProof.Rows
theorem PySem.Challenge.cw_layoutswap_k02_kinds_holds : PySem.Challenge.rw_layoutswap_k02_kinds.Holds := by
  w_on; o_law; k_head; (case hw => w_witness2)
  k_fill
  refine My.walk_ofG (l := PySem.Challenge.rw_layoutswap_k02_kinds) (n := 63) (k := 6) (x := "script") (sp := My.spLaw) rfl (by decide) rfl ⟨rfl, by decide, by decide⟩ (fun w h Y => PySem.W.kIn_of Y) ?F (fun K H a ns hl hS => ⟨a, ns, rfl, hS, Nat.le_trans hl (by decide), fun _ => rfl⟩)
  case F =>
    intro w mg fa h KX G hmg
    refine' My.all_mk KX G hmg ?d_law_kneaded ?d_law_pot_of ?d_law_below ?d_law_pick ?d_is_name ?d_is_integer ?d_is_variant ?d_tags_of ?d_is_kind ?d_polynomial ?d_difference ?d_parts_of ?d_law_is_named ?d_law_is_variant ?d_law_is_right ?d_law_some_names ?d_law_some_kind ?d_law_told_right ?d_law_spoilt ?d_law ?b_law_kneaded ?b_law_pot_of ?b_law_below ?b_law_pick ?b_is_name ?b_is_integer ?b_is_variant ?b_tags_of ?b_is_kind ?b_polynomial ?b_difference ?b_parts_of ?b_law_is_named ?b_law_is_variant ?b_law_is_right ?b_law_some_names ?b_law_some_kind ?b_law_told_right ?b_law_spoilt ?b_law ?n_int ?n_range ?n_abs ?n_enumerate ?n_len ?n_isinstance ?n_str ?n_bool ?n_all ?n_tuple ?n_set ?n_any ?n_list ?n_zip ?n_dict ?n_max ?n_min ?n_repr ?g_LETTERS ?g_DIGITS ?g_LONGEST_NAME ?g_FEWEST_VARIANTS ?g_MOST_VARIANTS ?g_MOST_PARTS ?bindL
    (case d_law_kneaded => (refine' My.def_mk KX G ?zzg ?zzl ?zzc ?zzk; (case zzg => k_is); (case zzl => k_is); (case zzc => k_is); (case zzk => k_is)))
    (case d_law_pot_of => (refine' My.def_mk KX G ?zzg ?zzl ?zzc ?zzk; (case zzg => k_is); (case zzl => k_is); (case zzc => k_is); (case zzk => k_is)))
    (case d_law_below => (refine' My.def_mk KX G ?zzg ?zzl ?zzc ?zzk; (case zzg => k_is); (case zzl => k_is); (case zzc => k_is); (case zzk => k_is)))
    (case d_law_pick => (refine' My.def_mk KX G ?zzg ?zzl ?zzc ?zzk; (case zzg => k_is); (case zzl => k_is); (case zzc => k_is); (case zzk => k_is)))
    (case d_is_name => (refine' My.def_mk KX G ?zzg ?zzl ?zzc ?zzk; (case zzg => k_is); (case zzl => k_is); (case zzc => k_is); (case zzk => k_is)))
    (case d_is_integer => (refine' My.def_mk KX G ?zzg ?zzl ?zzc ?zzk; (case zzg => k_is); (case zzl => k_is); (case zzc => k_is); (case zzk => k_is)))
    (case d_is_variant => (refine' My.def_mk KX G ?zzg ?zzl ?zzc ?zzk; (case zzg => k_is); (case zzl => k_is); (case zzc => k_is); (case zzk => k_is)))
    (case d_tags_of => (refine' My.def_mk KX G ?zzg ?zzl ?zzc ?zzk; (case zzg => k_is); (case zzl => k_is); (case zzc => k_is); (case zzk => k_is)))
    (case d_is_kind => (refine' My.def_mk KX G ?zzg ?zzl ?zzc ?zzk; (case zzg => k_is); (case zzl => k_is); (case zzc => k_is); (case zzk => k_is)))
    (case d_polynomial => (refine' My.def_mk KX G ?zzg ?zzl ?zzc ?zzk; (case zzg => k_is); (case zzl => k_is); (case zzc => k_is); (case zzk => k_is)))
    (case d_difference => (refine' My.def_mk KX G ?zzg ?zzl ?zzc ?zzk; (case zzg => k_is); (case zzl => k_is); (case zzc => k_is); (case zzk => k_is)))
    (case d_parts_of => (refine' My.def_mk KX G ?zzg ?zzl ?zzc ?zzk; (case zzg => k_is); (case zzl => k_is); (case zzc => k_is); (case zzk => k_is)))
    (case d_law_is_named => (refine' My.def_mk KX G ?zzg ?zzl ?zzc ?zzk; (case zzg => k_is); (case zzl => k_is); (case zzc => k_is); (case zzk => k_is)))
    (case d_law_is_variant => (refine' My.def_mk KX G ?zzg ?zzl ?zzc ?zzk; (case zzg => k_is); (case zzl => k_is); (case zzc => k_is); (case zzk => k_is)))
    (case d_law_is_right => (refine' My.def_mk KX G ?zzg ?zzl ?zzc ?zzk; (case zzg => k_is); (case zzl => k_is); (case zzc => k_is); (case zzk => k_is)))
    (case d_law_some_names => (refine' My.def_mk KX G ?zzg ?zzl ?zzc ?zzk; (case zzg => k_is); (case zzl => k_is); (case zzc => k_is); (case zzk => k_is)))
    (case d_law_some_kind => (refine' My.def_mk KX G ?zzg ?zzl ?zzc ?zzk; (case zzg => k_is); (case zzl => k_is); (case zzc => k_is); (case zzk => k_is)))
    (case d_law_told_right => (refine' My.def_mk KX G ?zzg ?zzl ?zzc ?zzk; (case zzg => k_is); (case zzl => k_is); (case zzc => k_is); (case zzk => k_is)))
    (case d_law_spoilt => (refine' My.def_mk KX G ?zzg ?zzl ?zzc ?zzk; (case zzg => k_is); (case zzl => k_is); (case zzc => k_is); (case zzk => k_is)))
    (case d_law => (refine' My.def_mk KX G ?zzg ?zzl ?zzc ?zzk; (case zzg => k_is); (case zzl => k_is); (case zzc => k_is); (case zzk => k_is)))
    (case b_law_kneaded => exact .all fun us hl => match us, hl with | [_, _], _ => rfl)
    (case b_law_pot_of => exact .all fun us hl => match us, hl with | [_], _ => rfl)
    (case b_law_below => exact .all fun us hl => match us, hl with | [_, _], _ => rfl)
    (case b_law_pick => exact .all fun us hl => match us, hl with | [_, _], _ => rfl)
    (case b_is_name => exact .all fun us hl => match us, hl with | [_], _ => rfl)
    (case b_is_integer => exact .all fun us hl => match us, hl with | [_], _ => rfl)
    (case b_is_variant => exact .all fun us hl => match us, hl with | [_], _ => rfl)
    (case b_tags_of => exact .all fun us hl => match us, hl with | [_], _ => rfl)
    (case b_is_kind => exact .all fun us hl => match us, hl with | [_], _ => rfl)
    (case b_polynomial => exact .all fun us hl => match us, hl with | [_], _ => rfl)
    (case b_difference => exact .all fun us hl => match us, hl with | [_], _ => rfl)
    (case b_parts_of => exact .all fun us hl => match us, hl with | [_, _], _ => rfl)
    (case b_law_is_named => exact .all fun us hl => match us, hl with | [_], _ => rfl)
    (case b_law_is_variant => exact .all fun us hl => match us, hl with | [_], _ => rfl)
    (case b_law_is_right => exact .all fun us hl => match us, hl with | [_], _ => rfl)
    (case b_law_some_names => exact .all fun us hl => match us, hl with | [_, _], _ => rfl)
    (case b_law_some_kind => exact .all fun us hl => match us, hl with | [_], _ => rfl)
    (case b_law_told_right => exact .all fun us hl => match us, hl with | [_], _ => rfl)
    (case b_law_spoilt => exact .all fun us hl => match us, hl with | [_, _], _ => rfl)
    (case b_law => exact .all fun us hl => match us, hl with | [_], _ => rfl)
    (case n_int => k_is); (case n_range => k_is); (case n_abs => k_is); (case n_enumerate => k_is); (case n_len => k_is); (case n_isinstance => k_is); (case n_str => k_is); (case n_bool => k_is); (case n_all => k_is); (case n_tuple => k_is); (case n_set => k_is); (case n_any => k_is); (case n_list => k_is); (case n_zip => k_is); (case n_dict => k_is); (case n_max => k_is); (case n_min => k_is); (case n_repr => k_is)
    (case g_LETTERS => k_is); (case g_DIGITS => k_is); (case g_LONGEST_NAME => k_is); (case g_FEWEST_VARIANTS => k_is); (case g_MOST_VARIANTS => k_is); (case g_MOST_PARTS => k_is)
    (case bindL => exact fun s v => .of_eq rfl)
