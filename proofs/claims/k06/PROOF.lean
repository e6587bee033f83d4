import PyProof.Rows.All
import Wide.All
import OpenK.AllK
import Wide.FinOn
import HandS.ForMost
import HandS.Walk
import HandS.IsInst
import HandS.Codes
import HandS.Exc
import HandS.ExcInit
import HandS.ExcIs
import HandS.ExcOwn
import HandS.ExcValue
import HandS.FStr
import KE.KExcSuper
import HandS.TryMany
import HandS.Strs
import HandS.Dict
import KE.KDictPairs
import HandS.Style
import HandS.TupAny
import KE.KRevSl
import HandS.TupMul
import HandS.Deep
import PyProof.StrLawsRepr
import HandS.ForExc
import HandS.WordsExc
import HandS.ExcField
import HandS.TupLe
import PySem.Challenge.RW_layoutswap_k06_layouts_refused
set_option Elab.async false
set_option linter.all false
set_option maxRecDepth 100000
set_option maxHeartbeats 0
namespace My
open PySem PySem.Spec PyProof.Rows L2
/-! ### defs whose run shows containers: nothing is being shown around them -/
structure FnG (P : Program) (w : World) (K : PySem.W.Frag) (mg : Str → Option Value) (base : Heap) (CX : CXT) (k : Nat) (f : Addr) (fd : FuncData) (ps : List Str) (sp : Sp) : Prop where
  many : ∀ vs H Q E, sp vs H Q E → vs.length = ps.length
  go : ∀ {A : Around} {outer : List Env} {s : Shared} {H : Hp} {args : Args} {us : List Value} {vs : List V} {Q : VK} {E : XK}, Room k A → A.guards = some [] → Env0 P w K mg base A outer s H → BindsTo s fd args (ps.zip us) → Vals vs us →
    sp vs H Q E → codeAny (model P w) A (.call (.ref f) args) (CR CX outer P w H s Q E) s
theorem guards_deeper {A : Around} {env : Env} (h : A.guards = some []) : (A.deeper env).guards = some [] := by
  first | exact h | (simp [Around.deeper, h]; done)
section
variable {P : Program} {w : World} {K : PySem.W.Frag} {mg : Str → Option Value} {base : Heap} {CX : CXT} {k : Nat} {f : Addr} {fd : FuncData} {ps : List Str} {sp : Sp}
theorem FnG.of (F : FnOk P w K mg base CX k f fd ps sp) : FnG P w K mg base CX k f fd ps sp :=
  ⟨F.len, fun r _ e b v h => F.run _ _ _ _ _ _ _ _ _ r e b v h⟩
/-- a def by its body, where nothing is being shown -/
theorem go_of {x qual : Str} {st : Stmt} {N : List Str} (F : Fun K x qual st f fd) (S : FnScope N ps (defScope st)) (many : ∀ vs H Q E, sp vs H Q E → vs.length = ps.length)
    (hb : ∀ (cdv : Value) (A : Around) (outer : List Env) (s : Shared) (H : Hp) (vs : List V) (Q : VK) (E : XK), Room k (A.deeper (envOfC qual (defScope st) s.heap.objs.size f cdv)) → (A.deeper (envOfC qual (defScope st) s.heap.objs.size f cdv)).guards = some [] →
      sp vs H Q E → ∃ t, PSs (cxOf CX P w K mg base N qual (defScope st) f cdv A outer s H E) (defBody st) t ∧ t { nx := fun _ H' => Q .non H', rt := Q } (start N vs) H) : FnG P w K mg base CX (k + 1) f fd ps sp := by
  obtain ⟨oc, od, kV, doc, pm, an, cdv, ct, osl, e1, lk, hcd⟩ := F.ex
  subst e1
  refine ⟨many, ?_⟩
  intro A outer s H args us vs Q E room quiet e0 bind rel want
  have inK := e0.mod.kin.keeps (h' := s.heap) (fun b o z => (e0.bs b o z).1)
  have nolim := e0.mod.nolimit.keeps (h' := s.heap) (fun b o z => (e0.bs b o z).1)
  have kinds : ∀ y ∈ ps.zip us, (defScope st).names.lookup y.1 = some .local ∨ ((defScope st).names.lookup y.1 = some .cell ∧ ((cellsFrom (s.heap.objs.size + 1) (defScope st).names []).lookup y.1).isSome = true) := by
    rintro ⟨n, v⟩ hy
    have hn := (List.of_mem_zip hy).1
    cases S.par n hn with
    | inl z => exact Or.inl z
    | inr z => exact Or.inr ⟨z, PySem.W.cellsFrom_some _ _ _ (Or.inl z)⟩
  refine codeAny_call_function room.depth (inK _ _ lk) rfl S.co S.gen rfl (PySem.W.codeRec_of inK hcd) (bind _ _ _ _ (wpAny_newFunctionEnv_cells S.kind kinds ?_))
  rintro env rfl s1 ic
  obtain ⟨t, ht, ready⟩ := hb cdv A outer s H vs Q E (room.deeper _) (guards_deeper quiet) want
  have J : Inv (cxOf CX P w K mg base N qual (defScope st) f cdv A outer s H E) [] (start N vs) H s1 := inv_start S room.hd e0 (many _ _ _ _ want) rel ic
  refine ⟨nolim.keeps ic.toInCall.keep, codeAny_func (wpAny_mono (ht.run [] s1 _ H _ J ready) ?_ (fun _ _ z => z))⟩
  intro fl s' hs
  cases fl with
  | next =>
    obtain ⟨σ', H', J', q⟩ := hs
    exact ⟨V.non, H', J'.os, J'.bare, J'.base, J'.hok, rfl, q⟩
  | ret u =>
    obtain ⟨v, σ', H', J', rv, q⟩ := hs
    exact ⟨v, H', J'.os, J'.bare, J'.base, J'.hok, rv, q⟩
  | brk =>
    obtain ⟨_, _, _, z⟩ := hs
    exact (z : False).elim
  | cont =>
    obtain ⟨_, _, _, z⟩ := hs
    exact (z : False).elim
end
section
variable {X : Cx} {CX : CXT} {k : Nat} {f : Addr} {fd : FuncData} {ps : List Str} {sp : Sp} {dvs : List V} {ds : List Value} {E : XK} {x : Str} {p pos : Pos} {e : Expr} {es : List Expr} {t : TA}
/-- a call of such a def from where nothing is being shown -/
theorem pe_callG (F : FnG X.prog X.w X.K X.mg X.base CX k f fd ps sp) (hr : Room k X.A) (quiet : X.A.guards = some []) (hg : Gl X x) (hm : X.mg x = some (.ref f)) (hk : PySem.W.keepIn X.K (.ref f) = true) (hb : Binds X.K fd ps ds) (hd : Vals dvs ds) (hx : Passes CX X E)
    (ha : PA X (e :: es) t) (hdb : (x == ("__debug__" : Str)) = false := by decide) (he : starEach (e :: es) X.env = (false, eval e X.env) :: starEach es X.env := by rfl) (hpl : (backTo pos (starEach es X.env)).any (·.1) = false := by rfl) :
    PE X (.Call (.Name x p) (e :: es) [] pos) (tCall sp dvs E t) := by
  constructor
  intro pins s σ H Q I h
  have args := ha.run pos pins s σ H _ I h
  refine wpAny_Call_Name_kw (ld_glob I hg hm (PySem.W.callWith_K (h₀ := X.base) I.ok.mod.kin hk (thn args ?_) he hpl) hdb)
  rintro us s1 ⟨vs, H1, J, r, want⟩
  have rel := r.append hd
  refine ⟨J.kIn, wpAny_call (codeAny_mono (F.go (A := X.A) hr quiet J.env0 (hb s1 us J.kIn ?_) rel want) ?_)⟩
  · have z := rel.length
    rw [← z]
    exact F.many _ _ _ _ want
  · intro res s' hq
    match res, hq with
    | .error _, hq => exact hx pins σ H1 s1 _ s' J hq
    | .ok (.ret _), hq => exact J.after hq
    | .ok .next, hq => exact False.elim hq
    | .ok .brk, hq => exact False.elim hq
    | .ok .cont, hq => exact False.elim hq
end
/-! ### repr of data -/
structure rRepr (K : PySem.W.Frag) (xs : List V) (H : Hp) (Q : VK) : Prop where
  ex : ∃ x d, xs = [x] ∧ Dp K H x d ∧ d.showable = true ∧ d.canLay0 = true ∧ d.depth ≤ 60 ∧ d.shown.length ≤ sizeLine ∧ Q (.str d.shown) H
theorem call_repr {X : Cx} (quiet : X.A.guards = some []) (hu : X.A.units + 64 < cLine) : CallR X (.builtin "repr") (rRepr X.K) := by
  intro pins s σ H xs us Q I r h
  obtain ⟨x, d, rfl, hd, h1, h2, h3, h4, q⟩ := h
  obtain ⟨u, rfl, ru⟩ := vals1 r
  cases hd with
  | non =>
    cases (show u = Value.none from ru)
    exact PySem.P.repr_of_none ⟨.str "None", H, I.tok _, ⟨_, rfl⟩, by simpa only [PyData.shown] using q⟩
  | bl b =>
    cases (show u = Value.bool b from ru)
    exact PySem.P.repr_of_bool ⟨.str (if b then "True" else "False"), H, I.tok _, ⟨_, rfl⟩, by simpa only [PyData.shown] using q⟩
  | int i =>
    obtain ⟨tk, rfl⟩ := (show ∃ t, u = Value.int i t from ru)
    exact PySem.P.repr_of_int (by simpa only [PyData.showable, decide_eq_true_eq] using h1) ⟨V.str (Str.ofString (toString i)), H, I.tok _, ⟨_, rfl⟩, by simpa only [PyData.shown] using q⟩
  | str z =>
    obtain ⟨tk, rfl⟩ := (show ∃ t, u = Value.str z t from ru)
    exact PySem.P.repr_of_str ⟨.str (reprText z), H, I.tok _, ⟨_, rfl⟩, by simpa only [PyData.shown] using q⟩ (by simpa only [PyData.shown] using h4)
  | @lst a ys ds hs ha =>
    cases (show u = Value.ref a from ru)
    obtain ⟨as, rd⟩ := Dp.reads I (.list ds) (.ref a) (.ref a) (.lst hs ha) rfl
    exact PySem.repr_of_reads' rd h1 (PyData.noDict_hsm (PyData.hasDict_of_canLay _ h2)) quiet (by omega) (fun _ _ z => z) (fun h' v tk k => ⟨.str (PyData.list ds).shown, H, I.kept k, ⟨_, rfl⟩, q⟩) h4
  | @tup a ys ds hs ha =>
    cases (show u = Value.ref a from ru)
    obtain ⟨as, rd⟩ := Dp.reads I (.tuple ds) (.ref a) (.ref a) (.tup hs ha) rfl
    exact PySem.repr_of_reads' rd h1 (PyData.noDict_hsm (PyData.hasDict_of_canLay _ h2)) quiet (by omega) (fun _ _ z => z) (fun h' v tk k => ⟨.str (PyData.tuple ds).shown, H, I.kept k, ⟨_, rfl⟩, q⟩) h4
/-! ### the law's own call -/
/-- only the script may be tracked -/
def One (H : Hp) (a : Addr) : Prop := ∀ b, H b = none ∨ (b = a ∧ ∃ o xs, H b = some (.frz o (.lst xs)))
section
variable {P : Program} {w : World} {K : PySem.W.Frag} {mg mb : Str → Option Value} {k : Nat} {fa a : Addr} {fd : FuncData} {x : Str} {sp : Sp} {s₁ : Shared} {vs : List Value} {ns : List Int}
/-- a law's def run at its call, from an abstract heap that tracks the script or nothing -/
theorem top_run {H : Hp} (KX : K.In s₁.heap) (hns : s₁.heap.Ns mainGlobals mg) (hb : s₁.heap.Ns builtinsNs mb) (hbb : ∀ y : Str, y ≠ "__name__" → mb y = bootBuiltins y) (hlim : s₁.heap.NoLimit) (hg : s₁.gens = #[])
    (ha : s₁.heap.get? a = some { cls := .type "list", data := .seq vs.toArray }) (hr : Room k callerA) (hbind : ∀ (s : Shared) (u : Value), BindsTo s fd ⟨[u], []⟩ [(x, u)])
    (F : ∀ base : Heap, K.In base → base.Ns mainGlobals mg → FnG P w K mg base CX0 k fa fd [x] sp)
    (one : One H a) (free : H a ≠ none → K.lookup a = none) (ok : HOk P w H s₁.heap) (want : sp [.ref a] H (fun v _ => v = .bl true) fun _ _ _ => False) :
    codeAny (model P w) callerA (.call (.ref fa) ⟨[.ref a], []⟩) (fun r s' => r = .ok (.ret (.bool true)) ∧ OldK s₁.heap s'.heap ∧ s'.os = s₁.os ∧ AllBare s'.gens) s₁ := by
  have not_a : ∀ {b : Addr}, b ≠ a → H b = none := fun {b} n => (one b).elim id fun z => (n z.1).elim
  have seen : ∀ {b : Addr} {o : Obj}, s₁.heap.get? b = some o → H b = none → (hidT s₁.heap H).get? b = some o := hidT_get
  have dict_free : ∀ {b : Addr} {o : Obj} {es : Array DictEntry} {ep : Nat}, s₁.heap.get? b = some o → o.data = .dict es ep → H b = none := by
    intro b o es ep e1 e2
    refine not_a fun z => ?_
    subst z
    cases ha.symm.trans e1
    cases e2
  have keepNs : ∀ {b : Addr} {m : Str → Option Value}, s₁.heap.Ns b m → (hidT s₁.heap H).Ns b m := by
    rintro b m ⟨o, es, ep, e1, e2, e3⟩
    exact ⟨o, es, ep, seen e1 (dict_free e1 e2), e2, e3⟩
  have KB : K.In (hidT s₁.heap H) := by
    intro b o e
    refine seen (KX b o e) ?_
    by_cases z : b = a
    · subst z
      cases q : H b with
      | none => rfl
      | some u =>
        have z2 := free (by rw [q]; exact fun z => nomatch z)
        cases z2.symm.trans e
    · exact not_a z
  obtain ⟨ml, l1, l2⟩ := hlim
  have e0 : Env0 P w K mg (hidT s₁.heap H) callerA [] s₁ H := {
    frames := rfl
    mod := ⟨KB, keepNs hns, ⟨mb, keepNs hb, hbb⟩, ⟨ml, keepNs l1, l2⟩⟩
    bs := fun b o e => of_hidT e
    bsz := Nat.le_of_eq (hidT_size _ _)
    funs := trivial
    frf := fun b z => nomatch z
    hok := ok
    bare := .of_eq hg }
  refine codeAny_mono ((F _ KB (keepNs hns)).go (us := [.ref a]) (vs := [.ref a]) hr rfl e0 (hbind s₁ (.ref a)) (.cons rfl .nil) want) ?_
  intro r s' hq
  match r, hq with
  | .ok (.ret u), hq =>
    obtain ⟨v, H', os, bare, un, ok', rv, q⟩ := hq
    subst q
    cases (show u = Value.bool true from rv)
    refine ⟨rfl, OldK.of_keep ?_, os, bare⟩
    intro b o e
    rcases one b with z | ⟨_, ob, xs, z⟩
    · exact un.keep b o e z (fun z => nomatch z) (fun z => nomatch z)
    · have h1 : s₁.heap.get? b = some ob := (ok b _ z).1
      have h2 : s'.heap.get? b = some ob := (ok' b _ (un.frzs b ob _ z)).1
      rw [← h1.symm.trans e]
      exact h2
  | .ok .next, hq => exact False.elim hq
  | .ok .brk, hq => exact False.elim hq
  | .ok .cont, hq => exact False.elim hq
  | .error _, hq => exact False.elim hq
/-- .. from whatever the script is -/
theorem top_call (KX : K.In s₁.heap) (hns : s₁.heap.Ns mainGlobals mg) (hb : s₁.heap.Ns builtinsNs mb) (hbb : ∀ y : Str, y ≠ "__name__" → mb y = bootBuiltins y) (hlim : s₁.heap.NoLimit) (hg : s₁.gens = #[])
    (ha : s₁.heap.get? a = some { cls := .type "list", data := .seq vs.toArray }) (hi : IntsAre vs ns) (hl : ns.length ≤ sizeLine) (hr : Room k callerA) (hbind : ∀ (s : Shared) (u : Value), BindsTo s fd ⟨[u], []⟩ [(x, u)])
    (F : ∀ base : Heap, K.In base → base.Ns mainGlobals mg → FnG P w K mg base CX0 k fa fd [x] sp)
    (want : ∀ H : Hp, One H a → SqL K H a (ns.map V.int) → sp [.ref a] H (fun v _ => v = .bl true) fun _ _ _ => False) :
    codeAny (model P w) callerA (.call (.ref fa) ⟨[.ref a], []⟩) (fun r s' => r = .ok (.ret (.bool true)) ∧ OldK s₁.heap s'.heap ∧ s'.os = s₁.os ∧ AllBare s'.gens) s₁ := by
  have rv := vals_ints hi
  have len := hi.length
  cases hk : K.lookup a with
  | none =>
    let O : Obj := { cls := .type "list", data := .seq vs.toArray }
    let H : Hp := fun b => if b = a then some (.frz O (.lst (ns.map V.int))) else none
    have Ha : H a = some (.frz O (.lst (ns.map V.int))) := if_pos rfl
    have one : One H a := fun b => by
      by_cases z : b = a
      · exact .inr ⟨z, O, ns.map V.int, if_pos z⟩
      · exact .inl (if_neg z)
    refine top_run KX hns hb hbb hlim hg ha hr hbind F one (fun _ => hk) ?_ (want H one (.inl (.inr ⟨O, Ha⟩)))
    intro b u e
    rcases one b with z | ⟨z, _⟩
    · cases z.symm.trans e
    · subst z
      cases Ha.symm.trans e
      exact ⟨ha, by rw [List.length_map]; exact hl, vs, _, rv, ha⟩
  | some o =>
    cases (KX a o hk).symm.trans ha
    have one : One (fun _ => none) a := fun _ => .inl rfl
    refine top_run KX hns hb hbb hlim hg ha hr hbind F one (fun z => absurd rfl z) (fun _ _ z => nomatch z) (want _ one (.inr ⟨_, vs.toArray, _, hk, rfl, rfl, rfl, ?_, ?_⟩))
    · rw [List.size_toArray, len]
      exact hl
    · simpa using rv
end
/-- the end of a law whose def is FnG -/
theorem walk_ofG {l : PySem.W.OpenLaw} {n k : Nat} {q : Program} {loose : List Str} {XP : (Str → Option Value) → Heap → Prop} {YP : World → Heap → Prop} {d : DefRec} {K : Params → PySem.W.Frag} {sp : PySem.W.Frag → Sp} {x : Str}
    (hn : l.most = some n) (hn2 : n ≤ sizeLine) (hdf : d.params.defaults = []) (hr : Room k callerA) (hY : ∀ (w : World) (h : Heap), YP w h → (K w.params).In h)
    (F : ∀ (w : World) (mg : Str → Option Value) (fa : Addr) (h : Heap), (K w.params).In h → h.Ns mainGlobals mg → mg d.name = some (.ref fa) →
      ∃ fd : FuncData, (∀ (s : Shared) (u : Value), BindsTo s fd ⟨[u], []⟩ [(x, u)]) ∧ ∀ base : Heap, (K w.params).In base → base.Ns mainGlobals mg → FnG l.prog w (K w.params) mg base CX0 k fa fd [x] (sp (K w.params)))
    (want : ∀ (K : PySem.W.Frag) (H : Hp) (a : Addr) (ns : List Int), ns.length ≤ n → SqL K H a (ns.map V.int) → sp K [.ref a] H (fun v _ => v = .bl true) fun _ _ _ => False) :
    PySem.W.WalkO q loose XP YP l.row.toRowW d [] (fun f vs => PySem.call f vs) := by
  refine Att.attach_call hn hdf ?_
  intro w s₀ s₁ mg mb fa o pm cd doc a vs ns G Y ho hd hcd hmg hobj hints hlen hg
  obtain ⟨fd, hbind, hF⟩ := F w mg fa _ (hY w _ Y) G.T.g hmg
  exact top_call (hY w _ Y) G.T.g G.T.b G.T.builtins G.T.nolimit hg hobj hints (Nat.le_trans hlen hn2) hr hbind hF fun H _ hS => want _ H a ns hlen hS
/-! ### list(text), text * int -/
abbrev oneS (c : Nat) : Str := ⟨#[c]⟩
def rListS : List V → Hp → VK → Prop := fun xs H Q => ∃ z : Str, xs = [.str z] ∧ z.length ≤ sizeLine ∧ ∀ p, H p = none → Q (.ref p) (upd H p (.lst (z.cps.toList.map fun c => V.str (oneS c))))
theorem call_listS {X : Cx} (calm : X.calm = true) : CallR X (.type "list") rListS := by
  intro pins s σ H xs us Q I r h
  obtain ⟨z, rfl, hz, q⟩ := h
  obtain ⟨u, rfl, tk, rfl⟩ := vals1 r
  refine PySem.call_list_str (I.ok.hd calm) z tk (fun h' t acc c keep new items => ?_) hz
  refine ⟨.ref s.heap.objs.size, upd H s.heap.objs.size (.lst (z.cps.toList.map fun c => V.str (oneS c))), I.laid (t' := t) keep (Nat.le_refl _) ?_, rfl, q _ (I.hok.fresh (Nat.le_refl _))⟩
  refine ⟨?_, acc.toList, c, ?_, by rw [Array.toArray_toList]; exact new⟩
  · rw [List.length_map, Array.length_toList]
    exact hz
  · have len : acc.toList.length = z.cps.toList.length := by rw [Array.length_toList, Array.length_toList]; exact items.1
    have all : ∀ (cs : List Nat) (vs : List Value), vs.length = cs.length → (∀ (j : Nat) (v : Value), vs[j]? = some v → ∃ c u, cs[j]? = some c ∧ v = .str (oneS c) u) → Vals (cs.map fun c => V.str (oneS c)) vs := by
      intro cs
      induction cs with
      | nil =>
        intro vs hl _
        cases vs with
        | nil => exact .nil
        | cons => cases hl
      | cons a r ih =>
        intro vs hl hv
        cases vs with
        | nil => cases hl
        | cons v t =>
          obtain ⟨c, u, e1, e2⟩ := hv 0 v rfl
          cases e1
          exact .cons ⟨u, e2⟩ (ih t (Nat.succ.inj hl) fun j x e => hv (j + 1) x e)
    refine all _ _ len fun j v e => ?_
    rw [Array.getElem?_toList] at e
    obtain ⟨c, u, e1, e2⟩ := items.2 j v e
    exact ⟨c, u, by rw [Array.getElem?_toList]; exact e1, e2⟩
def rRepS : R2 := fun x y H Q => ∃ z n, x = .str z ∧ y = .int n ∧ MulOk z n ∧ Q (.str (Txt.mul z n)) H
theorem op_repS {X : Cx} : OpR X (binaryOp .Mult) rRepS := by
  intro pins s σ H x y v u Q I rx ry h
  obtain ⟨z, n, rfl, rfl, ok, q⟩ := h
  obtain ⟨tx, rfl⟩ := rx
  obtain ⟨ty, rfl⟩ := ry
  exact PySem.SB.mul ok fun t' k => ⟨.str (Txt.mul z n), H, I.tok _, ⟨_, rfl⟩, q⟩
/-- texts joined by nothing -/
theorem joinL_nil : ∀ l : List (List Nat), TL.joinL [] l = l.flatten
  | [] => rfl
  | [p] => by simp [TL.joinL]
  | p :: q :: r => by
    have h := joinL_nil (q :: r)
    show p ++ ([] ++ TL.joinL [] (q :: r)) = _
    rw [h]
    simp
theorem tl_join0 (ys : List Str) : (Txt.join "" ys).cps.toList = (ys.map fun y => y.cps.toList).flatten := by
  rw [TL.join_eq]
  have h := TL.tl_join "" ys
  have h2 : TL.tl ("" : Str) = [] := by decide +kernel
  rw [h2, joinL_nil] at h
  exact h
end My

namespace My
open PySem PySem.Spec PyProof.Rows L2
/-! ### own errors whose __init__ says super().__init__(text) -/
structure SupScope (N ps : List Str) (sc : Scope) : Prop where
  kind : sc.kind = .function
  co : sc.isCoroutine = false
  gen : sc.isGenerator = false
  nd : N.Nodup
  pre : N.take ps.length = ps
  par : ∀ x ∈ ps, sc.names.lookup x = some .local
  nocell : ∀ y ∈ sc.names, y.2 ≠ .cell
  sup : sc.names.lookup ("super" : Str) = some .globalImplicit
  cls : sc.names.lookup ("__class__" : Str) = some .free
  free : ∀ y ∈ sc.names, y.2 = .free → y.1 = ("__class__" : Str)
abbrev supEnv (qual : Str) (sc : Scope) (L f cda cc : Addr) : Env := PySem.W.ksEnv qual sc L f (.ref cda) cc
/-- such an __init__'s body running -/
def cxS (P : Program) (w : World) (K : PySem.W.Frag) (mg : Str → Option Value) (base : Heap) (N : List Str) (qual : Str) (sc : Scope) (f cda cc : Addr) (A : Around) (outer : List Env) (s : Shared) (H : Hp) : Cx where
  prog := P
  w := w
  K := K
  mg := mg
  base := base
  A := A.deeper (supEnv qual sc s.heap.objs.size f cda cc)
  N := N
  s_0 := s
  H_0 := H
  env := supEnv qual sc s.heap.objs.size f cda cc
  outer := outer
  stack := supEnv qual sc s.heap.objs.size f cda cc :: outer
  ex := []
  calm := true
  fn := fun x => !(x == ("__class__" : Str))
  pn := []
  xe := fun _ _ => False
theorem cells_one {cc c : Addr} {x : Str} (h : List.lookup x [(("__class__" : Str), cc)] = some c) : x = "__class__" ∧ c = cc := by
  rw [List.lookup_cons] at h
  split at h
  · rename_i e
    exact ⟨beq_iff_eq.mp e, (Option.some.inj h).symm⟩
  · cases h
theorem lookup_mem {y : Str} {u : Value} : ∀ {l : List (Str × Value)}, (l.map (·.1)).Nodup → (y, u) ∈ l → l.lookup y = some u
  | [], _, h => nomatch h
  | (z, v) :: r, hn, h => by
    rw [List.map_cons, List.nodup_cons] at hn
    rw [List.lookup_cons]
    rcases List.mem_cons.mp h with e | h
    · cases e
      simp
    · have ne : (y == z) = false := by
        refine beq_eq_false_iff_ne.mpr fun e => hn.1 ?_
        rw [← e]
        exact List.mem_map.mpr ⟨(y, u), h, rfl⟩
      rw [ne]
      exact lookup_mem hn.2 h
theorem zip_sub : ∀ (ps : List Str) (us : List Value), ((ps.zip us).map fun q : Str × Value => q.1).Sublist ps
  | [], _ => List.Sublist.refl _
  | _ :: _, [] => List.nil_sublist _
  | p :: ps, u :: us => List.Sublist.cons_cons _ (zip_sub ps us)
theorem zip_lookup {ps : List Str} {us : List Value} {i : Nat} {y : Str} {u : Value} (hn : ps.Nodup) (h1 : ps[i]? = some y) (h2 : us[i]? = some u) : (ps.zip us).reverse.lookup y = some u := by
  refine lookup_mem ?_ ?_
  · rw [List.map_reverse]
    refine List.pairwise_reverse.mpr (List.Pairwise.imp (R := fun a b => a ≠ b) (fun z => Ne.symm z) ?_)
    refine List.Pairwise.sublist ?_ hn
    exact zip_sub ps us
  · rw [List.mem_reverse]
    refine List.mem_of_getElem? (i := i) ?_
    rw [List.getElem?_zip_eq_some]
    exact ⟨h1, h2⟩
section
variable {P : Program} {w : World} {K : PySem.W.Frag} {mg : Str → Option Value} {base : Heap} {N ps : List Str} {qual : Str} {sc : Scope} {f cda cc : Addr} {A : Around} {outer : List Env} {s : Shared} {H : Hp} {us : List Value} {vs : List V}
theorem sup_start {oc : Obj} {v0 : Value} (S : SupScope N ps sc) (hd : A.handled = none) (e0 : Env0 P w K mg base A outer s H) (hl : vs.length = ps.length) (r : Vals vs us) (hc : K.lookup cc = some oc) (hcd : oc.data = .cell (some v0))
    {h : Heap} {t : Nat} (ns : h.Ns s.heap.objs.size (fun x => (ps.zip us).reverse.lookup x)) (keep : ∀ b o, s.heap.get? b = some o → h.get? b = some o) :
    Inv (cxS P w K mg base N qual sc f cda cc A outer s H) [] (L2.start N vs) H { s with heap := h, toks := t } := by
  have noA : ∀ b : Addr, b ∉ (cxS P w K mg base N qual sc f cda cc A outer s H).ex := fun b z => nomatch z
  have cB : base.get? cc = some oc := e0.mod.kin _ _ hc
  have cS := e0.bs _ _ cB
  have pl : ps.length ≤ N.length := by
    have z := congrArg List.length S.pre
    rw [List.length_take] at z
    omega
  constructor
  · constructor
    · exact e0.mod
    · exact S.kind
    · rfl
    · rfl
    · exact Nat.le_refl _
    · intro x y c h1 h2
      exact (cells_one h1).1.trans (cells_one h2).1.symm
    · intro x hx
      have hx : sc.names.lookup x = some .cell ∨ sc.names.lookup x = some .free := hx
      rcases hx with z | z
      · exact absurd rfl (S.nocell _ (PySem.mem_of_lookup z))
      · have e := S.free _ (PySem.mem_of_lookup z) rfl
        exact ⟨cc, by show List.lookup x [(("__class__" : Str), cc)] = some cc; rw [show x = "__class__" from e]; rfl⟩
    · intro x c h1 h2
      have e := (cells_one h2).1
      subst e
      exact absurd (show (!((("__class__" : Str)) == ("__class__" : Str))) = true from h1) (by decide)
    · exact fun _ => hd
    · exact Around.frames_deeper e0.frames
    · exact .inr ⟨rfl, rfl⟩
    · exact fun b z => absurd z (noA b)
    · exact e0.bs
    · exact e0.bsz
    · exact fun b _ _ => noA b
    · exact fun b z => absurd z (noA b)
    · exact e0.funs
    · exact e0.frf
  · rfl
  · exact e0.bare
  · exact Un.kept keep
  · refine ⟨_, ns, fun i y v h1 h2 h3 => ?_⟩
    have hi : i < vs.length := by
      by_cases z : i < vs.length
      · exact z
      · unfold L2.start at h2
        rw [List.getElem?_append_right (by simpa using z), List.getElem?_replicate] at h2
        split at h2 <;> cases h2
    have ha : vs[i]? = some v := by
      unfold L2.start at h2
      rw [List.getElem?_append_left (by simpa using hi), List.getElem?_map, List.getElem?_eq_getElem hi] at h2
      rw [List.getElem?_eq_getElem hi]
      exact Option.some.inj h2
    obtain ⟨u, hu, rv⟩ := r.get ha
    have hp : ps[i]? = some y := by
      rw [← S.pre, List.getElem?_take_of_lt (by omega)]
      exact h1
    have ndp : ps.Nodup := by
      rw [← S.pre]
      exact S.nd.sublist (List.take_sublist _ _)
    refine ⟨u, rv, .inl ⟨S.par y (List.mem_of_getElem? hp), ?_⟩⟩
    exact zip_lookup ndp hp hu
  · intro x c h1
    obtain ⟨_, rfl⟩ := cells_one h1
    exact ⟨_, oc, keep _ _ cS.1, hcd⟩
  · exact e0.hok.fresh (Nat.le_refl _)
  · intro x c h1
    obtain ⟨_, rfl⟩ := cells_one h1
    exact cS.2
  · exact fun p z => nomatch z
  · exact e0.hok.kept keep
  · show (L2.start N vs).length = N.length
    unfold L2.start
    rw [List.length_append, List.length_map, List.length_replicate]
    omega
end
/-- the built-in __init__ bound to an exception, called: its args are laid anew -/
theorem mw_call {prog : Program} {w : World} {A : Around} {E : Value → Shared → Prop} {h : Heap} {g : Array GenState} {d : Drawn} {t : Nat} {os : OsState} {nm q : Str} {C N u x t0 : Addr} {bs bm : List Value} {hdct : Bool} {sn : List Str} {sub : List Value} {ab : Bool} {col : Option Bool}
    {dd : Option Addr} {k0 k1 k2 k3 k5 : Option Value} {rest : List Value} {Q : Value → Shared → Prop} (hC : h.get? C = some (excClassObj nm q C N bs bm hdct sn sub ab col dd k0 k1 k2 k3 k5 "ValueError.__new__")) (hu : h.get? u = some (PySem.W.kxs_mw "ValueError.__init__" x))
    (he : h.get? x = some (PySem.HandSPX.excO C t0)) (hz : rest.length ≤ sizeLine)
    (hq : ∀ h' t1, (∀ b o, b ≠ x → h.get? b = some o → h'.get? b = some o) → h'.get? x = some (PySem.HandSPX.excO C t1) → Q .none ⟨h', g, d, t, os⟩) :
    wpAny (model prog w) A (call (.ref u) rest) Q E ⟨h, g, d, t, os⟩ := by
  refine wpAny_call (codeAny_of_tree ?_)
  show wpAny _ A.in1 (callAny (.ref u) ⟨rest, []⟩) _ _ _
  unfold callAny
  refine wpAny_bind (wpAny_load hu ?_)
  have k : (Value.type "method-wrapper" == Value.type "method" || Value.type "method-wrapper" == Value.type "builtin_function_or_method" || Value.type "method-wrapper" == Value.type "method-wrapper") = true := by decide
  simp only [PySem.W.kxs_mw, k, if_true]
  refine PySem.W.KFB.if_so (by decide) ?_
  refine wpAny_bind (PySem.W.check_bound_init F.excBase_ValueError.toExcCallFacts hC he rfl ?_)
  refine wpAny_bind (wpAny_pure (wpAny_pure ⟨plainId_quiet F.excBase_ValueError.init.plain _, codeAny_builtin F.excBase_ValueError.initEntry ?_⟩))
  exact PySem.W.exc_init_tree (cls := .ref C) (t0 := t0) (dv := none) (c2 := .none) (c3 := .none) (b4 := .bool false) he hz fun h' k1 k2 _ => hq h' h.objs.size k1 k2
/-- what the text and the top say of such a class -/
structure SupCls (P : Program) (K : PySem.W.Frag) (mg : Str → Option Value) (x qual : Str) (st : Stmt) (C fI cc cda : Addr) (fd : FuncData) : Prop where
  gC : mg x = some (.ref C)
  ox : OexC K C
  iC : PySem.W.findIn K (.ref C) "__init__" = some (some (.ref fI))
  tI : PySem.W.typeIn K (.ref fI) = some (.type "function")
  fn : ∃ (oc : Value) (od : Option Addr) (doc pm : Value) (an : Option Addr) (ct : Value) (osl : Array (Option Value)), fd = PySem.W.ksFn "__init__" qual (defArgs st) (defBody st) (defScope st) .none .none doc pm an (.ref cda) ct cc ∧ K.lookup fI = some ⟨oc, od, .func fd, osl⟩
  cdq : PySem.W.codeIn K (.ref cda) qual = true
  code : ∃ (ccl : Value) (cdd : Option Addr) (vs : Array Value) (ccs : Array (Option Value)) (file : Str) (tf : Tok), K.lookup cda = some ⟨ccl, cdd, .fields vs, ccs⟩ ∧ vs[2]? = some (.str file tf) ∧ ((P.main.file : Str) == file) = true
  cell : ∃ (cl : Value) (cld : Option Addr) (csl : Array (Option Value)), K.lookup cc = some ⟨cl, cld, .cell (some (.ref C)), csl⟩
  sub : PySem.W.mroIn K C (.ref C) = some true
  noS : mg "super" = none
  anyC : PySem.W.nsIn K cStatics "thirdparty.any" = some none
  supI : PySem.W.ks_superIn K C C "__init__" = some (some (.builtin "ValueError.__init__"))
  subV : PySem.W.subIn K (.ref C) (.type "ValueError") = some true
  noTop : (P.main.scope.names.lookup ("super" : Str)).isSome = false
theorem boot_super : bootBuiltins "super" = some (.type "super") := by decide +kernel
section
variable {P : Program} {w : World} {K : PySem.W.Frag} {mg : Str → Option Value} {base : Heap}
theorem ok_sup {x qual : Str} {st : Stmt} {C fI cc cda : Addr} {fd : FuncData} {N ps : List Str} {ar : Arg} {k : Nat} {sp : Sp} {p0 p1 p2 p3 p4 : Pos} {msg : Expr} {rest : List Stmt} (T : SupCls P K mg x qual st C fI cc cda fd) (S : SupScope N ps (defScope st))
    (hp : ((defArgs st).posonlyargs ++ (defArgs st).args).head? = some ar) (hps : ps[0]? = some ar.arg) (hbody : defBody st = .Expr (.Call (.Attribute (.Call (.Name "super" p0) [] [] p1) "__init__" p2) [msg] [] p3) p4 :: rest)
    {pl : Sem Bool} (hev : ∀ L : Addr, eval (.Call (.Attribute (.Call (.Name "super" p0) [] [] p1) "__init__" p2) [msg] [] p3) (supEnv qual (defScope st) L fI cda cc) = (do
      let ov ← attributeBase (.Call (.Name "super" p0) [] [] p1) "__init__" (supEnv qual (defScope st) L fI cda cc) (eval (.Call (.Name "super" p0) [] [] p1) (supEnv qual (defScope st) L fI cda cc))
      standAt p2.atName
      let (f, first) ← holding [ov] (getMethod ov "__init__" pl)
      callWith p3 f first (backTo p3 (starEach [msg] (supEnv qual (defScope st) L fI cda cc))) []))
    (hst : ∀ L : Addr, starEach [msg] (supEnv qual (defScope st) L fI cda cc) = [(false, eval msg (supEnv qual (defScope st) L fI cda cc))])
    (len : ∀ vs H Q E, sp vs H Q E → vs.length = ps.length)
    (hb : ∀ (A : Around) (outer : List Env) (s : Shared) (H : Hp) (vs : List V) (Q : VK) (E : XK), Room k (A.deeper (supEnv qual (defScope st) s.heap.objs.size fI cda cc)) → sp vs H Q E →
      ∃ (a : Addr) (tm : TE) (t : TS), vs[0]? = some (.ref a) ∧ H a = some (exo a C none) ∧ PE (cxS P w K mg base N qual (defScope st) fI cda cc A outer s H) msg tm ∧ PSs (cxS P w K mg base N qual (defScope st) fI cda cc A outer s H) rest t ∧
        tm (L2.start N vs) H fun _ H1 => H1 a = some (exo a C none) ∧ t { nx := fun _ H' => Q .non H', rt := Q } (L2.start N vs) H1) :
    FnOk P w K mg base CX0 (k + 1) fI fd ps sp := by
  refine ⟨len, fun A outer s H args us vs Q E hr e0 bind r want => ?_⟩
  obtain ⟨oc, od, doc, pm, an, ct, osl, rfl, lk⟩ := T.fn
  obtain ⟨ccl, cdd, cvs, ccs, file, tf, lkc, hv2, hfile⟩ := T.code
  obtain ⟨cl, cld, csl, lcc⟩ := T.cell
  obtain ⟨nm, qn, NS, bs, bm, sn, sub, ab, col, dd, k0, k1, k2, k3, k5, hC, hbm⟩ := T.ox.cls
  have hl := len _ _ _ _ want
  have KX : K.In s.heap := e0.mod.kin.keeps fun b o z => (e0.bs b o z).1
  have lim : s.heap.NoLimit := e0.mod.nolimit.keeps fun b o z => (e0.bs b o z).1
  obtain ⟨a, tm, t, h0, hexo, pm1, prest, ready⟩ := hb A outer s H vs Q E (hr.deeper _) want
  refine PySem.ks_codeAny_call_defAt (body := defBody st) hr.depth (KX _ _ lk) rfl lim (PySem.W.codeRec_of KX T.cdq) rfl bind S.nocell (fun y hy => ?_) (fun hh hns hk => ?_) S.co S.gen S.kind
  · exact S.par _ (List.of_mem_zip (a := y.1) (b := y.2) hy).1
  have I0 : Inv (cxS P w K mg base N qual (defScope st) fI cda cc A outer s H) [] (L2.start N vs) H { s with heap := hh, toks := s.toks + (ps.zip us).length } := sup_start S hr.hd e0 hl r lcc rfl hns hk
  have KH : K.In hh := KX.keeps hk
  have v0 : us[0]? = some (.ref a) := by
    obtain ⟨u, hu, ru⟩ := r.get h0
    cases (show u = Value.ref a from ru)
    exact hu
  obtain ⟨t0, hea⟩ := exo_at I0.hok hexo
  have hea : hh.get? a = some (PySem.HandSPX.excO C t0) := hea
  -- super().__init__(msg)
  show PySem.wpAt (model P w) (A.deeper (supEnv qual (defScope st) s.heap.objs.size fI cda cc)) (.func (defBody st) (supEnv qual (defScope st) s.heap.objs.size fI cda cc)) (execs (defBody st) (supEnv qual (defScope st) s.heap.objs.size fI cda cc)) _ _ _
  rw [show execs (defBody st) (supEnv qual (defScope st) s.heap.objs.size fI cda cc) = execs (.Expr (.Call (.Attribute (.Call (.Name "super" p0) [] [] p1) "__init__" p2) [msg] [] p3) p4 :: rest) (supEnv qual (defScope st) s.heap.objs.size fI cda cc) from congrArg (fun b => execs b _) hbody]
  obtain ⟨mL, glob, blt⟩ : (∃ m, (⟨hh, s.gens, s.drawn, s.toks + (ps.zip us).length, s.os⟩ : Shared).heap.Ns s.heap.objs.size m) ∧ hh.Ns mainGlobals mg ∧ ∃ mb, hh.Ns builtinsNs mb ∧ ∀ y : Str, y ≠ "__name__" → mb y = bootBuiltins y := by
    refine ⟨⟨_, hns⟩, e0.mod.glob.keeps I0.bk, ?_⟩
    obtain ⟨mb, b1, b2⟩ := e0.mod.blt
    exact ⟨mb, b1.keeps I0.bk, b2⟩
  obtain ⟨mb, b1, b2⟩ := blt
  obtain ⟨cdD, hcdD, oD, hoD, hoD2⟩ : ∃ cdD, PySem.W.clsIn K C = some cdD ∧ ∃ oD, hh.get? C = some oD ∧ oD.data = .cls cdD := by
    refine ⟨{ name := nm, bases := bs, mro := .ref C :: bm, ns := NS, qualname := qn, hasDict := true, slotNames := sn, subclasses := sub, abstract := ab, collection := col, hasDel := false }, ?_, _, KH _ _ hC, rfl⟩
    unfold PySem.W.clsIn
    rw [hC] <;> rfl
  refine PySem.ks_wpAt_execs_cons (PySem.ks_wpAt_Expr_any (PySem.ks_wpAt_MethodCall (pl := pl) ?_ (hev _)) (by unfold interactive; rw [show (supEnv qual (defScope st) s.heap.objs.size fI cda cc).scope.kind = .function from S.kind]; rfl) (by rfl))
  refine PySem.ks_wpAt_super_base (env := supEnv qual (defScope st) s.heap.objs.size fI cda cc) S.sup S.cls (by decide) rfl (KH _ _ lk) rfl hp rfl (KH _ _ lkc) rfl hv2 hfile T.noTop ?_
  refine PySem.W.ks_loadName_global S.kind S.sup (PySem.Calls.loadGlobal_builtin (env := supEnv qual (defScope st) s.heap.objs.size fI cda cc) glob T.noS b1 ((b2 _ (by decide)).trans boot_super) ⟨rfl, ?_⟩)
  refine wpAny_loadName_free S.kind S.cls rfl ⟨_, KH _ _ lcc, rfl⟩ ?_
  refine wpAny_loadName_local S.kind (S.par _ (List.mem_of_getElem? hps)) hns (zip_lookup (i := 0) (by rw [← S.pre]; exact S.nd.sublist (List.take_sublist _ _)) hps v0) ?_
  refine PySem.ks_wpAny_isType_cls hoD hoD2 ⟨rfl, ?_⟩
  refine PySem.ks_wpAny_call_super hoD hoD2 hea rfl (fun c e => nomatch e) (PySem.W.looks_mroIn KH T.sub) (fun h1 hso k1 => ?_)
  have KH1 : K.In h1 := KH.keeps k1
  have hea1 := k1 _ _ hea
  have inst : PySem.W.InstAt h1 a (PySem.HandSPX.excO C t0) C none := ⟨hea1, rfl, rfl, trivial⟩
  have along : PySem.W.alongIn K "__init__" ((cdD.mro.dropWhile (· != .ref C)).drop 1) = some (some (.builtin "ValueError.__init__")) := by
    have z := T.supI
    unfold PySem.W.ks_superIn at z
    rw [hcdD] at z
    exact z
  refine PySem.W.kxs_getMethod PySem.W.kxs_ValueError hso (PySem.W.looks_opaque KH1 T.anyC) (l₀ := cdD.mro) (fun A Q E s k q => wpAny_bind ((PySem.W.looks_clsIn KH1 hcdD) A _ E s k (wpAny_pure q))) rfl KH1 along
    (inst.type.andThen (PySem.W.looks_subIn KH1 T.subV)) (PySem.W.ks_ne KH1 inst hcdD) (by decide) ?_
  show wpAny _ _ (callWith p3 (.ref h1.objs.size) [] (backTo p3 (starEach [msg] (supEnv qual (defScope st) s.heap.objs.size fI cda cc))) []) _ _ _
  rw [hst]
  generalize hu : h1.objs.size = u
  have k2 : ∀ b o, h1.get? b = some o → (h1.push (PySem.W.kxs_mw "ValueError.__init__" a)).get? b = some o := fun b o z => Heap.get?_push_of_some _ z
  have hmw : (h1.push (PySem.W.kxs_mw "ValueError.__init__" a)).get? u = some (PySem.W.kxs_mw "ValueError.__init__" a) := by rw [← hu]; exact Heap.get?_push_size _ rfl
  have I2 := I0.kept (h' := h1.push (PySem.W.kxs_mw "ValueError.__init__" a)) (t' := s.toks + (ps.zip us).length + 1) (fun b o z => k2 b o (k1 b o z))
  have uH : H u = none := by
    rw [← hu]
    exact I0.hok.fresh (Nat.le_of_lt (Heap.lt_size hso))
  have I3 : Inv (cxS P w K mg base N qual (defScope st) fI cda cc A outer s H) [(u, PySem.W.kxs_mw "ValueError.__init__" a)] (L2.start N vs) H _ := I2.pins_of (by
    intro p hp
    rw [List.mem_singleton.mp hp]
    refine ⟨hmw, uH, ?_, ?_, fun v z => nomatch z⟩
    · have z1 : s.heap.objs.size < hh.objs.size := hns.lt
      have z2 := Heap.lt_size hso
      rw [hu] at z2
      exact Nat.ne_of_gt (Nat.lt_trans z1 z2)
    · refine I0.nofs ?_
      rw [← hu]
      exact Nat.le_of_lt (Heap.lt_size hso))
  refine PySem.W.kxs_callWith (i := "ValueError.__init__") (x := a) rfl (PySem.Calls.evalArgs_plain ?_)
  refine PySem.Calls.spliced_cons (wpAny_mono (pm1.run _ _ _ _ _ I3 ready) ?_ (fun _ _ z => z.elim))
  rintro v s1 ⟨y, H1, I4, ry, hexo1, ready1⟩
  refine PySem.Calls.spliced_nil ⟨(I4.pin (u, _) (List.mem_append_right _ List.mem_cons_self)).1, ?_⟩
  obtain ⟨t1, he1⟩ := exo_at I4.hok hexo1
  have hmw1 := (I4.pin (u, _) (List.mem_append_right _ List.mem_cons_self)).1
  have KH4 := I4.kIn
  obtain ⟨hp4, g4, d4, tk4, os4⟩ := s1
  refine mw_call (KH4 _ _ hC) hmw1 he1 (by show 1 ≤ sizeLine; decide) (fun h5 t5 keep5 he5 => ?_)
  have I5 := I4.write (t' := tk4) (x := a) (e := a) (o := exo a C none) (by rw [hexo1]; exact True.intro) (.inl rfl) keep5 ⟨_, he5⟩ (exo_ok he5)
  have eH : upd H1 a (exo a C none) = H1 := by
    funext b
    by_cases hb : b = a
    · rw [hb, upd_same, hexo1]
    · rw [upd_ne hb]
  rw [eH] at I5
  refine PySem.wpAt_of_wpAny (wpAny_mono (prest.run _ _ _ _ _ I5 ready1) ?_ (fun _ _ z => z.elim))
  intro fl s' hs
  cases fl with
  | next =>
    obtain ⟨σ', H', J, q⟩ := hs
    exact ⟨V.non, H', J.os, J.bare, J.base, J.hok, rfl, q⟩
  | ret z =>
    obtain ⟨v', σ', H', J, rv, q⟩ := hs
    exact ⟨v', H', J.os, J.bare, J.base, J.hok, rv, q⟩
  | brk =>
    obtain ⟨_, _, _, z⟩ := hs
    exact (z : False).elim
  | cont =>
    obtain ⟨_, _, _, z⟩ := hs
    exact (z : False).elim
end
/-! ### such an error as a value -/
/-- C(e, ..) as a value: a new error at a, its dict at d -/
def tNewE (C : Addr) (sp : Sp) (ta : TA) : TE := fun σ H Q => ta σ H fun vs H1 => vs.length ≤ 1000 ∧ ∀ a, H1 a = none → sp (.ref a :: vs) (upd H1 a (exo a C none)) (fun v H2 => v = .non ∧ H1 a = none ∧ Q (.ref a) H2) fun _ _ _ => False
theorem pe_oex {X : Cx} {x : Str} {C fI : Addr} {k : Nat} {fd : FuncData} {ps : List Str} {sp : Sp} {e : Expr} {es : List Expr} {ta : TA} {p pos : Pos} (T : OexC X.K C) (iC : PySem.W.findIn X.K (.ref C) "__init__" = some (some (.ref fI))) (tI : PySem.W.typeIn X.K (.ref fI) = some (.type "function"))
    (F1 : FnOk X.prog X.w X.K X.mg X.base CX0 k fI fd ps sp) (hr : Room (k + 1) X.A) (hb : Binds X.K fd ps []) (hg : Gl X x) (hm : X.mg x = some (.ref C)) (ha : PA X (e :: es) ta)
    (hdb : (x == ("__debug__" : Str)) = false := by decide) (he : starEach (e :: es) X.env = (false, eval e X.env) :: starEach es X.env := by rfl) (hpl : (backTo pos (starEach es X.env)).any (·.1) = false := by rfl) :
    PE X (.Call (.Name x p) (e :: es) [] pos) (tNewE C sp ta) := by
  constructor
  intro pins s σ H Q I h
  obtain ⟨nm, q, N, bs, bm, sn, sub, ab, col, dd, k0, k1, k2, k3, k5, hC, hbm⟩ := T.cls
  have args := ha.run pos pins s σ H _ I h
  refine wpAny_Call_Name_kw (ld_glob I hg hm (PySem.W.callWith_K (h₀ := X.base) I.ok.mod.kin T.kC (thn args ?_) he hpl) hdb)
  rintro us s1 ⟨vs, H1, J, r1, hz, want⟩
  refine ⟨J.kIn, ?_⟩
  show wpAny _ _ (call (.ref C) us) _ _ _
  obtain ⟨hp, g, dr, tk, os⟩ := s1
  let a := hp.objs.size + 1
  let h2 : Heap := (hp.push (PySem.W.kdv_tup us)).push (PySem.HandSPX.excO C hp.objs.size)
  have big : hp.objs.size ≤ a := Nat.le_succ _
  have na : H1 a = none := J.hok.fresh big
  have keep : ∀ b o, hp.get? b = some o → h2.get? b = some o := fun b o z => Heap.get?_push_of_some _ (Heap.get?_push_of_some _ z)
  have at2 : h2.get? a = some (PySem.HandSPX.excO C hp.objs.size) := by
    show ((hp.push (PySem.W.kdv_tup us)).push (PySem.HandSPX.excO C hp.objs.size)).get? (hp.objs.size + 1) = _
    heap_get
  have J2 : Inv X pins σ (upd H1 a (exo a C none)) ⟨h2, g, dr, tk, os⟩ := J.laid (t' := tk) (a := a) (o := exo a C none) (h' := h2) keep big (exo_ok at2)
  have rel : Vals (V.ref a :: vs) (Value.ref a :: us) := .cons rfl r1
  have ready := want a na
  have len : (Value.ref a :: us).length = ps.length := by
    rw [← rel.length]
    exact F1.len _ _ _ _ ready
  have lus : us.length ≤ sizeLine := by
    rw [← r1.length, sizeLine_eq]
    omega
  have rel0 : Vals (V.ref a :: vs) (Value.ref a :: us ++ []) := by
    rw [List.append_nil]
    exact rel
  refine wpAny_call (PySem.HandSPX.call_own F.excBase_ValueError (fun Y => PySem.HandSPX.refsVE_contains Y bm hbm) (J.kIn _ _ hC) (PySem.W.looks_findIn J.kIn iC) (fun self => PySem.W.bind_fn J.kIn self tI) lus
    (codeAny_mono (F1.run _ X.stack _ _ ⟨Value.ref a :: us, []⟩ (Value.ref a :: us ++ []) (V.ref a :: vs) _ (fun _ _ _ => False) (hr.make C us []) (J2.env0.make C us []) (hb _ (Value.ref a :: us) J2.kIn (by rw [List.append_nil]; exact len)) rel0 ready) ?_))
  intro r s' hq
  match r, hq with
  | .error _, hq => exact (hq : False).elim
  | .ok .next, hq => exact False.elim hq
  | .ok .brk, hq => exact False.elim hq
  | .ok .cont, hq => exact False.elim hq
  | .ok (.ret u), hq =>
    obtain ⟨v, H2, os2, bare2, un2, ok2, rv, ev, _, q2⟩ := hq
    subst ev
    obtain ⟨hh2, g2, d2, t2, os'⟩ := s'
    exact ⟨rv, .ref a, H2, J2.call' (ch := []) os2 un2 ok2 bare2 (fun b z => nomatch z), rfl, q2⟩
/-! ### e.f of such an error that is tracked -/
def tExf (K : PySem.W.Frag) (f : Str) (te : TE) : TE := fun σ H Q => te σ H fun x H1 => ∃ (a C d : Addr) (fs : List (Str × V)) (v : V), x = .ref a ∧ ExcC K C ∧ PySem.W.findIn K (.ref C) f = some none ∧ H1 a = some (exo a C (some d)) ∧ H1 d = some (exd d fs) ∧ fs.lookup f = some v ∧ Q v H1
theorem pe_exf {X : Cx} {e : Expr} {te : TE} {pos : Pos} {n : Str} (he : PE X e te) (hb : attributeBase e n X.env (eval e X.env) = eval e X.env := by rfl) : PE X (.Attribute e n pos) (tExf X.K n te) := by
  constructor
  intro pins s σ H Q I h
  refine attr_of hb (thn (he.run pins s σ H _ I h) ?_)
  rintro u s1 ⟨x, H1, J, rx, a, C, d, fs, v, rfl, T, hno, ea, ed, hl, q⟩
  cases (show u = Value.ref a from rx)
  obtain ⟨t1, ho⟩ := exo_at J.hok ea
  obtain ⟨mA, hns, hr⟩ := exd_at J.hok ed
  obtain ⟨od, hod, hlk⟩ := lookIn_ns hns
  obtain ⟨w', hw, rw'⟩ := RelO.some_of (v := v) (o := mA n) (by rw [← hl]; exact hr n)
  have inst : PySem.W.InstAt s1.heap a { cls := .ref C, dict := some d, data := .fields #[.ref t1, .none, .none, .none, .bool false, .none] } C (some od) := ⟨ho, rfl, rfl, hod⟩
  exact HandSPX.exc_get J.kIn inst T.hg T.hk T.hs (PySem.W.findObj_own T.hd hno rfl (by rw [hlk, hw])) (handed_of rw') ⟨v, H1, J.tok _, rw', q⟩
/-! ### isinstance of an error that is tracked -/
theorem found_cls {K : PySem.W.Frag} {D : Addr} (T : ExcC K D) (od : Option Obj) : PySem.W.findObj K D od "__class__" = some (.bind (.builtin "getset_descriptor.__get__") (.builtin "object.__class__")) := by
  cases od with
  | none =>
    refine PySem.W.findObj_dataN ?_ T.ha T.hn T.ht
    obtain ⟨cd, e, _⟩ := PySem.W.any_some T.hd
    rw [e] <;> rfl
  | some o =>
    refine PySem.W.findObj_data ?_ T.ha T.hn T.ht
    obtain ⟨cd, e, _⟩ := PySem.W.any_some T.hd
    rw [e] <;> rfl
/-- e.__class__ of an error, with a dict of its own or without -/
theorem err_class {prog : Program} {w : World} {A : Around} {E : Value → Shared → Prop} {s : Shared} {K : PySem.W.Frag} {x D : Addr} {ox : Obj} {od : Option Obj} {Q : Option Value → Shared → Prop} (T : ExcC K D) (X : K.In s.heap) (I : PySem.W.InstAt s.heap x ox D od)
    (h : Q (some (.ref D)) { s with toks := s.toks + 1 }) : wpAny (model prog w) A (getAttr? (.ref x) "__class__") Q E s := by
  obtain ⟨hp, g, d, t, os⟩ := s
  have isD := I.type (M := model prog w)
  have noGo : (Value.builtin "BaseException.__getattribute__" == Value.builtin "object.__getattribute__") = false := by decide +kernel
  have plain : (onTheHeap (Value.ref D) && Value.builtin "BaseException.__getattribute__" == Value.builtin "object.__getattribute__") = false := by
    rw [noGo]
    exact Bool.and_false _
  unfold getAttr? getAttrBy? getAttrBy
  refine wpAny_bind (wpAny_mkText (wpAny_bind (wpAny_attempt (wpAny_holding (wpAny_bind (isD.at (wpAny_bind ((PySem.W.looks_findIn (M := model prog w) X T.hg).at ?_))))))))
  show wpAny _ _ (if (onTheHeap (Value.ref D) && Value.builtin "BaseException.__getattribute__" == Value.builtin "object.__getattribute__") = true then _ else _) _ _ _
  rw [if_neg (by rw [plain]; exact Bool.false_ne_true)]
  unfold getAttrByItsOwn hookBefore
  refine wpAny_bind ?_
  have onHeap : onTheHeap (Value.ref D) = true := rfl
  rw [if_pos onHeap]
  refine (PySem.W.looks_findIn (M := model prog w) X T.hk).at (wpAny_bind (wpAny_attempt (wpAny_holding ?_)))
  unfold callGetattribute boundAndCalled
  rw [if_neg (by exact Bool.false_ne_true), PySem.F.excAttr_ValueError.ga.bind (.ref x)]
  refine wpAny_bind (wpAny_pure ?_)
  show wpAny _ _ (call (.builtin "BaseException.__getattribute__") [.ref x, .str "__class__" t]) _ _ _
  refine wpAny_call (codeAny_call_builtin PySem.F.excAttr_ValueError.ga.plain PySem.F.entry_bexc_ga ?_)
  have sub : PySem.W.Looks (model prog w) hp (isInstance (.ref x) (.type "BaseException")) true := isD.andThen (PySem.W.looks_subIn X T.hs)
  refine @PySem.W.check_slot (model prog w) _ _ ⟨hp, g, d, t + 1, os⟩ "BaseException.__getattribute__" "BaseException" "__getattribute__" (.ref x) [.str "__class__" t] [] _ (by decide +kernel) (by decide +kernel) sub (PySem.F.args_bexc_ga (.ref x) (.str "__class__" t)) ?_
  unfold Builtin.«object.__getattribute__»
  refine wpAny_bind (wpAny_of_eq (a := ((Value.ref x : Value), [Value.str "__class__" t])) (by first | rfl | (simp only [slotArgs]; rfl)) (wpAny_bind (wpAny_pure (wpAny_bind (isD.at (wpAny_bind ((PySem.W.looks_find (M := model prog w) X I (found_cls T od)).at ?_)))))))
  show wpAny _ _ (holding [Value.builtin "object.__class__"] (call (.builtin "getset_descriptor.__get__") [.builtin "object.__class__", .ref x, .ref D]) >>= ret) _ _ _
  refine wpAny_bind (wpAny_holding (wpAny_call (PySem.W.class_get (s := ⟨hp, g, d, t + 1, os⟩) (ox := ox) (od := od) X I T.hm (wpAny_pure ?_))))
  show wpAny _ _ (handedOut (.ref D)) _ _ _
  rw [PySem.W.handedOut_of (v := .ref D) rfl]
  first
    | exact wpAny_pure (wpAny_pure h)
    | exact wpAny_pure h
    | exact wpAny_pure (wpAny_bind (wpAny_pure (wpAny_pure h)))
theorem kitx_err {K : PySem.W.Frag} {x D : Addr} {ox : Obj} {od : Option Obj} (T : ExcC K D) : PySem.W.KitX K (.ref x) (.ref D) (fun h => PySem.W.InstAt h x ox D od) := by
  have Z := PySem.W.handS_kitx_exc (x := x) (ox := ox) T.hg T.hk T.hs T.hd T.ha T.hn T.ht T.hm
  refine ⟨fun _ _ _ I => I.type, fun M h X _ => ?_, Z.ne, fun X I k => err_class T X I k⟩
  obtain ⟨cdD, e, _⟩ := PySem.W.any_some T.hd
  unfold PySem.W.clsIn at e
  split at e
  · rename_i c' d' cd' sl' ho
    intro A' Q' E' s' k q
    unfold isType loadHead
    exact wpAny_bind (wpAny_loadPart (k _ _ (X _ _ ho)) (wpAny_pure q))
  · cases e
/-- an error of the class at C stands at a -/
def ErrAt (H : Hp) (a C : Addr) : Prop := H a = some (ExO (.ref C) a) ∨ ∃ d fs, H a = some (exo a C (some d)) ∧ H d = some (exd d fs)
def rIsX (K : PySem.W.Frag) : List V → Hp → VK → Prop := fun xs H Q => ∃ (a C : Addr) (c : V) (u : Value) (b : Bool), xs = [.ref a, c] ∧ ErrAt H a C ∧ ExcC K C ∧ ClsV c u ∧ PySem.W.kitOne K (.ref C) u = some b ∧ Q (.bl b) H
theorem call_isX {X : Cx} : CallR X (.builtin "isinstance") (rIsX X.K) := by
  intro pins s σ H xs us Q I r h
  obtain ⟨a, C, c, cv, b, rfl, err, T, hc, e, q⟩ := h
  obtain ⟨u1, u2, rfl, r1, r2⟩ := vals2 r
  cases (show u1 = Value.ref a from r1)
  have e2 := hc.eq r2
  subst e2
  rcases err with ea | ⟨d, fs, ea, ed⟩
  · obtain ⟨⟨oe, vs, ho, hz, hd, _⟩, _, _⟩ := I.hok a _ ea
    obtain ⟨oc, od, oda, osl⟩ := oe
    obtain ⟨h1, h2⟩ := hz
    dsimp only at h1 h2 hd
    subst h1 h2 hd
    exact PySem.W.kia_one (PySem.W.handS_kitx_exc T.hg T.hk T.hs T.hd T.ha T.hn T.ht T.hm) I.kIn (show PySem.W.InstAt s.heap a _ C none from ⟨ho, rfl, rfl, trivial⟩) e (fun z => nomatch z) fun tk => ⟨.bl b, H, I.tok tk, rfl, q⟩
  · obtain ⟨t1, ho⟩ := exo_at I.hok ea
    obtain ⟨mA, hns, _⟩ := exd_at I.hok ed
    obtain ⟨od, hod, _⟩ := lookIn_ns hns
    exact PySem.W.kia_one (kitx_err T) I.kIn (show PySem.W.InstAt s.heap a _ C (some od) from ⟨ho, rfl, rfl, hod⟩) e (fun z => nomatch z) fun tk => ⟨.bl b, H, I.tok tk, rfl, q⟩
end My

namespace My
open PySem PySem.Spec PyProof.Rows L2
/-! ### try with several clauses, each with a name -/
/-- what a clause names, where its name stands, what its suite does -/
structure Clause where
  c : Value
  at_ : Nat
  ts : Addr → Value → Option Addr → TS
/-- the ways out of a suite: the clause's name is gone -/
def gone (i : Nat) (D : Ends) : Ends where
  nx := fun σ H => D.nx (σ.set i none) H
  rt := D.rt
  bk := fun σ H => D.bk (σ.set i none) H
  ct := fun σ H => D.ct (σ.set i none) H
/-- what the clauses wish of the body's exception -/
def wEach (K : PySem.W.Frag) (W0 : WX) (D : Ends) : List Clause → WX
  | [] => W0
  | q :: r => fun cls d σ H => ∃ b, PySem.W.exmOne K cls q.c = some b ∧ (b = true → ∀ a, H a = none → q.ts a cls d (gone q.at_ D) (σ.set q.at_ (some (.ref a))) H) ∧ (b = false → wEach K W0 D r cls d σ H)
inductive Clauses (X : Cx) : List ExceptHandler → List Clause → Prop
  | nil : Clauses X [] []
  | cons {x n : Str} {q : Clause} {st : Stmt} {sts : List Stmt} {p1 p2 : Pos} {more : List ExceptHandler} {r : List Clause} (nm : Names X x q.c) (slot : X.N[q.at_]? = some n) (loc : X.env.kindOf n = some .local)
      (body : ∀ (a : Addr) (oe : Obj) (cls : Value) (d : Option Addr) (pn : List (Addr × Obj)), Zc cls d oe → (∃ vs, oe.data = .fields vs) → PSs (X.suite a ((a, oe) :: pn)) (st :: sts) (q.ts a cls d)) (rest : Clauses X more r) :
      Clauses X (.ExceptHandler (some (.Name x p1)) (some n) (st :: sts) p2 :: more) (q :: r)
/-- the place where the clauses are asked -/
structure Landed (X : Cx) (a : Addr) (B : Heap) (sI s : Shared) (pins : List (Addr × Obj)) (σ : L2.St) (H : Hp) (cls : Value) (d : Option Addr) : Prop where
  J : Inv X pins σ H sI
  nb : ∀ b o, sI.heap.get? b = some o → b ∉ frs X.stack → B.get? b = some o
  up : sI.heap.UpToSlots s.heap
  os : s.os = sI.os
  ag : AllBare s.gens
  na : H a = none
  fl : HandSPX.FlyingZ B (X.env :: X.outer) a (Zc cls d) s.heap
section
variable {X : Cx} {a : Addr} {B : Heap} {sI s : Shared} {pins : List (Addr × Obj)} {σ : L2.St} {H : Hp} {cls : Value} {d : Option Addr}
theorem Landed.off (L : Landed X a B sI s pins σ H cls d) (hf : X.env.frame = some X.env.locals) : a ≠ X.env.locals ∧ a ∉ X.fs := by
  obtain ⟨o, vs, e, _, dt⟩ := L.fl.there
  have out : a ∉ frs (X.env :: X.outer) := by
    intro m
    obtain ⟨_, o', e', k⟩ := L.fl.2.2.1.mem m
    cases e.symm.trans e'
    exact k _ dt
  constructor
  · intro z
    refine out (List.mem_filterMap.mpr ⟨_, .head _, ?_⟩)
    rw [hf, z]
  · intro m
    obtain ⟨v, hv, q⟩ := List.mem_filterMap.mp m
    exact out (List.mem_filterMap.mpr ⟨v, .tail _ hv, q⟩)
theorem Landed.here (L : Landed X a B sI s pins σ H cls d) : Inv X pins σ H s := by
  have z := L.J.landed (s' := s) L.nb L.fl.1 L.up L.os L.ag
  exact z
theorem Landed.moved {h : Heap} (L : Landed X a B sI s pins σ H cls d) (f : HandSPX.FlyingZ B (X.env :: X.outer) a (Zc cls d) h) (u : s.heap.UpToSlots h) : Landed X a B sI { s with heap := h } pins σ H cls d :=
  ⟨L.J, L.nb, L.up.trans u, L.os, L.ag, L.na, f⟩
theorem Landed.asked {D : Ends} {W0 : WX} (hs : X.stack = X.env :: X.outer) (hf : X.env.frame = some X.env.locals) (hN : X.N.Nodup) (tk : Takes X W0) (L : Landed X a B sI s pins σ H cls d) :
    ∀ {hds : List ExceptHandler} {l : List Clause}, Clauses X hds l → wEach X.K W0 D l cls d σ H → wpAny (model X.prog X.w) X.A (handleBy (.ref a) X.env hds) (SP X pins D) X.xe s := by
  intro hds l cl
  have ok := L.J.ok
  obtain ⟨offL, offF⟩ := L.off hf
  obtain ⟨o, vs, ho, hz, hd⟩ := L.fl.there
  have S := L.here.suite ho hd L.na offL offF
  induction cl with
  | nil =>
    intro w
    refine wpAny_handleBy_nil ?_
    obtain ⟨_, _, _, o', vs', T, _, _, e', _, d', tb, _⟩ := id L.fl
    unfold PySem.passOn
    refine wpAny_bind (wpAny_field e' d' tb ?_)
    have nn : ¬ ((Value.ref T == Value.none) = true) := by simp
    rw [if_neg nn]
    have out : wpAny (model X.prog X.w) X.A (setFlight (.ref a) X.env.frame) (fun _ t => wpAny (model X.prog X.w) X.A (throw (.ref a) : Sem Flow) (SP X pins D) X.xe t) X.xe s := by
      rw [hf]
      refine HandSPX.setFlight_upZ L.fl fun g hg ug => wpAny_throw (tk _ _ ?_)
      have sky : Sky B X.stack a (Zc cls d) X.env.locals g := by
        rw [hs]
        exact .inr (.inr hg)
      exact ⟨_, _, _, _, _, _, _, _, rfl, L.J, L.nb, L.up.trans ug, sky, L.na, L.os, L.ag, w⟩
    first
      | exact wpAny_bind (wpAny_pure (wpAny_bind out))
      | exact wpAny_bind out
  | @cons x n q st sts p1 p2 more r nm slot loc body rest ih =>
    rintro ⟨b, eb, yes, no⟩
    refine wpAny_handleBy_cons (codeAny_handlers_test ?_) (by intro z; cases z)
    have ty : PySem.W.Looks (model X.prog X.w) s.heap (typeOf (.ref a)) cls := by
      intro A Q E t k z
      refine wpAny_typeOf_ref (k _ _ ho) ?_
      rw [hz.1]
      exact z
    have fits := PySem.W.exm_one (M := model X.prog X.w) L.here.kIn ty eb
    have named : ∀ {Q E : Value → Shared → Prop}, Q q.c s → wpAny (model X.prog X.w) (X.A.mark (some (.ref a))) (eval (.Name x p1) X.env) Q E s := by
      intro Q E z
      obtain ⟨g1, g2, g3⟩ := nm
      rcases g3 with g3 | ⟨g3, g4, g5⟩
      · exact ld_glob (X := X.suite a ((a, o) :: (X.pn ++ pins))) S g1 g3 z g2
      · exact ld_blt (X := X.suite a ((a, o) :: (X.pn ++ pins))) S g1 g3 g4 z g5 g2
    refine named (fits.here ?_)
    cases b with
    | false =>
      show wpAny _ X.A (handleBy (.ref a) X.env more) _ _ _
      exact ih (no rfl)
    | true =>
      refine codeAny_handlers_suite_as ?_
      refine HandSPX.lands_againZ L.fl fun g fg ug => ?_
      have Lm := L.moved fg ug
      obtain ⟨o2, _, e2, z2, d2⟩ := fg.there
      have S2 := Lm.here.suite e2 d2 L.na offL offF
      refine store_ok (X := X.suite a ((a, o2) :: (X.pn ++ pins))) (v := .ref a) S2 hN slot (.inl loc) rfl (fun t St => ?_) (.inr loc)
      have run := (body a o2 cls d (X.pn ++ pins) z2 ⟨_, d2⟩).run [] t _ H (gone q.at_ D) St (yes rfl a L.na)
      refine wpAny_mono run (fun f t6 post => ?_) (fun _ _ z => False.elim z)
      have close : ∀ {σ6 : L2.St} {H6 : Hp} {R : Shared → Prop}, Inv (X.suite a ((a, o2) :: (X.pn ++ pins))) [] σ6 H6 t6 → (∀ t7, Inv X pins (σ6.set q.at_ none) H6 t7 → R t7) →
          wpAny (model X.prog X.w) X.A (do bindName X.env n .none; unbindBehindTheSuite X.env n p2) (fun _ t7 => R t7) X.xe t6 := by
        intro σ6 H6 R I6 k
        exact gone_ok (I6.unsuite ok) hN slot loc k
      match f, post with
      | .next, ⟨_, _, I6, w6⟩ => exact close I6 fun t7 J7 => ⟨_, _, J7, w6⟩
      | .brk, ⟨_, _, I6, w6⟩ => exact close I6 fun t7 J7 => ⟨_, _, J7, w6⟩
      | .cont, ⟨_, _, I6, w6⟩ => exact close I6 fun t7 J7 => ⟨_, _, J7, w6⟩
      | .ret u, ⟨_, _, _, I6, r6, w6⟩ => exact close I6 fun t7 J7 => ⟨_, _, _, J7, r6, w6⟩
end
theorem ps_try_each {X : Cx} {body : List Stmt} {h0 : ExceptHandler} {hds : List ExceptHandler} {l : List Clause} {pos : Pos} {tb : WX → TS} {W0 : WX} (hs : X.stack = X.env :: X.outer) (hf : X.env.frame = some X.env.locals) (hN : X.N.Nodup) (tk : Takes X W0)
    (hb : ∀ (W : WX) (pn : List (Addr × Obj)) (xe : Value → Shared → Prop), Takes (X.tr pn xe) W → PassesOwn (model X.prog X.w) X.A X.env xe → PSs (X.tr pn xe) body (tb W)) (cl : Clauses X (h0 :: hds) l) :
    PS X (.Try body (h0 :: hds) [] [] pos) (fun D σ H => tb (wEach X.K W0 D l) D σ H) := by
  constructor
  intro pins s σ H D I h
  have ok := I.ok
  have fr : X.A.frames = some (X.env :: X.outer) := ok.frames.trans (congrArg some hs)
  refine wpAny_Try_except ?_
  refine wpAny_mono ((hb (wEach X.K W0 D l) (X.pn ++ pins)
    (fun e s1 => wpAny (model X.prog X.w) X.A (noteFrame e X.env) (fun _ s2 => wpAny (model X.prog X.w) X.A (setFlight e none) (fun _ s3 =>
      wpAny (model X.prog X.w) X.A (handleBy e X.env (h0 :: hds)) (SP X pins D) X.xe s3) X.xe s2) X.xe s1) ?_ PassesOwn.looking).run [] s σ H D (I.toTry _) h) ?_ (fun _ _ z => z)
  · rintro u s1 ⟨a, B, sI, pins1, σ1, H1, cls, d, rfl, J, nb, up, sky, na, os, ag, w⟩
    show wpAny (model X.prog X.w) X.A (noteFrame (.ref a) X.env) _ _ _
    have sky1 : Sky B (X.env :: X.outer) a (Zc cls d) X.env.locals s1.heap := by
      rw [← hs]
      exact sky
    refine Sky.land Zc.steady fr hf sky1 fun g fg ug => ?_
    have L : Landed X a B sI { s1 with heap := g } pins σ1 H1 cls d := ⟨J.ofTry ok, nb, up.trans ug, os, ag, na, fg⟩
    exact L.asked hs hf hN tk cl w
  · intro f s1 post
    match f, post with
    | .next, ⟨_, _, I6, w6⟩ => exact wpAny_execs_nil ⟨_, _, I6.ofTry ok, w6⟩
    | .brk, ⟨_, _, I6, w6⟩ => exact ⟨_, _, I6.ofTry ok, w6⟩
    | .cont, ⟨_, _, I6, w6⟩ => exact ⟨_, _, I6.ofTry ok, w6⟩
    | .ret u, ⟨_, _, _, I6, r6, w6⟩ => exact ⟨_, _, _, I6.ofTry ok, r6, w6⟩
end My

namespace My
open PySem PySem.Spec PyProof.Rows L2
/-! ### a set of texts, made of a list -/
def addU (us : List Str) (x : Str) : List Str := if us.any (· == x) then us else us ++ [x]
/-- each text once, in the order of the first ones -/
def uniq (xs : List Str) : List Str := xs.foldl addU []
theorem uniq_take {xs : List Str} {i : Nat} (h : i < xs.length) : uniq (xs.take (i + 1)) = addU (uniq (xs.take i)) (xs.getD i Str.empty) := by
  unfold uniq
  rw [List.take_succ, List.getElem?_eq_getElem h, Option.toList_some, List.foldl_append, List.getD_eq_getElem?_getD, List.getElem?_eq_getElem h]
  rfl
theorem addU_any (us : List Str) (x y : Str) : (addU us x).any (· == y) = (us.any (· == y) || decide (y = x)) := by
  unfold addU
  split
  · rename_i h
    by_cases e : y = x
    · rw [e, h]
      rfl
    · rw [decide_eq_false e, Bool.or_false]
  · rw [List.any_append]
    congr 1
    by_cases e : y = x
    · subst e
      simp
    · have n : (x == y) = false := beq_eq_false_iff_ne.mpr fun z => e z.symm
      simp [n, e]
theorem addU_len (us : List Str) (x : Str) : (addU us x).length = if us.any (· == x) then us.length else us.length + 1 := by
  unfold addU
  split
  · rfl
  · rw [List.length_append]
    rfl
theorem addU_le (us : List Str) (x : Str) : (addU us x).length ≤ us.length + 1 := by
  rw [addU_len]
  split <;> omega
theorem uniq_le (xs : List Str) : ∀ i, i ≤ xs.length → (uniq (xs.take i)).length ≤ i := by
  intro i
  induction i with
  | zero =>
    intro _
    rw [List.take_zero]
    exact Nat.le_refl 0
  | succ i ih =>
    intro h
    rw [uniq_take h]
    have z := ih (by omega)
    have y := addU_le (uniq (xs.take i)) (xs.getD i Str.empty)
    omega
theorem fold_len : ∀ (xs us : List Str), us.Nodup → (xs.foldl addU us).length ≤ us.length + xs.length ∧ ((xs.foldl addU us).length = us.length + xs.length ↔ (us ++ xs).Nodup)
  | [], us, hn => by simp [hn]
  | x :: r, us, hn => by
    by_cases h : us.any (· == x) = true
    · have e : addU us x = us := if_pos h
      obtain ⟨a, b⟩ := fold_len r us hn
      rw [List.foldl_cons, e, List.length_cons]
      refine ⟨by omega, ⟨fun z => by omega, fun z => ?_⟩⟩
      obtain ⟨y, hy, ey⟩ := List.any_eq_true.mp h
      have ey : y = x := beq_iff_eq.mp ey
      subst ey
      exact absurd rfl ((List.nodup_append.mp z).2.2 y hy y List.mem_cons_self)
    · have e : addU us x = us ++ [x] := if_neg h
      have nx : x ∉ us := fun z => h (List.any_eq_true.mpr ⟨x, z, beq_self_eq_true x⟩)
      have hn2 : (us ++ [x]).Nodup := by
        refine List.nodup_append.mpr ⟨hn, List.nodup_cons.mpr ⟨(fun z => nomatch z), List.nodup_nil⟩, fun a ha b hb => ?_⟩
        rw [List.mem_singleton.mp hb]
        exact fun z => nx (z ▸ ha)
      obtain ⟨a, b⟩ := fold_len r (us ++ [x]) hn2
      rw [List.foldl_cons, e, List.length_cons]
      rw [List.length_append, List.length_cons, List.length_nil] at a b
      refine ⟨by omega, ?_⟩
      rw [show us.length + (r.length + 1) = us.length + (0 + 1) + r.length by omega, b, List.append_assoc]
      rfl
theorem uniq_len (xs : List Str) : (uniq xs).length ≤ xs.length ∧ ((uniq xs).length = xs.length ↔ xs.Nodup) := by
  obtain ⟨a, b⟩ := fold_len xs [] List.nodup_nil
  rw [List.length_nil, Nat.zero_add, List.nil_append] at *
  exact ⟨a, b⟩
section
variable {P : Program} {w : World} {A : Around} {R : Result → Shared → Prop} {it : Addr} {fp wr : List Addr} {G : Array GenState → Array GenState → Prop} {n : Nat} {V1 : Nat → Value → Prop} {St1 : Nat → Shared → Prop}
theorem setOf_moved {a : Addr} {us : List Str} {st st' : Shared} {wr : List Addr} {G : Array GenState → Array GenState → Prop} (h : st.heap.SetOf (PySem.strKind P w) a (fun y => us.any (· == y)) us.length) (m : Moved wr G st st') (ha : a ∉ wr) : st'.heap.SetOf (PySem.strKind P w) a (fun y => us.any (· == y)) us.length := by
  obtain ⟨ob, e1, e2, e3, hob, more⟩ := h
  exact ⟨ob, e1, e2, e3, m.heap a _ ha hob, more⟩
theorem loop_texts (W : WalksS P w A.in1 it fp wr G n V1 St1) (a : Addr) (ha : a ∉ fp) {xs : List Str} (hn : n = xs.length) (hval : ∀ i v, V1 i v → ∃ t, v = .str (xs.getD i Str.empty) t) (hb : n + 1 < scanBound) :
    ∀ (m i : Nat) (st : Shared), i + m = n → St1 i st → st.heap.SetOf (PySem.strKind P w) a (fun y => (uniq (xs.take i)).any (· == y)) (uniq (xs.take i)).length →
      (∀ st', Moved (a :: wr) G st st' → st'.heap.SetOf (PySem.strKind P w) a (fun y => (uniq (xs.take n)).any (· == y)) (uniq (xs.take n)).length → R (.ok (.ret .none)) st') →
      codeAny (model P w) A (.builtin "set.update.loop" ⟨[.ref a, .ref it], []⟩) R st := by
  have ha2 : a ∉ wr := fun z => ha (W.sub _ z)
  intro m
  induction m with
  | zero =>
    intro i st him hst hS hR
    obtain rfl : i = n := him
    refine codeAny_builtin PyProof.Rows.F.entry_set_update_loop ?_
    rw [Around.under_plainId PyProof.Rows.F.plain_set_update_loop _]
    show wpAny _ A.in1 (pyNext (.ref it) >>= _) _ _ st
    refine wpAny_bind (W.done st _ _ hst fun st' mv => ?_)
    show wpAny _ A.in1 (ret Value.none) _ _ st'
    exact wpAny_pure (hR st' (mv.mono fun b hb => List.mem_cons_of_mem _ hb) (setOf_moved hS mv ha2))
  | succ m ih =>
    intro i st him hst hS hR
    have hi : i < n := by omega
    refine codeAny_builtin PyProof.Rows.F.entry_set_update_loop ?_
    rw [Around.under_plainId PyProof.Rows.F.plain_set_update_loop _]
    show wpAny _ A.in1 (pyNext (.ref it) >>= _) _ _ st
    refine wpAny_bind (W.item i st _ _ hi hst fun v st1 hv hst1 mv => ?_)
    obtain ⟨tk, rfl⟩ := hval i v hv
    have hS1 := setOf_moved hS mv ha2
    show wpAny _ A.in1 (holding [Value.str (xs.getD i Str.empty) tk] (setAdd a (.str (xs.getD i Str.empty) tk)) >>= _) _ _ st1
    refine wpAny_bind (wpAny_holding ?_)
    unfold setAdd
    refine wpAny_holding (wpAny_bind ((PySem.strKind P w).pyHash (k := xs.getD i Str.empty) (strKind_is _ _ _ _) ?_))
    have few := uniq_le xs i (by omega)
    refine wpAny_setAddHashed_of (knd := PySem.strKind P w) (s := { st1 with toks := st1.toks + 1 }) (strKind_is _ _ _ _) rfl hS1 (by omega) fun h2 only hS2 => ?_
    have hS3 : h2.SetOf (PySem.strKind P w) a (fun y => (uniq (xs.take (i + 1))).any (· == y)) (uniq (xs.take (i + 1))).length := by
      refine SetOf_congr hS2 (fun y => ?_) ?_
      · rw [uniq_take (by omega), addU_any]
      · rw [uniq_take (by omega), addU_len]
    refine wpAny_pure ⟨plainId_quiet PyProof.Rows.F.plain_set_update_loop _, ih (i + 1) _ (by omega) (W.frame _ st1 _ _ hst1 (Nat.le_succ _) fun b hb o e => ?_) hS3 fun st2 mv2 hS4 => hR st2 (Moved.trans W.gtrans ((mv.mono fun b hb => List.mem_cons_of_mem _ hb).then_heap (Nat.le_succ _) fun b o hb e => ?_) mv2) hS4⟩
    · rw [only.2 b fun z => ha (z ▸ hb)]
      exact e
    · rw [only.2 b fun z => hb (z ▸ List.mem_cons_self)]
      exact e
end
/-- what a new set looks like ahead of its first item -/
abbrev bareSet (led : Bool) : Obj := { cls := .type "set", dict := none, data := .set #[] 0 (.fresh 0 0 led) }
section
variable {P : Program} {w : World} {A : Around} {E : Value → Shared → Prop} {st : Shared}
/-- .. the heap behind the call: old things stay, the texts stand in the set at a, once each -/
def Made (P : Program) (w : World) (h0 : Heap) (a : Addr) (xs : List Str) (h1 : Heap) : Prop := h1.SetOf (PySem.strKind P w) a (fun y => (uniq xs).any (· == y)) (uniq xs).length ∧ ∀ b ob, b < h0.objs.size → h0.get? b = some ob → h1.get? b = some ob
theorem set_texts {l : Addr} {its : Array Value} {xs : List Str} {Q : Value → Shared → Prop} (hh : A.handled = none) (hl : st.heap.IsList l its) (hx : PyProof.Rows.StrsAre its.toList xs) (few : xs.length + 1 < scanBound)
    (done : ∀ h1 tk, Made P w st.heap st.heap.objs.size xs h1 → Q (.ref st.heap.objs.size) { st with heap := h1, toks := tk }) : wpAny (model P w) A (call (.type "set") [.ref l]) Q E st := by
  obtain ⟨c1, c2, order⟩ := PySem.F.called_set.mro
  have f1 := PySem.F.called_set.made
  have f2 := PySem.F.called_set.sub
  refine wpAny_call (codeAny_of_tree ?_)
  show wpAny _ _ (callAny (.type "set") _) _ _ _
  refine wpAny_pure ⟨Code.quiet_builtin _ (by decide +kernel), codeAny_builtin PySem.F.entry_type_call ?_⟩
  rw [Around.under_plain (weight_type_call_type "set" [.ref l] []) rfl]
  have f3 := PySem.F.called_set.notType
  have f4 := PySem.F.called_set.canCreate
  have f5 := PySem.F.typeCall_set_1 (.ref l)
  repeat (any_goals (first | assumption | wp_step))
  refine codeAny_mono (code_set_new_1 (.ref l) (E := E) (Q₁ := fun v s1 => ∃ led : Bool, v = .ref st.heap.objs.size ∧ s1 = { st with heap := st.heap.push (bareSet led) }) fun led => ⟨led, rfl, rfl⟩) fun r s1 hr => ?_
  cases r with
  | error e => exact hr
  | ok fl =>
    cases fl with
    | ret obj =>
      obtain ⟨led, rfl, rfl⟩ := hr
      have here : (st.heap.push (bareSet led)).get? st.heap.objs.size = some (bareSet led) := Heap.get?_push_size _ rfl
      have isSet : Shared.TypeIs { st with heap := st.heap.push (bareSet led) } (.ref st.heap.objs.size) "set" := ⟨_, here, rfl⟩
      have f6 := PySem.F.called_set.init.lookup
      have f7 := PySem.F.called_set.init.bind (.ref st.heap.objs.size)
      repeat (any_goals (first | assumption | wp_step))
      refine codeAny_mono (codeAny_call_builtin (R := wants (fun v s2 => v = .none ∧ ∃ h1 tk, s2 = { st with heap := h1, toks := tk } ∧ Made P w st.heap st.heap.objs.size xs h1) E) PySem.F.called_set.init.plain PySem.F.entry_set_init (check_set_init_1 isSet ?_)) fun r2 s2 hr2 => ?_
      · obtain ⟨⟨k1, k2, k3, k4⟩, lat, lc, nl, ld⟩ := hl
        dsimp only at lc ld
        subst lc ld
        have lat1 : (st.heap.push (bareSet led)).get? l = some { cls := .type "list", dict := k2, data := .seq its nl, slots := k4 } := Heap.get?_push_of_some _ lat
        have g1 := PySem.F.sub_list_set
        have g2 := PySem.F.sub_list_frozenset
        have g3 : (Value.type "list" == Value.type "dict") = false := by decide
        have isL : (st.heap.push (bareSet led)).IsList l its := ⟨_, lat1, rfl, nl, rfl⟩
        have low : l < st.heap.objs.size := Heap.lt_size lat
        unfold Builtin.«set.__init__» noKeywords Builtin.Frozenset.updateFrom
        generalize again : pyIter = PI
        wp_walk
        subst again
        refine wpAny_pyIter_list isL (wpAny_bind (wpAny_runValue ?_))
        have top : (st.heap.push (bareSet led)).objs.size = st.heap.objs.size + 1 := Heap.size_push ..
        have size : its.size = xs.length := by rw [← Array.length_toList, ← StrsAre.len_eq hx]
        refine loop_texts ((Walks.list (by simp [hh]) _ l (by rw [top]; exact Nat.ne_of_lt (Nat.lt_succ_of_lt low)) its).toS) st.heap.objs.size ?_ size (fun i v hv => SS.strs_at hx i v (by rw [Array.getElem?_toList]; exact hv)) (by rw [size]; exact few) its.size 0 _ (Nat.zero_add _) ⟨⟨_, Heap.get?_push_size _ rfl, rfl, rfl⟩, isL.push _⟩ ?_ ?_
        · rw [top]
          simp only [List.mem_cons, List.mem_singleton, List.not_mem_nil, or_false, not_or]
          exact ⟨Nat.ne_of_lt (Nat.lt_succ_self _), Nat.ne_of_gt low⟩
        · exact PyProof.Rows.SetOf_congr ((PyProof.Rows.setObjOf_fresh (knd := PySem.strKind P w) led).setOf (Heap.get?_push_of_some _ here) (by unfold scanBound; omega)) (fun _ => rfl) rfl
        · intro s3 mv hS
          rw [size, List.take_length] at hS
          obtain ⟨h3, g3, d3, t3, o3⟩ := s3
          obtain rfl : g3 = st.gens := mv.gens
          obtain rfl : d3 = st.drawn := mv.drawn
          obtain rfl : o3 = st.os := mv.os
          show wpAny _ _ _ _ _ _
          refine wpAny_pure ?_
          show wpAny _ _ (ret Value.none) _ _ _
          refine wpAny_pure ⟨rfl, h3, t3, rfl, hS, fun b ob hb e => mv.heap b ob ?_ (Heap.get?_push_of_some _ (Heap.get?_push_of_some _ e))⟩
          rw [top]
          simp only [List.mem_cons, List.mem_singleton, List.not_mem_nil, or_false, not_or]
          exact ⟨Nat.ne_of_lt hb, Nat.ne_of_lt (Nat.lt_succ_of_lt hb)⟩
      · cases r2 with
        | error e => exact hr2
        | ok fl2 =>
          cases fl2 with
          | ret v =>
            obtain ⟨rfl, h1, tk, rfl, made⟩ := hr2
            repeat (any_goals (first | assumption | wp_step))
            exact done _ _ made
          | _ => exact hr2.elim
    | _ => exact hr.elim
end
end My

namespace My
open PySem PySem.Spec PyProof.Rows L2
/-- len(set(xs)), xs a list of texts -/
def tLenSetT (K : PySem.W.Frag) (ta : TE) : TE := fun σ H Q => ta σ H fun x H1 => ∃ (l : Addr) (xs : List Str), x = .ref l ∧ SqL K H1 l (xs.map V.str) ∧ xs.length ≤ 30 ∧ Q (.int (uniq xs).length) H1
theorem pe_lenSetT {X : Cx} {a : Expr} {ta : TE} {p p2 q pos : Pos} (hc : X.calm = true) (hg : Gl X "len") (hm : X.mg "len" = none) (hg2 : Gl X "set") (hm2 : X.mg "set" = none) (ha : PE X a ta)
    (na : starEach [a] X.env = (false, eval a X.env) :: starEach [] X.env := by rfl) : PE X (.Call (.Name "len" p) [.Call (.Name "set" p2) [a] [] q] [] pos) (tLenSetT X.K ta) := by
  refine ⟨fun pins s σ H Q I h => ?_⟩
  refine Call_ (ld_blt I hg hm boot_len (PyProof.Rows.callWith_builtin1 (PyProof.Rows.args_cons ?_ rfl) rfl rfl))
  refine Call_ (ld_blt I hg2 hm2 boot_set (PyProof.Rows.callWith_type1 (PyProof.Rows.args_cons (thn (ha.run pins s σ H _ I h) fun v s1 hv => PyProof.Rows.args_nil ?_) na) na rfl))
  obtain ⟨x, H1, I1, r1, l, xs, rfl, hq, few, q1⟩ := hv
  cases r1
  obtain ⟨its, r, pl, hz⟩ := I1.list hq
  refine set_texts (I1.ok.hd hc) pl.isList (by simpa using strsAre_of r) (by unfold scanBound; omega) fun h1 tk made => PyProof.Rows.args_nil ?_
  obtain ⟨⟨ob, es, ep, t, ho, hex, hd, _, _, _, hf, hn⟩, old⟩ := made
  have I2 : Inv X pins σ H1 { s1 with heap := h1, toks := tk } := I1.kept fun b o e => old b o (Heap.lt_size e) e
  have z := (uniq_len xs).1
  exact call_len_set ho hex hd hf (by rw [hn]; omega) ⟨.int (uniq xs).length, H1, I2.tok _, ⟨_, by rw [hn]⟩, q1⟩
/-! ### a list != [] , whatever stands in it -/
def rNeNil : R2 := fun x y H Q => ∃ (a b : Addr) (xs : List V), x = .ref a ∧ y = .ref b ∧ H a = some (.lst xs) ∧ H b = some (.lst []) ∧ Q (.bl (!xs.isEmpty)) H
theorem op_neNil {X : Cx} (hu : X.A.units + 64 < cLine) : OpR X (compareOp .NotEq) rNeNil := by
  intro pins s σ H x y v u Q I rx ry h
  obtain ⟨a, b, xs, rfl, rfl, ha, hb, q⟩ := h
  cases rx
  cases ry
  obtain ⟨z, its, n, r, hl, e⟩ := I.lstM ha
  obtain ⟨z2, its2, n2, r2, hl2, e2⟩ := I.lstM hb
  have l1 : s.heap.IsList a its.toArray := ⟨_, e, rfl, n, rfl⟩
  have l2 : s.heap.IsList b its2.toArray := ⟨_, e2, rfl, n2, rfl⟩
  have l0 : its2 = [] := by
    cases its2 with
    | nil => rfl
    | cons => cases hl2
  subst l0
  cases xs with
  | nil =>
    have l3 : its = [] := by
      cases its with
      | nil => rfl
      | cons => cases hl
    subst l3
    exact SeqAt.RcNeAt.lists l1 l2 rfl (by omega) (e := fun _ => true) (fun j h1 h2 => absurd h1 (Nat.not_lt_zero j)) _ _ _ _ ⟨.bl false, H, I, rfl, q⟩
  | cons x0 r0 =>
    have big : its.length = r0.length + 1 := hl.symm
    exact SeqAt.RcNeAt.lists_lengths l1 l2 (by simp only [List.size_toArray, big, List.length_nil]; rfl) (by omega) _ _ _ _ ⟨.bl true, H, I, rfl, q⟩
end My

namespace My
open PySem PySem.Spec PyProof.Rows L2
/-! ### tuple(list), the new object told; dict of such a tuple of pairs -/
def rTupleF (K : PySem.W.Frag) : List V → Hp → VK → Prop := fun xs H Q => ∃ p ys, xs = [.ref p] ∧ SqL K H p ys ∧ ∀ l o, H l = none → o.dict = none → Q (.ref l) (upd H l (.frz o (.tup ys)))
theorem call_tupleF {X : Cx} : CallR X (.type "tuple") (rTupleF X.K) := by
  intro pins s σ H xs us Q I r h
  obtain ⟨p, ys, rfl, hq, q⟩ := h
  obtain ⟨u, rfl, rx⟩ := vals1 r
  cases rx
  obtain ⟨its, r', pl, hz⟩ := I.list hq
  have hlen := r'.length
  refine call_tuple_list pl.isList (fun h' kp => ?_) (by simp only [List.size_toArray] <;> omega)
  have I1 : Inv X pins σ H { s with heap := h' } := I.kept (t' := s.toks) kp
  have I2 : Inv X pins σ (upd H h'.objs.size (.frz { cls := .type "tuple", data := .seq its.toArray } (.tup ys))) { s with heap := h'.push { cls := .type "tuple", data := .seq its.toArray } } :=
    I1.laid (t' := s.toks) (fun b o e => Heap.get?_push_of_some _ e) (Nat.le_refl _) (show ObjOk X.prog X.w _ _ _ (.frz _ (.tup ys)) from ⟨Heap.get?_push_size _ rfl, hz, its, r', IsTup.new _ _⟩)
  exact ⟨.ref h'.objs.size, _, I2, rfl, q _ _ (I1.hok.fresh (Nat.le_refl _)) rfl⟩
/-- the pairs at ps as values -/
theorem pairs_at {X : Cx} {pins : List (Addr × Obj)} {σ : L2.St} {H : Hp} {s : Shared} (I : Inv X pins σ H s) : ∀ {ps : List Addr} {kvs : List (Key × V)}, Paired (fun p kv => SqT X.K H p [kV kv.1, kv.2]) ps kvs →
    ∃ (prs : List (Key × Value)) (raw : List (Value × Value)), KV kvs prs ∧ prs.length = ps.length ∧ raw.length = ps.length ∧ ∀ (j : Nat) (k v : Value), raw[j]? = some (k, v) → ∃ (b : Addr) (x : Key), ps[j]? = some b ∧ PySem.PairAt s.heap b k v ∧ prs[j]? = some (x, v) ∧ keyIs x k = true
  | _, _, .nil => ⟨[], [], .nil, rfl, rfl, fun j k v e => by simp at e⟩
  | _, _, .cons (a := p) (b := kv) h t => by
    obtain ⟨prs, raw, r, l1, l2, hp⟩ := pairs_at I t
    obtain ⟨its, rv, ht, _⟩ := I.tuple h
    obtain ⟨u, y, rfl, ru, ry⟩ := vals2 rv
    refine ⟨(kv.1, y) :: prs, (u, y) :: raw, .cons ⟨rfl, ry⟩ r, by rw [List.length_cons, List.length_cons, l1], by rw [List.length_cons, List.length_cons, l2], fun j k v e => ?_⟩
    cases j with
    | zero =>
      cases e
      exact ⟨p, kv.1, rfl, .inl ht, rfl, kV_is (P := X.prog) (w := X.w) ru⟩
    | succ j => exact hp j k v e
def rDictT (K : PySem.W.Frag) : List V → Hp → VK → Prop := fun xs H Q => ∃ (a : Addr) (ps : List Addr) (kvs : List (Key × V)) (o : Obj), xs = [.ref a] ∧ H a = some (.frz o (.tup (ps.map V.ref))) ∧ o.dict = none ∧ Paired (fun p kv => SqT K H p [kV kv.1, kv.2]) ps kvs ∧ ∀ q, H q = none → Q (.ref q) (upd H q (.dK (mergeK [] kvs)))
theorem call_dictT {X : Cx} (calm : X.calm = true) : CallR X (.type "dict") (rDictT X.K) := by
  intro pins s σ H xs us Q I r h
  obtain ⟨a, ps, kvs, o, rfl, ha, hd, hp, q⟩ := h
  obtain ⟨u, rfl, rx⟩ := vals1 r
  cases rx
  obtain ⟨ho, hz, its, rv, o2, ho2, hc, n, hdat⟩ := I.hok a _ ha
  cases ho.symm.trans ho2
  have ei := refs_at rv
  subst ei
  obtain ⟨prs, raw, rel, l1, l2, hpr⟩ := pairs_at I hp
  rw [List.length_map] at hz
  refine PySem.call_dict_pairs (knd := mixKind X.prog X.w) (kvs := prs) (PySem.PairArg.tuple a (ps.map Value.ref).toArray (fun j => ps.getD j 0) raw) (I.ok.hd calm) ⟨⟨o, n, ho, hc, hd, hdat⟩, ?_, fun j k v e => ?_⟩ ⟨by rw [l1, l2], fun j k v e => ?_⟩ (by rw [l2]; exact hz) fun h' tk hd' keep => ?_
  · rw [List.size_toArray, List.length_map, l2]
  · obtain ⟨b, x, e1, e2, e3, e4⟩ := hpr j k v e
    have eb : ps.getD j 0 = b := by rw [List.getD_eq_getElem?_getD, e1]; rfl
    show (ps.map Value.ref).toArray[j]? = some (.ref (ps.getD j 0)) ∧ PySem.PairAt s.heap (ps.getD j 0) k v
    rw [eb]
    exact ⟨by simp [e1], e2⟩
  · obtain ⟨b, x, e1, e2, e3, e4⟩ := hpr j k v e
    exact ⟨x, e3, e4⟩
  · have hm : (s.heap.objs.size == sysModules) = false := beq_eq_false_iff_ne.mpr (Nat.ne_of_gt I.big)
    have hlen : (mergeK [] kvs).length ≤ sizeLine := by
      have z := length_mergeK kvs []
      rw [List.length_nil, Nat.zero_add, rel.length, l1] at z
      omega
    have k : ∀ b u, s.heap.get? b = some u → h'.get? b = some u := fun b u e => keep b u (fun z => nomatch z) e
    exact ⟨.ref s.heap.objs.size, upd H s.heap.objs.size (.dK (mergeK [] kvs)), I.laid (t' := tk) k (Nat.le_refl _) (show ObjOk X.prog X.w _ _ _ (.dK (mergeK [] kvs)) from ⟨hlen, hm, merged [] prs, KV.merge rel .nil, hd'⟩), rfl, q _ (I.hok.fresh (Nat.le_refl _))⟩
end My

namespace My
open PySem PySem.Spec PyProof.Rows L2
/-! ### weaker words for + and slices of tuples: some tuple with these items, all else the same -/
def rCatX : R2 := fun x y H Q => ∃ a b xs ys, x = .ref a ∧ y = .ref b ∧ Rd H a (.tup xs) ∧ Rd H b (.tup ys) ∧ xs.length + ys.length ≤ sizeLine ∧ ∀ r H', Same H H' → Rd H' r (.tup (xs ++ ys)) → Q (.ref r) H'
theorem op_catX {X : Cx} : OpR X (binaryOp .Add) rCatX := by
  intro pins s σ H x y v u Q I rx ry h
  obtain ⟨a, b, xs, ys, rfl, rfl, ha, hb, hz, q⟩ := h
  refine op_catA pins s σ H _ _ v u Q I rx ry ⟨a, b, xs, ys, rfl, rfl, .inl ha, .inl hb, hz, fun e => ?_, fun _ e => ?_, fun _ _ p hp => ?_⟩
  · subst e
    exact q b H (L2.Same.refl H) hb
  · subst e
    exact q a H (L2.Same.refl H) (by rw [List.append_nil]; exact ha)
  · refine q p _ (fun c o e => ?_) (.inl upd_same)
    rw [upd_ne (ne_of_none e hp)]
    exact e
def rSlX : V → Option Int → Option Int → Hp → VK → Prop := fun x lo hi H Q => ∃ a xs, x = .ref a ∧ Rd H a (.tup xs) ∧ ∀ r H', Same H H' → Rd H' r (.tup (cutV xs lo hi)) → Q (.ref r) H'
theorem sl_X {X : Cx} : SlR X rSlX := by
  intro pins s σ H x v vl vu lo hi sl Q I rx hs pl pu h
  obtain ⟨a, xs, rfl, hx, q⟩ := h
  refine sl_tupA pins s σ H _ v vl vu lo hi sl Q I rx hs pl pu ⟨a, xs, rfl, .inl hx, fun w => ?_, fun _ p hp => ?_⟩
  · refine q a H (L2.Same.refl H) ?_
    unfold cutV
    rw [w.1, w.2, List.drop_zero, Nat.sub_zero, List.take_length]
    exact hx
  · refine q p _ (fun c o e => ?_) (.inl upd_same)
    rw [upd_ne (ne_of_none e hp)]
    exact e
/-! ### t[::-1] of a tuple -/
section
open MeetsSeq MeetsSeq2 MeetsSeq3 SeqRoads2
variable {P : Program} {w : World} {A : Around} {E : Value → Shared → Prop} {st : Shared}
theorem applied_back {sl : Addr} {v1 v2 v3 : Value} {n : Nat} {Q : Int × Int × Nat → Shared → Prop} (hs : st.heap.IsSliceOf sl v1 v2 v3) (p1 : IsPart v1 none) (p2 : IsPart v2 none) (p3 : IsPart v3 (some (-1)))
    (h : Q ((n : Int) - 1, -1, n) st) : wpAny (model P w) A (Builtin.Slice.sliceApplied (.ref sl) (pure (n : Int))) Q E st := by
  obtain ⟨ob, at1, cl1, da1⟩ := id hs
  unfold Builtin.Slice.sliceApplied Builtin.Slice.sliceFields
  refine wpAny_bind (wpAny_bind (wpAny_field at1 da1 (x := v1) rfl (wpAny_bind (wpAny_field at1 da1 (x := v2) rfl (wpAny_bind (wpAny_field at1 da1 (x := v3) rfl (wpAny_pure ?_)))))))
  refine wpAny_bind (HT.slicePart_ p3 ?_)
  show wpAny _ _ (if ((-1 : Int) == 0) = true then _ else _) _ _ st
  rw [if_neg (by decide)]
  refine wpAny_bind (HT.slicePart_ p1 (wpAny_bind (HT.slicePart_ p2 (wpAny_bind (wpAny_pure ?_)))))
  have adj : Builtin.Slice.sliceAdjust none none (-1) (n : Int) = ((n : Int) - 1, -1) := rfl
  have pla : Builtin.Slice.slicePlaces ((n : Int) - 1) (-1) (-1) = n := by
    unfold Builtin.Slice.slicePlaces
    rw [if_neg (by decide)]
    by_cases z : (n : Int) - 1 > -1
    · rw [if_pos z, show (- -1 : Int) = 1 by decide, Int.ediv_one]
      omega
    · rw [if_neg z]
      omega
  show wpAny _ _ (match Builtin.Slice.sliceAdjust none none (-1) (n : Int) with | (lo, hi) => pure (lo, (-1 : Int), Builtin.Slice.slicePlaces lo hi (-1))) _ _ st
  rw [adj]
  show wpAny _ _ (pure ((n : Int) - 1, (-1 : Int), Builtin.Slice.slicePlaces ((n : Int) - 1) (-1) (-1))) _ _ st
  rw [pla]
  exact wpAny_pure h
theorem fm_congr {α β : Type} {f g : α → Option β} : ∀ {l : List α}, (∀ a ∈ l, f a = g a) → l.filterMap f = l.filterMap g
  | [], _ => rfl
  | a :: r, h => by
    rw [List.filterMap_cons, List.filterMap_cons, h a List.mem_cons_self, fm_congr fun b hb => h b (List.mem_cons_of_mem _ hb)]
theorem pick_back (its : Array Value) : ((List.range its.size).filterMap fun (m : Nat) => its[(((its.size : Int) - 1) + (m : Int) * (-1)).toNat]?).toArray = its.toList.reverse.toArray := by
  have e : (List.range its.size).filterMap (fun (m : Nat) => its[(((its.size : Int) - 1) + (m : Int) * (-1)).toNat]?) = ((List.range its.size).map fun k => its.size - 1 - k).filterMap (its[·]?) := by
    rw [List.filterMap_map]
    refine fm_congr fun m hm => ?_
    have z := List.mem_range.mp hm
    have y : (((its.size : Int) - 1) + (m : Int) * (-1)).toNat = its.size - 1 - m := by omega
    show its[(((its.size : Int) - 1) + (m : Int) * (-1)).toNat]? = its[its.size - 1 - m]?
    rw [y]
  rw [e, PySem.W.krv_range, List.filterMap_reverse, PySem.W.krv_all]
theorem tuple_back {a sl : Addr} {its : Array Value} {v1 v2 v3 : Value} {Q : Value → Shared → Prop} (ht : IsTup st.heap a its) (hs : st.heap.IsSliceOf sl v1 v2 v3) (p1 : IsPart v1 none) (p2 : IsPart v2 none) (p3 : IsPart v3 (some (-1)))
    (h : Q (.ref st.heap.objs.size) { st with heap := st.heap.push { cls := .type "tuple", data := .seq its.toList.reverse.toArray } }) (few : its.size ≤ sizeLine) : wpAny (model P w) A (getItem (.ref a) (.ref sl)) Q E st := by
  have ok : sizeOk (.seq its.toList.reverse.toArray) := by
    show its.toList.reverse.toArray.size ≤ sizeLine
    rw [List.size_toArray, List.length_reverse, Array.length_toList]
    exact few
  obtain ⟨ob, at1, cl1, da1⟩ := id hs
  have isS : st.TypeIs (.ref sl) "slice" := ⟨ob, at1, cl1⟩
  unfold getItem
  try with_reducible refine wpAny_holding ?_
  first | refine wpAny_bind (wpAny_pure ?_) | skip
  refine wpAny_bind (wpAny_sequenceKey ht.typeIs (by decide) ?_)
  refine wpAny_bind (wpAny_callSpecial?_slot (name := Str.ofString "__getitem__") ht.typeIs PyProof.Rows.slot_tuple_getitem
    (wpAny_call_entry PyProof.Rows.slot_tuple_getitem ht.typeIs PyProof.Rows.entry_tuple_getitem ?_ (PyProof.Rows.args_tuple_getitem _ _)))
  show wpAny _ _ (Builtin.Tuple.tupleItemsOf (.ref a) >>= _) _ _ st
  refine wpAny_bind (PyProof.Rows.tupleItemsOf_ ht (wpAny_bind (wpAny_typeOf isS ?_)))
  rw [if_pos (by decide)]
  refine wpAny_bind (applied_back hs p1 p2 p3 ?_)
  have no : ¬ (((((its.size : Nat) : Int) - 1) == 0 && (-1 : Int) == 1 && its.size == its.size) = true) := by
    rw [show ((-1 : Int) == 1) = false by decide, Bool.and_false, Bool.false_and]
    decide
  show wpAny _ _ (if ((((its.size : Nat) : Int) - 1) == 0 && (-1 : Int) == 1 && its.size == its.size) = true then _ else _) _ _ st
  rw [if_neg no, pick_back]
  first
    | exact wpAny_bind (m := Builtin.Tuple.tupleExact _) (wpAny_newObj_type (wpAny_pure ⟨_, rfl, wpAny_pure h⟩) ok)
    | exact wpAny_bind (m := Builtin.Tuple.tupleExact _) (wpAny_newObj_type (wpAny_bind (wpAny_pure (wpAny_pure ⟨_, rfl, wpAny_pure h⟩))) ok)
    | exact wpAny_bind (wpAny_bind (m := Builtin.Tuple.tupleExact _) (wpAny_newObj_type (wpAny_pure (wpAny_pure ⟨_, rfl, wpAny_pure h⟩)) ok))
    | exact wpAny_bind (wpAny_bind (m := Builtin.Tuple.tupleExact _) (wpAny_newObj_type (wpAny_pure ⟨_, rfl, wpAny_pure h⟩) ok))
end
/-- t[::-1] -/
def tRevT (K : PySem.W.Frag) (te : TE) : TE := fun σ H Q => te σ H fun x H1 => ∃ a xs, x = .ref a ∧ SqT K H1 a xs ∧ ∀ p, H1 p = none → Q (.ref p) (upd H1 p (.tup xs.reverse))
theorem pe_revT {X : Cx} {e : Expr} {te : TE} {k : Nat} {p1 p2 p3 pos : Pos} (he : PE X e te) : PE X (.Subscript e (.Slice none none (some (.UnaryOp .USub (.Constant (.int 1) k p1) p2)) p3) pos) (tRevT X.K te) := by
  refine ⟨fun pins s σ H Q I h => Subscript_ (thn (he.run pins s σ H _ I h) fun v s1 hv => ?_)⟩
  obtain ⟨x, H1, I1, r1, a, xs, rfl, hx, q⟩ := hv
  cases r1
  have part : PO X (some (.UnaryOp .USub (.Constant (.int 1) k p1) p2)) (tPart (tUn (rU fun i => .int (-i)) (tC (.int 1)))) := po_some (pe_un un_neg pe_int)
  refine wpAny_Slice (thn (po_none.run pins s1 σ H1 (fun o H2 => o = none ∧ H2 = H1) I1 ⟨rfl, rfl⟩) fun vl s2 h2 => ?_)
  obtain ⟨_, H2, I2, pl, rfl, rfl⟩ := h2
  refine thn (po_none.run pins s2 σ H2 (fun o H3 => o = none ∧ H3 = H2) I2 ⟨rfl, rfl⟩) fun vu s3 h3 => ?_
  obtain ⟨_, H3, I3, pu, rfl, rfl⟩ := h3
  refine thn (part.run pins s3 σ H3 (fun o H4 => o = some (-1) ∧ H4 = H3) I3 ⟨1, rfl, -1, rfl, rfl, rfl⟩) fun vs s4 h4 => ?_
  obtain ⟨_, H4, I4, ps, rfl, rfl⟩ := h4
  have I5 : Inv X pins σ H4 { s4 with heap := s4.heap.push { cls := .type "slice", data := .fields #[vl, vu, vs] } } := I4.kept (t' := s4.toks) fun b ob q => Heap.get?_push_of_some _ q
  obtain ⟨its, r, ht, hz⟩ := I5.tuple hx
  have hlen := r.length
  show wpAny (model X.prog X.w) X.A (subscriptTail e (.Slice none none (some (.UnaryOp .USub (.Constant (.int 1) k p1) p2)) p3) (.ref a) (.ref s4.heap.objs.size)) (EP X pins σ Q) X.xe { s4 with heap := s4.heap.push { cls := .type "slice", data := .fields #[vl, vu, vs] } }
  refine tail_any (ops := [.ref a, .ref s4.heap.objs.size]) ht.typeIs (PyProof.Rows.slot_tuple_getitem.lookup) ?_ (by with_unfolding_all rfl)
  refine tuple_back ht (Heap.IsSliceOf.new _ vl vu vs) pl pu ps ?_ (by rw [List.size_toArray]; omega)
  exact ⟨.ref _, _, I5.laid (t' := s4.toks) (o := .tup xs.reverse) (fun b ob q => Heap.get?_push_of_some _ q) (Nat.le_refl _) ⟨by rw [List.length_reverse]; exact hz, _, r.reverse, IsTup.new _ _⟩, rfl, q _ (I5.hok.fresh (Nat.le_refl _))⟩
end My

namespace My
open PySem PySem.Spec PyProof.Rows L2
/-! ### xs.extend(t) -/
theorem ext_tup (l : Addr) (items : Array Value) (n : Nat) (b : Addr) (dd : Option Addr) (sl : Array (Option Value)) (items2 : Array Value) (n2 : Nat) (hs0 : ¬(!items.isEmpty && Builtin.List.listTooLong (items.size + items2.size)) = true) (hs1 : items.size ≤ sizeLine) (hs2 : items.size + items2.size ≤ sizeLine + 1) :
    Meets (Builtin.«list.extend» ⟨[.ref l, .ref b], []⟩) (fun _ R s => s.heap.get? l = some { cls := .type "list", dict := none, data := .seq items n, slots := #[] } ∧ s.heap.get? b = some { cls := .type "tuple", dict := dd, data := .seq items2 n2, slots := sl } ∧ R (.ok (.ret Value.none)) { s with heap := s.heap.update l (Obj.mapSeq fun x => x ++ items2), toks := s.toks }) :=
  .of_wp fun prog w A R s h => by
    obtain ⟨hp, g, d, tk, os⟩ := s
    obtain ⟨hl, hb, h⟩ := h
    have f1 := AutoSeq1.idx_int
    have f2 := AutoSeq1.sub_tuple_tuple
    have f3 := AutoSeq1.sub_list_list
    have f4 := AutoSeq1.sub_tuple_list
    have f5 := AutoSeq1.sub_list_tuple
    have hz' : (items ++ items2).size ≤ sizeLine + 1 := by rw [Array.size_append]; exact hs2
    wp_walk using (wpAny_updateSeq hl rfl (hz := hs1) (_hz' := hz')), AutoSeq1.wpAny_loadPart' hl, AutoSeq1.wpAny_loadPart' hb
    exact ⟨_, rfl, h⟩
def rExtendT (K : PySem.W.Frag) : V → List V → Hp → VK → Prop := fun x vs H Q => ∃ l b xs zs, x = .ref l ∧ vs = [.ref b] ∧ H l = some (.lst xs) ∧ SqT K H b zs ∧ xs.length + zs.length ≤ sizeLine ∧ Q .non (upd H l (.lst (xs ++ zs)))
theorem mt_extendT {X : Cx} : MtR X "list.extend" (rExtendT X.K) := by
  intro pins s σ H x vs v us Q I rx rv h
  obtain ⟨l, b, xs, zs, rfl, rfl, hH, hB, hz, q⟩ := h
  cases rx
  obtain ⟨u, rfl, ru⟩ := rv.one
  cases ru
  obtain ⟨z, its, n, r, hl, e⟩ := I.lstM hH
  obtain ⟨its2, r2, ⟨⟨cls, dd, data, sl⟩, ho, hc, n2, hd⟩, hz2⟩ := I.tuple hB
  simp only at hc hd
  subst hc hd
  have hl2 := r2.length
  have hsz : its.toArray.size + its2.toArray.size ≤ sizeLine := by rw [List.size_toArray, List.size_toArray]; omega
  have hlong : ¬ (!its.toArray.isEmpty && Builtin.List.listTooLong (its.toArray.size + its2.toArray.size)) = true := by
    rw [notLongL hsz, Bool.and_false]
    exact Bool.false_ne_true
  refine call_meets F.slot_list_extend ⟨_, e, rfl⟩ F.entry_list_extend (F.args_list_extend_2 _ _)
    (ext_tup l its.toArray n b dd sl its2.toArray n2 hlong (by rw [List.size_toArray]; omega) (by omega)) ⟨e, ho, ?_⟩
  refine ⟨.non, _, I.lset (its' := its ++ its2) hH e (by simp) (r.append r2) ?_, rfl, q⟩
  rw [List.length_append]
  omega
/-! ### t * n, some tuple with these items -/
theorem tuple_mulSame (l : Addr) (items : Array Value) (n : Nat) (dd : Option Addr) (sl : Array (Option Value)) (u : Tok) :
    Meets (Builtin.«tuple.__mul__» ⟨[.ref l, .int 1 u], []⟩) (fun _ R s => s.heap.get? l = some { cls := .type "tuple", dict := dd, data := .seq items n, slots := sl } ∧ R (.ok (.ret (Value.ref l))) s) :=
  .of_wp fun prog w A R s h => by
    obtain ⟨hp, g, d, tk, os⟩ := s
    obtain ⟨hl, h⟩ := h
    have f1 := AutoSeq1.idx_int
    have c1 : (items.isEmpty || (1 : Int) == 1) = true := by rw [show ((1 : Int) == 1) = true by decide, Bool.or_true]
    wp_walk using AutoSeq1.wpAny_loadPart' hl
    repeat (first
      | (refine wpAny_ite_true c1 ?_; wp_walk using AutoSeq1.wpAny_loadPart' hl)
      | (refine wpAny_ite_false (by decide) ?_; wp_walk using AutoSeq1.wpAny_loadPart' hl))
    exact ⟨_, rfl, h⟩
theorem tuple_mulZero (l : Addr) (items : Array Value) (n : Nat) (dd : Option Addr) (sl : Array (Option Value)) (u : Tok) (he : items.isEmpty = false) :
    Meets (Builtin.«tuple.__mul__» ⟨[.ref l, .int 0 u], []⟩) (fun _ R s => s.heap.get? l = some { cls := .type "tuple", dict := dd, data := .seq items n, slots := sl } ∧ R (.ok (.ret (Value.ref s.heap.objs.size))) { s with heap := s.heap.push { cls := Value.type "tuple", data := Data.seq #[] }, toks := s.toks }) :=
  .of_wp fun prog w A R s h => by
    obtain ⟨hp, g, d, tk, os⟩ := s
    obtain ⟨hl, h⟩ := h
    have f1 := AutoSeq1.idx_int
    have c1 : (items.isEmpty || (0 : Int) == 1) = false := by rw [he]; decide
    have c2 : (decide ((0 : Int) ≤ 0) || items.isEmpty) = true := by rw [he]; decide
    wp_walk using AutoSeq1.wpAny_loadPart' hl
    repeat (first
      | (refine wpAny_ite_false (decide_eq_false (by rw [c1]; exact Bool.false_ne_true)) ?_; wp_walk using AutoSeq1.wpAny_loadPart' hl)
      | (refine wpAny_ite_true (decide_eq_true c2) ?_; wp_walk using AutoSeq1.wpAny_loadPart' hl)
      | (refine wpAny_ite_true c2 ?_; wp_walk using AutoSeq1.wpAny_loadPart' hl)
      | (refine wpAny_ite_false (by decide) ?_; wp_walk using AutoSeq1.wpAny_loadPart' hl))
    exact ⟨_, rfl, h⟩
def rRepX : R2 := fun x y H Q => ∃ l k xs, x = .ref l ∧ y = .int k ∧ Rd H l (.tup xs) ∧ xs ≠ [] ∧ 0 ≤ k ∧ k ≤ 1000 ∧ xs.length ≤ 1000 ∧ ∀ r H', Same H H' → Rd H' r (.tup (List.replicate k.toNat xs).flatten) → Q (.ref r) H'
theorem op_repX {X : Cx} : OpR X (binaryOp .Mult) rRepX := by
  intro pins s σ H x y v u Q I rx ry h
  obtain ⟨l, k, xs, rfl, rfl, hT, hne, h1, h2, hz, q⟩ := h
  have new : ∀ (p : Addr) (zs : List V), H p = none → zs = (List.replicate k.toNat xs).flatten → Q (.ref p) (upd H p (.tup zs)) := fun p zs hp e => q p _ (fun c o z => by rw [upd_ne (ne_of_none z hp)]; exact z) (.inl (by rw [upd_same, e]))
  by_cases k2 : 2 ≤ k
  · exact op_repT pins s σ H _ _ v u Q I rx ry ⟨l, k, xs, rfl, rfl, .inl hT, hne, k2, h2, hz, fun p hp => new p _ hp rfl⟩
  · cases rx
    obtain ⟨t, rfl⟩ := ry
    obtain ⟨its, r, ⟨⟨cls, dd, data, sl⟩, ho, hc, n, hd⟩, hs⟩ := I.tuple (show SqT X.K H l xs from .inl hT)
    simp only at hc hd
    subst hc hd
    have hle : its.length = xs.length := r.length.symm
    have hi : its.toArray.isEmpty = false := by
      cases its with
      | nil => exact absurd (List.eq_nil_of_length_eq_zero hle.symm) hne
      | cons a b => rfl
    have k01 : k = 0 ∨ k = 1 := by omega
    rcases k01 with rfl | rfl
    · refine wpAny_binaryOp_repeat_ref (T := "tuple") (U := "int") (by decide) ⟨_, ho, rfl⟩ (fun s' => typeIs_int s' 0 t) noFill_tuple_mul F.fills_int_mul F.slot_int_rmul repeat_tuple F.slot_int_index.lookup
        (call_meets F.slot_int_rmul (typeIs_int s 0 t) F.entry_int_rmul (F.args_int_rmul_2 _ _) (int_rmul_tuple 0 t l its.toArray n dd sl)
          ⟨ho, rfl, ⟨_, ho, rfl⟩, call_meets F.slot_tuple_mul ⟨_, ho, rfl⟩ F.entry_tuple_mul (F.args_tuple_mul_2 _ _) (tuple_mulZero l its.toArray n dd sl t hi) ⟨ho, ?_⟩⟩)
      refine ⟨.ref s.heap.objs.size, _, I.laid (t' := s.toks) (o := .tup []) (fun b ob q => Heap.get?_push_of_some _ q) (Nat.le_refl _) ?_, rfl, new _ _ (I.hok.fresh (Nat.le_refl _)) rfl⟩
      exact ⟨Nat.zero_le _, [], .nil, IsTup.new _ _⟩
    · refine wpAny_binaryOp_repeat_ref (T := "tuple") (U := "int") (by decide) ⟨_, ho, rfl⟩ (fun s' => typeIs_int s' 1 t) noFill_tuple_mul F.fills_int_mul F.slot_int_rmul repeat_tuple F.slot_int_index.lookup
        (call_meets F.slot_int_rmul (typeIs_int s 1 t) F.entry_int_rmul (F.args_int_rmul_2 _ _) (int_rmul_tuple 1 t l its.toArray n dd sl)
          ⟨ho, rfl, ⟨_, ho, rfl⟩, call_meets F.slot_tuple_mul ⟨_, ho, rfl⟩ F.entry_tuple_mul (F.args_tuple_mul_2 _ _) (tuple_mulSame l its.toArray n dd sl t) ⟨ho, ?_⟩⟩)
      refine ⟨.ref l, H, I, rfl, q l H (L2.Same.refl H) ?_⟩
      have e : (List.replicate (1 : Int).toNat xs).flatten = xs := by simp
      rw [e]
      exact hT
end My

namespace My
open PySem PySem.Spec PyProof.Rows L2
/-! ### t[:0:-1] of a tuple -/
section
open MeetsSeq MeetsSeq2 MeetsSeq3 SeqRoads2
variable {P : Program} {w : World} {A : Around} {E : Value → Shared → Prop} {st : Shared}
theorem applied_tail {sl : Addr} {v1 v2 v3 : Value} {n : Nat} {Q : Int × Int × Nat → Shared → Prop} (hn : 0 < n) (hs : st.heap.IsSliceOf sl v1 v2 v3) (p1 : IsPart v1 none) (p2 : IsPart v2 (some 0)) (p3 : IsPart v3 (some (-1)))
    (h : Q ((n : Int) - 1, -1, n - 1) st) : wpAny (model P w) A (Builtin.Slice.sliceApplied (.ref sl) (pure (n : Int))) Q E st := by
  obtain ⟨ob, at1, cl1, da1⟩ := id hs
  unfold Builtin.Slice.sliceApplied Builtin.Slice.sliceFields
  refine wpAny_bind (wpAny_bind (wpAny_field at1 da1 (x := v1) rfl (wpAny_bind (wpAny_field at1 da1 (x := v2) rfl (wpAny_bind (wpAny_field at1 da1 (x := v3) rfl (wpAny_pure ?_)))))))
  refine wpAny_bind (HT.slicePart_ p3 ?_)
  show wpAny _ _ (if ((-1 : Int) == 0) = true then _ else _) _ _ st
  rw [if_neg (by decide)]
  refine wpAny_bind (HT.slicePart_ p1 (wpAny_bind (HT.slicePart_ p2 (wpAny_bind (wpAny_pure ?_)))))
  have adj : Builtin.Slice.sliceAdjust none (some 0) (-1) (n : Int) = ((n : Int) - 1, 0) := by
    show ((n : Int) - 1, min (0 : Int) ((n : Int) - 1)) = _
    rw [Int.min_eq_left (by omega)]
  have pla : Builtin.Slice.slicePlaces ((n : Int) - 1) 0 (-1) = n - 1 := by
    unfold Builtin.Slice.slicePlaces
    rw [if_neg (by decide)]
    by_cases z : (n : Int) - 1 > 0
    · rw [if_pos z, show (- -1 : Int) = 1 by decide, Int.ediv_one]
      omega
    · rw [if_neg z]
      omega
  show wpAny _ _ (match Builtin.Slice.sliceAdjust none (some 0) (-1) (n : Int) with | (lo, hi) => pure (lo, (-1 : Int), Builtin.Slice.slicePlaces lo hi (-1))) _ _ st
  rw [adj]
  show wpAny _ _ (pure ((n : Int) - 1, (-1 : Int), Builtin.Slice.slicePlaces ((n : Int) - 1) 0 (-1))) _ _ st
  rw [pla]
  exact wpAny_pure h
theorem pick_tailL : ∀ L : List Value, L ≠ [] → (List.range (L.length - 1)).filterMap (fun (m : Nat) => L[L.length - 1 - m]?) = (L.drop 1).reverse := by
  intro L hL
  cases L with
  | nil => exact absurd rfl hL
  | cons x r =>
    have full : (List.range (r.length + 1)).filterMap (fun (m : Nat) => (x :: r)[r.length - m]?) = (x :: r).reverse := by
      have e : (List.range (r.length + 1)).filterMap (fun (m : Nat) => (x :: r)[r.length - m]?) = ((List.range (x :: r).length).map fun k => (x :: r).length - 1 - k).filterMap ((x :: r)[·]?) := by
        rw [List.filterMap_map]
        refine fm_congr fun m hm => ?_
        have z := List.mem_range.mp hm
        show (x :: r)[r.length - m]? = (x :: r)[(x :: r).length - 1 - m]?
        rw [List.length_cons, Nat.add_sub_cancel]
      have a := PySem.W.krv_range (x :: r).length
      have b := PySem.W.krv_all (x :: r).toArray
      rw [e, a, List.filterMap_reverse]
      simpa using b
    rw [List.range_succ, List.filterMap_append, List.reverse_cons] at full
    have last : (List.filterMap (fun (m : Nat) => (x :: r)[r.length - m]?) [r.length]) = [x] := by simp
    rw [last] at full
    show (List.range ((x :: r).length - 1)).filterMap (fun (m : Nat) => (x :: r)[(x :: r).length - 1 - m]?) = r.reverse
    rw [List.length_cons, Nat.add_sub_cancel]
    exact List.append_cancel_right full
theorem pick_tail (its : Array Value) (h : 0 < its.size) : ((List.range (its.size - 1)).filterMap fun (m : Nat) => its[(((its.size : Int) - 1) + (m : Int) * (-1)).toNat]?).toArray = (its.toList.drop 1).reverse.toArray := by
  have e : (List.range (its.size - 1)).filterMap (fun (m : Nat) => its[(((its.size : Int) - 1) + (m : Int) * (-1)).toNat]?) = (List.range (its.toList.length - 1)).filterMap (fun (m : Nat) => its.toList[its.toList.length - 1 - m]?) := by
    rw [Array.length_toList]
    refine fm_congr fun m hm => ?_
    have z := List.mem_range.mp hm
    have y : (((its.size : Int) - 1) + (m : Int) * (-1)).toNat = its.size - 1 - m := by omega
    rw [y, Array.getElem?_toList]
  rw [e, pick_tailL _ (fun z => by
    have y := congrArg List.length z
    rw [Array.length_toList, List.length_nil] at y
    omega)]
theorem tuple_tail {a sl : Addr} {its : Array Value} {v1 v2 v3 : Value} {Q : Value → Shared → Prop} (hn : 0 < its.size) (ht : IsTup st.heap a its) (hs : st.heap.IsSliceOf sl v1 v2 v3) (p1 : IsPart v1 none) (p2 : IsPart v2 (some 0)) (p3 : IsPart v3 (some (-1)))
    (h : Q (.ref st.heap.objs.size) { st with heap := st.heap.push { cls := .type "tuple", data := .seq (its.toList.drop 1).reverse.toArray } }) (few : its.size ≤ sizeLine) : wpAny (model P w) A (getItem (.ref a) (.ref sl)) Q E st := by
  have ok : sizeOk (.seq (its.toList.drop 1).reverse.toArray) := by
    show (its.toList.drop 1).reverse.toArray.size ≤ sizeLine
    rw [List.size_toArray, List.length_reverse, List.length_drop, Array.length_toList]
    omega
  obtain ⟨ob, at1, cl1, da1⟩ := id hs
  have isS : st.TypeIs (.ref sl) "slice" := ⟨ob, at1, cl1⟩
  unfold getItem
  try with_reducible refine wpAny_holding ?_
  first | refine wpAny_bind (wpAny_pure ?_) | skip
  refine wpAny_bind (wpAny_sequenceKey ht.typeIs (by decide) ?_)
  refine wpAny_bind (wpAny_callSpecial?_slot (name := Str.ofString "__getitem__") ht.typeIs PyProof.Rows.slot_tuple_getitem
    (wpAny_call_entry PyProof.Rows.slot_tuple_getitem ht.typeIs PyProof.Rows.entry_tuple_getitem ?_ (PyProof.Rows.args_tuple_getitem _ _)))
  show wpAny _ _ (Builtin.Tuple.tupleItemsOf (.ref a) >>= _) _ _ st
  refine wpAny_bind (PyProof.Rows.tupleItemsOf_ ht (wpAny_bind (wpAny_typeOf isS ?_)))
  rw [if_pos (by decide)]
  refine wpAny_bind (applied_tail hn hs p1 p2 p3 ?_)
  have no : ¬ (((((its.size : Nat) : Int) - 1) == 0 && (-1 : Int) == 1 && its.size - 1 == its.size) = true) := by
    rw [show ((-1 : Int) == 1) = false by decide, Bool.and_false, Bool.false_and]
    decide
  show wpAny _ _ (if ((((its.size : Nat) : Int) - 1) == 0 && (-1 : Int) == 1 && its.size - 1 == its.size) = true then _ else _) _ _ st
  rw [if_neg no, pick_tail its hn]
  first
    | exact wpAny_bind (m := Builtin.Tuple.tupleExact _) (wpAny_newObj_type (wpAny_pure ⟨_, rfl, wpAny_pure h⟩) ok)
    | exact wpAny_bind (m := Builtin.Tuple.tupleExact _) (wpAny_newObj_type (wpAny_bind (wpAny_pure (wpAny_pure ⟨_, rfl, wpAny_pure h⟩))) ok)
    | exact wpAny_bind (wpAny_bind (m := Builtin.Tuple.tupleExact _) (wpAny_newObj_type (wpAny_pure (wpAny_pure ⟨_, rfl, wpAny_pure h⟩)) ok))
    | exact wpAny_bind (wpAny_bind (m := Builtin.Tuple.tupleExact _) (wpAny_newObj_type (wpAny_pure ⟨_, rfl, wpAny_pure h⟩) ok))
end
/-- t[:0:-1] -/
def tTailT (K : PySem.W.Frag) (te : TE) : TE := fun σ H Q => te σ H fun x H1 => ∃ a xs, x = .ref a ∧ SqT K H1 a xs ∧ 0 < xs.length ∧ ∀ p, H1 p = none → Q (.ref p) (upd H1 p (.tup (xs.drop 1).reverse))
theorem vals_drop {xs : List V} {its : List Value} (r : Vals xs its) : Vals (xs.drop 1) (its.drop 1) := by
  cases r with
  | nil => exact .nil
  | cons _ t => exact t
theorem pe_tailT {X : Cx} {e : Expr} {te : TE} {k k0 : Nat} {p0 p1 p2 p3 pos : Pos} (he : PE X e te) : PE X (.Subscript e (.Slice none (some (.Constant (.int 0) k0 p0)) (some (.UnaryOp .USub (.Constant (.int 1) k p1) p2)) p3) pos) (tTailT X.K te) := by
  refine ⟨fun pins s σ H Q I h => Subscript_ (thn (he.run pins s σ H _ I h) fun v s1 hv => ?_)⟩
  obtain ⟨x, H1, I1, r1, a, xs, rfl, hx, hn, q⟩ := hv
  cases r1
  have part : PO X (some (.UnaryOp .USub (.Constant (.int 1) k p1) p2)) (tPart (tUn (rU fun i => .int (-i)) (tC (.int 1)))) := po_some (pe_un un_neg pe_int)
  have part0 : PO X (some (.Constant (.int 0) k0 p0)) (tPart (tC (.int 0))) := po_some pe_int
  refine wpAny_Slice (thn (po_none.run pins s1 σ H1 (fun o H2 => o = none ∧ H2 = H1) I1 ⟨rfl, rfl⟩) fun vl s2 h2 => ?_)
  obtain ⟨_, H2, I2, pl, rfl, rfl⟩ := h2
  refine thn (part0.run pins s2 σ H2 (fun o H3 => o = some 0 ∧ H3 = H2) I2 ⟨0, rfl, rfl, rfl⟩) fun vu s3 h3 => ?_
  obtain ⟨_, H3, I3, pu, rfl, rfl⟩ := h3
  refine thn (part.run pins s3 σ H3 (fun o H4 => o = some (-1) ∧ H4 = H3) I3 ⟨1, rfl, -1, rfl, rfl, rfl⟩) fun vs s4 h4 => ?_
  obtain ⟨_, H4, I4, ps, rfl, rfl⟩ := h4
  have I5 : Inv X pins σ H4 { s4 with heap := s4.heap.push { cls := .type "slice", data := .fields #[vl, vu, vs] } } := I4.kept (t' := s4.toks) fun b ob q => Heap.get?_push_of_some _ q
  obtain ⟨its, r, ht, hz⟩ := I5.tuple hx
  have hlen := r.length
  show wpAny (model X.prog X.w) X.A (subscriptTail e (.Slice none (some (.Constant (.int 0) k0 p0)) (some (.UnaryOp .USub (.Constant (.int 1) k p1) p2)) p3) (.ref a) (.ref s4.heap.objs.size)) (EP X pins σ Q) X.xe { s4 with heap := s4.heap.push { cls := .type "slice", data := .fields #[vl, vu, vs] } }
  refine tail_any (ops := [.ref a, .ref s4.heap.objs.size]) ht.typeIs (PyProof.Rows.slot_tuple_getitem.lookup) ?_ (by with_unfolding_all rfl)
  refine tuple_tail (by rw [List.size_toArray]; omega) ht (Heap.IsSliceOf.new _ vl vu vs) pl pu ps ?_ (by rw [List.size_toArray]; omega)
  exact ⟨.ref _, _, I5.laid (t' := s4.toks) (o := .tup (xs.drop 1).reverse) (fun b ob q => Heap.get?_push_of_some _ q) (Nat.le_refl _) ⟨by rw [List.length_reverse, List.length_drop]; omega, _, (vals_drop r).reverse, IsTup.new _ _⟩, rfl, q _ (I5.hok.fresh (Nat.le_refl _))⟩
end My

namespace My
open PySem PySem.Spec PyProof.Rows L2
/-! ### things as data, whole: none, bools, ints, texts, lists, tuples, the empty dict -/
mutual
inductive Da (H : Hp) : V → PyData → Prop
  | non : Da H .non .none
  | bl (b : Bool) : Da H (.bl b) (.bool b)
  | int (i : Int) : Da H (.int i) (.int i)
  | str (z : Str) : Da H (.str z) (.str z)
  | lst {a : Addr} {xs : List V} {ds : List PyData} (e : H a = some (.lst xs)) (h : DaAll H xs ds) : Da H (.ref a) (.list ds)
  | tup {a : Addr} {xs : List V} {ds : List PyData} (e : Rd H a (.tup xs)) (h : DaAll H xs ds) : Da H (.ref a) (.tuple ds)
  | dct {a : Addr} (e : H a = some (.dK [])) : Da H (.ref a) (.dict [])
inductive DaAll (H : Hp) : List V → List PyData → Prop
  | nil : DaAll H [] []
  | cons {v : V} {vs : List V} {d : PyData} {ds : List PyData} (h : Da H v d) (t : DaAll H vs ds) : DaAll H (v :: vs) (d :: ds)
end
theorem rd_same {H H' : Hp} {a : Addr} {u : HO} (h : Rd H a u) (s : Same H H') : Rd H' a u := h.elim (fun e => .inl (s _ _ e)) fun ⟨o, e⟩ => .inr ⟨o, s _ _ e⟩
mutual
theorem Da.same {H H' : Hp} (s : Same H H') : ∀ {d : PyData} {v : V}, Da H v d → Da H' v d
  | _, _, .non => .non
  | _, _, .bl b => .bl b
  | _, _, .int i => .int i
  | _, _, .str z => .str z
  | _, _, .lst e h => .lst (s _ _ e) (DaAll.same s h)
  | _, _, .tup e h => .tup (rd_same e s) (DaAll.same s h)
  | _, _, .dct e => .dct (s _ _ e)
theorem DaAll.same {H H' : Hp} (s : Same H H') : ∀ {ds : List PyData} {vs : List V}, DaAll H vs ds → DaAll H' vs ds
  | _, _, .nil => .nil
  | _, _, .cons h t => .cons (Da.same s h) (DaAll.same s t)
end
theorem DaAll.length {H : Hp} : ∀ {ds : List PyData} {vs : List V}, DaAll H vs ds → vs.length = ds.length
  | _, _, .nil => rfl
  | _, _, .cons _ t => by rw [List.length_cons, List.length_cons, t.length]
theorem DaAll.get {H : Hp} : ∀ {ds : List PyData} {vs : List V} {i : Nat} {v : V}, DaAll H vs ds → vs[i]? = some v → ∃ d, ds[i]? = some d ∧ Da H v d
  | _, _, i, _, .nil, e => by cases i <;> cases e
  | _, _, 0, _, .cons h _, e => by
    cases e
    exact ⟨_, rfl, h⟩
  | _, _, i + 1, _, .cons _ t, e => t.get (i := i) e
theorem DaAll.at {H : Hp} : ∀ {ds : List PyData} {vs : List V} {i : Nat} {d : PyData}, DaAll H vs ds → ds[i]? = some d → ∃ v, vs[i]? = some v ∧ Da H v d
  | _, _, i, _, .nil, e => by cases i <;> cases e
  | _, _, 0, _, .cons h _, e => by
    cases e
    exact ⟨_, rfl, h⟩
  | _, _, i + 1, _, .cons _ t, e => t.at (i := i) e
theorem DaAll.app {H : Hp} : ∀ {ds es : List PyData} {vs ws : List V}, DaAll H vs ds → DaAll H ws es → DaAll H (vs ++ ws) (ds ++ es)
  | _, _, _, _, .nil, g => g
  | _, _, _, _, .cons h t, g => .cons h (t.app g)
theorem DaAll.drop {H : Hp} : ∀ {ds : List PyData} {vs : List V} (n : Nat), DaAll H vs ds → DaAll H (vs.drop n) (ds.drop n)
  | _, _, 0, h => by simpa using h
  | _, _, n + 1, .nil => by simpa using DaAll.nil
  | _, _, n + 1, .cons _ t => by simpa using t.drop n
theorem DaAll.take {H : Hp} : ∀ {ds : List PyData} {vs : List V} (n : Nat), DaAll H vs ds → DaAll H (vs.take n) (ds.take n)
  | _, _, 0, _ => by simpa using DaAll.nil
  | _, _, n + 1, .nil => by simpa using DaAll.nil
  | _, _, n + 1, .cons h t => by simpa using DaAll.cons h (t.take n)
theorem DaAll.rev {H : Hp} : ∀ {ds : List PyData} {vs : List V}, DaAll H vs ds → DaAll H vs.reverse ds.reverse
  | _, _, .nil => .nil
  | _, _, .cons h t => by
    rw [List.reverse_cons, List.reverse_cons]
    exact t.rev.app (.cons h .nil)
/-- the built-in type of a thing -/
def tyDa : PyData → String
  | .none => "NoneType"
  | .bool _ => "bool"
  | .int _ => "int"
  | .str _ => "str"
  | .list _ => "list"
  | .tuple _ => "tuple"
  | .dict _ => "dict"
theorem Da.ty {K : PySem.W.Frag} {H : Hp} {d : PyData} {v : V} (h : Da H v d) : TyX K H v (.type (tyDa d)) := by
  cases h with
  | non => exact .base .non
  | bl b => exact .base (.bl b)
  | int i => exact .base (.int i)
  | str z => exact .base (.str z)
  | lst e h => exact .base (.lst e)
  | dct e => exact .base (.dK e)
  | tup e h =>
    rcases e with e | ⟨o, e⟩
    · exact .base (.tup e)
    · exact .fTuple e
def dT : PyData → Bool | .tuple _ => true | _ => false
def dL : PyData → Bool | .list _ => true | _ => false
def dS : PyData → Bool | .str _ => true | _ => false
def dI : PyData → Bool | .int _ => true | .bool _ => true | _ => false
def dB : PyData → Bool | .bool _ => true | _ => false
theorem kit_tup (d : PyData) : kitB (tyDa d) "tuple" = some (dT d) := by cases d <;> (simp only [tyDa, dT]; decide +kernel)
theorem kit_lst (d : PyData) : kitB (tyDa d) "list" = some (dL d) := by cases d <;> (simp only [tyDa, dL]; decide +kernel)
theorem kit_str (d : PyData) : kitB (tyDa d) "str" = some (dS d) := by cases d <;> (simp only [tyDa, dS]; decide +kernel)
theorem kit_int (d : PyData) : kitB (tyDa d) "int" = some (dI d) := by cases d <;> (simp only [tyDa, dI]; decide +kernel)
theorem kit_bool (d : PyData) : kitB (tyDa d) "bool" = some (dB d) := by cases d <;> (simp only [tyDa, dB]; decide +kernel)
/-! ### what is read of it -/
mutual
def noL : PyData → Bool
  | .list _ => false
  | .tuple ds => noLs ds
  | .none | .bool _ | .int _ | .str _ | .dict _ => true
def noLs : List PyData → Bool
  | [] => true
  | d :: r => noL d && noLs r
end
section
variable {X : Cx} {pins : List (Addr × Obj)} {σ : L2.St} {H : Hp} {s : Shared}
mutual
theorem Da.reads (I : Inv X pins σ H s) : ∀ (d : PyData) (v : V) (u : Value), Da H v d → RelV v u → ∃ as, Reads s.heap u d as ∧ (noL d = true → sysModules ∉ as)
  | .none, _, _, h, r => by
    cases h
    cases r
    exact ⟨_, .none, fun _ z => nomatch z⟩
  | .bool b, _, _, h, r => by
    cases h
    cases r
    exact ⟨_, .bool b, fun _ z => nomatch z⟩
  | .int i, _, _, h, r => by
    cases h
    obtain ⟨t, rfl⟩ := r
    exact ⟨_, .int i t, fun _ z => nomatch z⟩
  | .str x, _, _, h, r => by
    cases h
    obtain ⟨t, rfl⟩ := r
    exact ⟨_, .str x t, fun _ z => nomatch z⟩
  | .list ds, _, _, h, r => by
    cases h with
    | lst e ha =>
      cases r
      obtain ⟨z, its, n, rv, ho⟩ := I.hok _ _ e
      obtain ⟨as, ra, _⟩ := Da.readsAll I ds _ its ha rv
      exact ⟨_, .list ho rfl rfl (by simpa using ra), fun z => by simp [noL] at z⟩
  | .tuple ds, _, _, h, r => by
    cases h with
    | tup e ha =>
      cases r
      obtain ⟨its, rv, ⟨o, ho, hc, n, hd⟩, hz⟩ := I.tuple (show SqT X.K H _ _ from .inl e)
      obtain ⟨as, ra, na⟩ := Da.readsAll I ds _ its ha rv
      exact ⟨_, .tuple ho hc hd (by simpa using ra), fun z => na (by simpa only [noL] using z)⟩
  | .dict kvs, _, _, h, r => by
    cases h with
    | dct e =>
      cases r
      obtain ⟨_, hne, vs, kv, o, es, ep, ho, hx, hdat, _, hp, _⟩ := I.hok _ _ e
      cases kv with
      | nil =>
        have he : es.toList = [] := by
          revert hp
          generalize es.toList = l
          intro hp
          cases hp
          rfl
        refine ⟨_, .dict ho hx.1 hdat (by rw [he]; exact .nil) (by rw [he]; exact .nil), fun _ z => ?_⟩
        simp only [List.append_nil, List.mem_singleton] at z
        rw [← z] at hne
        exact absurd hne (by decide)
theorem Da.readsAll (I : Inv X pins σ H s) : ∀ (ds : List PyData) (vs : List V) (us : List Value), DaAll H vs ds → Vals vs us → ∃ as, ReadsAll s.heap us ds as ∧ (noLs ds = true → sysModules ∉ as)
  | [], _, _, h, r => by
    cases h
    cases r
    exact ⟨_, .nil, fun _ z => nomatch z⟩
  | d :: ds, _, _, h, r => by
    cases h with
    | cons h t =>
      cases r with
      | cons r rt =>
        obtain ⟨as, ra, na⟩ := Da.reads I d _ _ h r
        obtain ⟨bs, rb, nb⟩ := Da.readsAll I ds _ _ t rt
        refine ⟨_, .cons ra rb, fun z => ?_⟩
        simp only [noLs, Bool.and_eq_true] at z
        intro m
        rcases List.mem_append.mp m with m | m
        · exact na z.1 m
        · exact nb z.2 m
end
end
/-! ### repr of it -/
structure rReprD (xs : List V) (H : Hp) (Q : VK) : Prop where
  ex : ∃ x d, xs = [x] ∧ Da H x d ∧ d.showable = true ∧ (d.hasDict = true → noL d = true) ∧ d.depth ≤ 60 ∧ d.shown.length ≤ sizeLine ∧ Q (.str d.shown) H
theorem call_reprD {X : Cx} (quiet : X.A.guards = some []) (hu : X.A.units + 64 < cLine) : CallR X (.builtin "repr") rReprD := by
  intro pins s σ H xs us Q I r h
  obtain ⟨x, d, rfl, hd, h1, h2, h3, h4, q⟩ := h
  obtain ⟨u, rfl, ru⟩ := vals1 r
  obtain ⟨as, rd, hs⟩ := Da.reads I d x u hd ru
  cases hd with
  | non =>
    cases (show u = Value.none from ru)
    exact PySem.P.repr_of_none ⟨.str "None", H, I.tok _, ⟨_, rfl⟩, by simpa only [PyData.shown] using q⟩
  | bl b =>
    cases (show u = Value.bool b from ru)
    exact PySem.P.repr_of_bool ⟨.str (if b then "True" else "False"), H, I.tok _, ⟨_, rfl⟩, by simpa only [PyData.shown] using q⟩
  | int i =>
    obtain ⟨tk, rfl⟩ := (show ∃ t, u = Value.int i t from ru)
    exact PySem.P.repr_of_int (by simpa only [PyData.showable, decide_eq_true_eq] using h1) ⟨V.str (Str.ofString (toString i)), H, I.tok _, ⟨_, rfl⟩, by simpa only [PyData.shown] using q⟩
  | str z =>
    obtain ⟨tk, rfl⟩ := (show ∃ t, u = Value.str z t from ru)
    exact PySem.P.repr_of_str ⟨.str (reprText z), H, I.tok _, ⟨_, rfl⟩, by simpa only [PyData.shown] using q⟩ (by simpa only [PyData.shown] using h4)
  | @lst a ys ds e ha =>
    cases (show u = Value.ref a from ru)
    exact PySem.repr_of_reads' rd h1 (fun z => hs (h2 z)) quiet (by omega) (fun _ _ z => z) (fun h' v tk k => ⟨.str (PyData.list ds).shown, H, I.kept k, ⟨_, rfl⟩, q⟩) h4
  | @tup a ys ds e ha =>
    cases (show u = Value.ref a from ru)
    exact PySem.repr_of_reads' rd h1 (fun z => hs (h2 z)) quiet (by omega) (fun _ _ z => z) (fun h' v tk k => ⟨.str (PyData.tuple ds).shown, H, I.kept k, ⟨_, rfl⟩, q⟩) h4
  | @dct a e =>
    cases (show u = Value.ref a from ru)
    exact PySem.repr_of_reads' rd h1 (fun z => hs (h2 z)) quiet (by omega) (fun _ _ z => z) (fun h' v tk k => ⟨.str (PyData.dict []).shown, H, I.kept k, ⟨_, rfl⟩, q⟩) h4
/-! ### x in t, x and the items of t data -/
def rInTup (K : PySem.W.Frag) : R2 := fun x y H Q => ∃ d ds, Dp K H x d ∧ Dp K H y (.tuple ds) ∧ SeqAt.shaped d = true ∧ SeqAt.shaped (.tuple ds) = true ∧ Q (.bl (ds.any fun z => PyData.eqv z d)) H
theorem op_inTup {X : Cx} (hu : X.A.units + 65 < cLine) : OpR X (compareOp .In) (rInTup X.K) := by
  intro pins s σ H x y v u Q I rx ry h
  obtain ⟨d, ds, hd, he, sd, se, q⟩ := h
  obtain ⟨as, r1⟩ := Dp.reads I d x v hd rx
  obtain ⟨bs, r2⟩ := Dp.reads I (.tuple ds) y u he ry
  have c2 : PyData.canLayAll0 ds = true := by
    have z := SeqAt.canLay_of_shaped se
    simpa only [PyData.canLay0] using z
  exact SeqAt.in_tuple_reads r2 r1 c2 (SeqAt.canLay_of_shaped sd) (room_in_shaped sd hu) ⟨.bl _, H, I, rfl, q⟩
end My

namespace My
open PySem PySem.Spec PyProof.Rows L2
/-! ### a list == [], whatever stands in it -/
def rEqNil : R2 := fun x y H Q => ∃ (a b : Addr) (xs : List V), x = .ref a ∧ y = .ref b ∧ H a = some (.lst xs) ∧ H b = some (.lst []) ∧ Q (.bl xs.isEmpty) H
theorem op_eqNil {X : Cx} (hu : X.A.units + 64 < cLine) : OpR X (compareOp .Eq) rEqNil := by
  intro pins s σ H x y v u Q I rx ry h
  obtain ⟨a, b, xs, rfl, rfl, ha, hb, q⟩ := h
  cases rx
  cases ry
  obtain ⟨z, its, n, r, hl, e⟩ := I.lstM ha
  obtain ⟨z2, its2, n2, r2, hl2, e2⟩ := I.lstM hb
  have l1 : s.heap.IsList a its.toArray := ⟨_, e, rfl, n, rfl⟩
  have l2 : s.heap.IsList b its2.toArray := ⟨_, e2, rfl, n2, rfl⟩
  have l0 : its2 = [] := by
    cases its2 with
    | nil => rfl
    | cons => cases hl2
  subst l0
  cases xs with
  | nil =>
    have l3 : its = [] := by
      cases its with
      | nil => rfl
      | cons => cases hl
    subst l3
    exact SeqAt.RcAt.lists l1 l2 rfl (by omega) (e := fun _ => true) (fun j h1 h2 => absurd h1 (Nat.not_lt_zero j)) _ _ _ _ ⟨.bl true, H, I, rfl, q⟩
  | cons x0 r0 =>
    have big : its.length = r0.length + 1 := hl.symm
    exact SeqAt.RcAt.lists_lengths l1 l2 (by simp only [List.size_toArray, big, List.length_nil]; rfl) (by omega) _ _ _ _ ⟨.bl false, H, I, rfl, q⟩
theorem call_len_seqK {X : Cx} {K : PySem.W.Frag} (hK : X.K = K) : CallR X (.builtin "len") (fun xs H Q => ∃ p ys, xs = [V.ref p] ∧ (SqL K H p ys ∨ SqT K H p ys) ∧ Q (.int ys.length) H) := by
  subst hK
  exact call_len_seq
theorem pi_listK {X : Cx} {K : PySem.W.Frag} (hK : X.K = K) {tg e : Expr} {te : TE} (h : PE X e te) : PI X tg e (iList K te) := by
  subst hK
  exact pi_list h
theorem op_eqDK {X : Cx} {K : PySem.W.Frag} (hK : X.K = K) (hu : X.A.units + 64 < cLine) : OpR X (compareOp .Eq) (rEqD K) := by
  subst hK
  exact op_eqD hu
theorem u65 {k : Nat} {A : Around} (r : Room k A) : A.units + 65 < cLine := by have := r.un; omega
theorem op_in_tup {X : Cx} (hu : X.A.units + 65 < cLine) : OpR X (compareOp .In) (rInTup X.K) := op_inTup hu
/-! ### pairs as data -/
theorem eqv_pair (a b : Str) (i j : Int) : PyData.eqv (.tuple [.str a, .int i]) (.tuple [.str b, .int j]) = decide ((a, i) = (b, j)) := by
  have e : PyData.eqv (.tuple [.str a, .int i]) (.tuple [.str b, .int j]) = ((a == b) && ((i == j) && true)) := by simp only [PyData.eqv, PyData.eqvAll]
  rw [e, Bool.and_true]
  by_cases h1 : a = b
  · by_cases h2 : i = j
    · subst h1 h2
      simp
    · rw [beq_eq_false_iff_ne.mpr h2, Bool.and_false]
      exact (decide_eq_false fun z => h2 (Prod.mk.inj z).2).symm
  · rw [beq_eq_false_iff_ne.mpr h1, Bool.false_and]
    exact (decide_eq_false fun z => h1 (Prod.mk.inj z).1).symm
theorem sh_pair {a : Str} (h : ∀ c ∈ a.cps.toList, c < 1114112) (i : Int) : SeqAt.shaped (.tuple [.str a, .int i]) = true := by
  show ((PyData.tuple [.str a, .int i]).canLay0 && decide ((PyData.tuple [.str a, .int i]).depth ≤ 64)) = true
  have h1 : (PyData.tuple [.str a, .int i]).canLay0 = true := by
    simp only [PyData.canLay0, PyData.canLayAll0, Bool.and_true, PyData.strOk, Array.all_eq_true, decide_eq_true_eq]
    intro j hj
    exact h _ (by simp)
  rw [h1]
  simp [PyData.depth, PyData.depthAll]
end My

namespace My
open PySem PySem.Spec PyProof.Rows L2
/-! ### what is a list or a tuple -/
def iEither (K : PySem.W.Frag) (tl : TE) : TI := fun σ H R => tl σ H fun x H1 => ∃ a, x = .ref a ∧ (((∃ xs, SqL K H1 a xs) ∧ R (Itl K a) H1) ∨ ((∃ xs, SqT K H1 a xs) ∧ R (Itt K a) H1))
theorem pi_either {X : Cx} {K : PySem.W.Frag} (hK : X.K = K) {tg e : Expr} {te : TE} (he : PE X e te) : PI X tg e (iEither K te) := by
  subst hK
  constructor
  intro pins s σ H R I w
  have ev := he.run pins s σ H _ I w
  refine thn ev ?_
  rintro v s1 ⟨x, G, J, rel, a, rfl, alt⟩
  cases rel
  have one : ∀ b, b ∈ [s1.heap.objs.size] → b = s1.heap.objs.size := fun b hb => List.mem_singleton.mp hb
  rcases alt with ⟨⟨xs, seq⟩, q⟩ | ⟨⟨xs, seq⟩, q⟩
  · obtain ⟨its, _, isl, _⟩ := J.list seq
    refine wpAny_pyIter_list isl.isList ?_
    refine ⟨s1.heap.objs.size, [s1.heap.objs.size], _, _, G, rfl, ?_, turn_list a _, ?_, ?_, q⟩
    · exact J.kept (t' := s1.toks) fun b o z => Heap.get?_push_of_some _ z
    · exact ⟨_, Heap.get?_push_size _ rfl, rfl, rfl⟩
    · intro b hb
      cases one b hb
      exact J.fpOk (Nat.le_refl _) (J.hok.fresh (Nat.le_refl _))
  · obtain ⟨its, _, ist, _⟩ := J.tuple seq
    have ist' : s1.heap.IsTuple a its.toArray := ist
    refine wpAny_pyIter_tuple ist' ?_
    refine ⟨s1.heap.objs.size, [s1.heap.objs.size], _, _, G, rfl, ?_, turn_tuple a _, ?_, ?_, q⟩
    · exact J.kept (t' := s1.toks) fun b o z => Heap.get?_push_of_some _ z
    · exact ⟨_, Heap.get?_push_size _ rfl, rfl, rfl⟩
    · intro b hb
      cases one b hb
      exact J.fpOk (Nat.le_refl _) (J.hok.fresh (Nat.le_refl _))
def rSlE (K : PySem.W.Frag) : V → Option Int → Option Int → Hp → VK → Prop := fun x lo hi H Q => rSlL K x lo hi H Q ∨ rSlX x lo hi H Q
theorem sl_either {X : Cx} : SlR X (rSlE X.K) := by
  intro pins s σ H v vv vl vu lo hi sl Q I rx hs pl pu h
  exact h.elim (sl_list pins s σ H v vv vl vu lo hi sl Q I rx hs pl pu) (sl_X pins s σ H v vv vl vu lo hi sl Q I rx hs pl pu)
/-! ### C(e, ..), the class's __init__ may raise; what is wished of the error may speak of the slots -/
def tMakeS (C : Addr) (sp : Sp) (E : L2.St → XK) (t : TA) : TE := fun σ H Q => t σ H fun vs H1 => ∀ x dx, H1 x = none → H1 dx = none → dx ≠ x → sp (.ref x :: vs) (upd (upd H1 dx (.own x)) x (.ins C dx [])) (fun v H2 => v = .non ∧ Q (.ref x) H2) (E σ)
theorem pe_makeS {X : Cx} {CX : CXT} {k : Nat} {f C : Addr} {fd : FuncData} {ps : List Str} {sp : Sp} {E : L2.St → XK} {x : Str} {p pos : Pos} {e : Expr} {es : List Expr} {t : TA} (M : Mk X.K C f) (F : FnOk X.prog X.w X.K X.mg X.base CX k f fd ps sp) (hr : Room (k + 1) X.A)
    (hg : Gl X x) (hm : X.mg x = some (.ref C)) (hb : Binds X.K fd ps []) (hx : ∀ σ, PassesAt CX X σ (E σ)) (ha : PA X (e :: es) t) (nd : (x == ("__debug__" : Str)) = false := by decide)
    (he : starEach (e :: es) X.env = (false, eval e X.env) :: starEach es X.env := by rfl) (hpl : (backTo pos (starEach es X.env)).any (·.1) = false := by rfl) : PE X (.Call (.Name x p) (e :: es) [] pos) (tMakeS C sp E t) := by
  constructor
  intro pins s σ H Q I w
  refine wpAny_Call_Name_kw (ld_glob I hg hm ?_ nd)
  have args := ha.run pos pins s σ H _ I w
  refine PySem.W.callWith_K (h₀ := X.base) I.ok.mod.kin M.kp (thn args ?_) he hpl
  rintro us t1 ⟨vs, G, J, rel, want⟩
  refine ⟨J.kIn, ?_⟩
  have fresh1 := J.hok.fresh (Nat.le_succ t1.heap.objs.size)
  have fresh0 := J.hok.fresh (Nat.le_refl t1.heap.objs.size)
  have promise := want _ _ fresh1 fresh0 (Nat.ne_of_lt (Nat.lt_succ_self _))
  have J2 := Inv.made (C := C) J
  have rel2 : Vals (V.ref (t1.heap.objs.size + 1) :: vs) (Value.ref (t1.heap.objs.size + 1) :: us) := .cons rfl rel
  have many : (Value.ref (t1.heap.objs.size + 1) :: us).length = ps.length := by
    rw [← rel2.length]
    exact F.len _ _ _ _ promise
  have bound := hb _ (Value.ref (t1.heap.objs.size + 1) :: us) J2.kIn (by rw [List.append_nil]; exact many)
  rw [List.append_nil] at bound
  have ran := F.run _ X.stack _ _ ⟨Value.ref (t1.heap.objs.size + 1) :: us, []⟩ _ _ _ (E σ) (hr.make C us []) (J2.env0.make C us []) bound rel2 promise
  refine wpAny_call (make_map (f := f) J.kIn M.makes M.init (beq_iff_eq.mp M.fn) (codeAny_mono ran ?_))
  rintro (z | fl) t2 post
  · exact hx σ pins _ _ z t2 J2 post
  · match fl, post with
    | .ret u, post =>
      obtain ⟨v, G2, J3, rv, ev, q3⟩ := J2.after post
      subst ev
      exact ⟨rv, V.ref (t1.heap.objs.size + 1), G2, J3, rfl, q3⟩
    | .next, post => exact False.elim post
    | .brk, post => exact False.elim post
    | .cont, post => exact False.elim post
end My

namespace My
open PySem PySem.Spec PyProof.Rows L2
/-! ### new lists that are not the table of modules; repr of such a list with {} in it -/
def rCatN : R2 := fun x y H Q => ∃ l b xs zs, x = .ref l ∧ y = .ref b ∧ H l = some (.lst xs) ∧ H b = some (.lst zs) ∧ xs.length + zs.length ≤ sizeLine ∧ ∀ p, H p = none → p ≠ sysModules → Q (.ref p) (upd H p (.lst (xs ++ zs)))
theorem op_catN {X : Cx} : OpR X (binaryOp .Add) rCatN := by
  rintro pins s σ H x y v u Q I rx ry ⟨l, b, xs, zs, rfl, rfl, hl, hb, fits, q⟩
  cases rx
  cases ry
  obtain ⟨_, i1, _, v1, n1, g1⟩ := I.lstM hl
  obtain ⟨_, i2, _, v2, n2, g2⟩ := I.lstM hb
  refine PySem.P.add_list g1 g2 ?_ ?_
  · rw [show i1.toArray ++ i2.toArray = (i1 ++ i2).toArray by simp]
    have far : s.heap.objs.size ≠ sysModules := Nat.ne_of_gt I.big
    refine ⟨.ref _, _, I.lnew (t' := s.toks) (v1.append v2) ?_, rfl, q _ I.fresh far⟩
    rw [List.length_append]
    exact fits
  · rw [List.size_toArray, List.size_toArray]
    omega
def tRevLN (K : PySem.W.Frag) (te : TE) : TE := fun σ H Q => te σ H fun x H1 => ∃ a xs, x = .ref a ∧ SqL K H1 a xs ∧ ∀ p, H1 p = none → p ≠ sysModules → Q (.ref p) (upd H1 p (.lst xs.reverse))
theorem pe_revLN {X : Cx} {e : Expr} {te : TE} {k : Nat} {p1 p2 p3 pos : Pos} (he : PE X e te) : PE X (.Subscript e (.Slice none none (some (.UnaryOp .USub (.Constant (.int 1) k p1) p2)) p3) pos) (tRevLN X.K te) := by
  refine ⟨fun pins s σ H Q I h => Subscript_ (thn (he.run pins s σ H _ I h) fun v s1 hv => ?_)⟩
  obtain ⟨x, H1, I1, r1, a, xs, rfl, hx, q⟩ := hv
  cases r1
  have part : PO X (some (.UnaryOp .USub (.Constant (.int 1) k p1) p2)) (tPart (tUn (rU fun i => .int (-i)) (tC (.int 1)))) := po_some (pe_un un_neg pe_int)
  refine wpAny_Slice (thn (po_none.run pins s1 σ H1 (fun o H2 => o = none ∧ H2 = H1) I1 ⟨rfl, rfl⟩) fun vl s2 h2 => ?_)
  obtain ⟨_, H2, I2, pl, rfl, rfl⟩ := h2
  refine thn (po_none.run pins s2 σ H2 (fun o H3 => o = none ∧ H3 = H2) I2 ⟨rfl, rfl⟩) fun vu s3 h3 => ?_
  obtain ⟨_, H3, I3, pu, rfl, rfl⟩ := h3
  refine thn (part.run pins s3 σ H3 (fun o H4 => o = some (-1) ∧ H4 = H3) I3 ⟨1, rfl, -1, rfl, rfl, rfl⟩) fun vs s4 h4 => ?_
  obtain ⟨_, H4, I4, ps, rfl, rfl⟩ := h4
  have I5 : Inv X pins σ H4 { s4 with heap := s4.heap.push { cls := .type "slice", data := .fields #[vl, vu, vs] } } := I4.kept (t' := s4.toks) fun b ob q => Heap.get?_push_of_some _ q
  obtain ⟨its, r, ht, hz⟩ := I5.list hx
  have hlen := r.length
  show wpAny (model X.prog X.w) X.A (subscriptTail e (.Slice none none (some (.UnaryOp .USub (.Constant (.int 1) k p1) p2)) p3) (.ref a) (.ref s4.heap.objs.size)) (EP X pins σ Q) X.xe { s4 with heap := s4.heap.push { cls := .type "slice", data := .fields #[vl, vu, vs] } }
  refine tail_any (ops := [.ref a, .ref s4.heap.objs.size]) (ht.isList.typeIs) (PySem.slot_list_getitem.lookup) ?_ (by with_unfolding_all rfl)
  refine wpAny_getItem_list_slice ht.isList (Heap.IsSliceOf.new _ vl vu vs) pl pu ps (by decide) ?_ (by rw [List.size_toArray]; omega)
  rw [PySem.W.krv_pick]
  have room : xs.reverse.length ≤ sizeLine := by rw [List.length_reverse]; exact hz
  exact ⟨.ref _, _, I5.laid (t' := s4.toks) (o := .lst xs.reverse) (fun b ob q => Heap.get?_push_of_some _ q) (Nat.le_refl _) ⟨room, _, 0, r.reverse, Heap.get?_push_size _ rfl⟩, rfl, q _ (I5.hok.fresh (Nat.le_refl _)) (Nat.ne_of_gt I5.big)⟩
/-- a list at an address of its own: its items hold no other list -/
structure rReprL (xs : List V) (H : Hp) (Q : VK) : Prop where
  ex : ∃ a ys ds, xs = [.ref a] ∧ a ≠ sysModules ∧ H a = some (.lst ys) ∧ DaAll H ys ds ∧ noLs ds = true ∧ (PyData.list ds).showable = true ∧ (PyData.list ds).depth ≤ 60 ∧ (PyData.list ds).shown.length ≤ sizeLine ∧ Q (.str (PyData.list ds).shown) H
def rReprE (xs : List V) (H : Hp) (Q : VK) : Prop := rReprD xs H Q ∨ rReprL xs H Q
theorem call_reprE {X : Cx} (quiet : X.A.guards = some []) (hu : X.A.units + 64 < cLine) : CallR X (.builtin "repr") rReprE := by
  rintro pins s σ H xs us Q I r (h | ⟨a, ys, ds, rfl, far, ha, hall, no, h1, h3, h4, q⟩)
  · exact call_reprD quiet hu pins s σ H xs us Q I r h
  · obtain ⟨u, rfl, ru⟩ := vals1 r
    cases (show u = Value.ref a from ru)
    obtain ⟨_, its, n, rv, ho⟩ := I.hok _ _ ha
    obtain ⟨as, ra, nas⟩ := Da.readsAll I ds _ its hall rv
    have rd : Reads s.heap (.ref a) (.list ds) (a :: as) := .list ho rfl rfl (by simpa using ra)
    have off : (PyData.list ds).hasDict = true → sysModules ∉ a :: as := fun _ m => by
      rcases List.mem_cons.mp m with m | m
      · exact far m.symm
      · exact nas no m
    exact PySem.repr_of_reads' rd h1 off quiet (by omega) (fun _ _ z => z) (fun h' v tk k => ⟨.str (PyData.list ds).shown, H, I.kept k, ⟨_, rfl⟩, q⟩) h4
end My

namespace My
open PySem PySem.Spec PyProof.Rows L2
/-! ### small data, and how long their repr is (ints below 10 ^ 50) -/
mutual
/-- how many tuples and lists there are -/
def nodes : PyData → Nat
  | .tuple ds => 1 + nodesL ds
  | .list ds => 1 + nodesL ds
  | .none | .bool _ | .int _ | .str _ | .dict _ => 1
def nodesL : List PyData → Nat
  | [] => 0
  | d :: r => nodes d + nodesL r
end
theorem nodesL_app : ∀ a b : List PyData, nodesL (a ++ b) = nodesL a + nodesL b
  | [], b => by simp [nodesL]
  | d :: r, b => by
    rw [List.cons_append]
    simp only [nodesL]
    rw [nodesL_app r b, Nat.add_assoc]
mutual
def smB : PyData → Bool
  | .str z => decide (z.length ≤ 100) && z.cps.toList.all fun c => decide (c < 1114112)
  | .int i => decide (i.natAbs < 10 ^ 50)
  | .tuple ds => smL ds
  | .list ds => smL ds
  | .dict kvs => kvs.isEmpty
  | .none | .bool _ => true
def smL : List PyData → Bool
  | [] => true
  | d :: r => smB d && smL r
end
theorem sm_str {z : Str} (h : smB (.str z) = true) : z.length ≤ 100 ∧ ∀ c ∈ z.cps.toList, c < 1114112 := by
  simp only [smB, Bool.and_eq_true, decide_eq_true_eq, List.all_eq_true] at h
  exact h
theorem textFrom_piled : ∀ (ts : List Str) (k : Nat) (acc : Str), (textFrom k acc ts).length ≤ acc.length + piled ts
  | [], k, acc => by
    show acc.length ≤ acc.length + _
    omega
  | t :: r, k, acc => by
    have ih := textFrom_piled r (k + 1) (acc ++ (if k > 0 then ", " else "" : String) ++ t)
    have e : (acc ++ (if k > 0 then ", " else "" : String) ++ t : Str).length ≤ acc.length + 2 + t.length := by
      rw [strLen_append, strLen_append]
      have z : ((if k > 0 then ", " else "" : String) : Str).length ≤ 2 := by
        split
        · exact Nat.le_refl 2
        · exact Nat.zero_le 2
      omega
    rw [piled_cons]
    show (textFrom (k + 1) _ r).length ≤ _
    omega
theorem listText_piled (ts : List Str) : (listText ts).length ≤ 2 + piled ts := by
  have z := textFrom_piled ts 0 "["
  unfold listText
  rw [strLen_append]
  have e1 : ("[" : Str).length = 1 := rfl
  have e2 : ("]" : Str).length = 1 := rfl
  omega
theorem tupleText_piled (ts : List Str) : (tupleText ts).length ≤ 3 + piled ts := by
  unfold tupleText
  rw [strLen_append, strLen_append]
  have e1 : ("(" : Str).length = 1 := rfl
  have e2 : ((if ts.length == 1 then ",)" else ")" : String) : Str).length ≤ 2 := by
    split
    · exact Nat.le_refl 2
    · exact Nat.le_succ 1
  cases ts with
  | nil =>
    have e3 : (Str.join ", " []).length = 0 := rfl
    omega
  | cons t r =>
    have y := join_length_add (t :: r) (fun z => nomatch z)
    omega
theorem int_log {i : Int} (h : i.natAbs < 10 ^ 50) : i.natAbs.log2 < 1920 := by
  by_cases z : i.natAbs = 0
  · rw [z]
    decide
  · have y := (Nat.log2_lt z (k := 1920)).mpr (Nat.lt_trans h (by decide))
    exact y
mutual
theorem sm_show : ∀ d : PyData, smB d = true → d.showable = true ∧ d.shown.length + 5 ≤ 2010 * nodes d
  | .none, _ => by
    refine ⟨by simp only [PyData.showable], ?_⟩
    simp only [nodes]
    exact Nat.le_trans (show (PyData.none).shown.length + 5 ≤ 100 by decide +kernel) (by decide)
  | .bool b, _ => by
    refine ⟨by simp only [PyData.showable], ?_⟩
    simp only [nodes]
    cases b
    · exact Nat.le_trans (show (PyData.bool false).shown.length + 5 ≤ 100 by decide +kernel) (by decide)
    · exact Nat.le_trans (show (PyData.bool true).shown.length + 5 ≤ 100 by decide +kernel) (by decide)
  | .int i, h => by
    simp only [smB, decide_eq_true_eq] at h
    have l := int_log h
    refine ⟨by simp only [PyData.showable, decide_eq_true_eq]; exact l, ?_⟩
    simp only [nodes, PyData.shown]
    have z : (Str.ofString (toString i)).length ≤ 1921 := by
      rw [PySem.ofString_length]
      exact int_text_length_le (by decide) l
    omega
  | .str z, h => by
    obtain ⟨h1, h2⟩ := sm_str h
    refine ⟨by simp only [PyData.showable], ?_⟩
    have rt := PySem.StrLaws.reprText_len z fun c hc => Nat.lt_trans (h2 c hc) (by decide)
    simp only [nodes]
    rw [PyData.shown]
    omega
  | .list ds, h => by
    simp only [smB] at h
    obtain ⟨a, b⟩ := sm_shows ds h
    refine ⟨by simp only [PyData.showable]; exact a, ?_⟩
    rw [PyData.shown]
    have y := listText_piled (PyData.shownAll ds)
    simp only [nodes]
    omega
  | .tuple ds, h => by
    simp only [smB] at h
    obtain ⟨a, b⟩ := sm_shows ds h
    refine ⟨by simp only [PyData.showable]; exact a, ?_⟩
    rw [PyData.shown]
    have y := tupleText_piled (PyData.shownAll ds)
    simp only [nodes]
    omega
  | .dict kvs, h => by
    simp only [smB, List.isEmpty_iff] at h
    subst h
    refine ⟨by simp only [PyData.showable, PyData.showableKv], ?_⟩
    simp only [nodes]
    exact Nat.le_trans (show (PyData.dict []).shown.length + 5 ≤ 100 by decide +kernel) (by decide)
theorem sm_shows : ∀ ds : List PyData, smL ds = true → PyData.showableAll ds = true ∧ piled (PyData.shownAll ds) ≤ 2010 * nodesL ds
  | [], _ => ⟨by simp only [PyData.showableAll], by simp [PyData.shownAll, piled]⟩
  | d :: r, h => by
    simp only [smL, Bool.and_eq_true] at h
    obtain ⟨a, b⟩ := sm_show d h.1
    obtain ⟨a', b'⟩ := sm_shows r h.2
    refine ⟨by simp only [PyData.showableAll, a, a', Bool.and_self], ?_⟩
    simp only [PyData.shownAll, nodesL]
    rw [piled_cons]
    omega
end
theorem smL_app : ∀ a b : List PyData, smL (a ++ b) = (smL a && smL b)
  | [], b => by simp [smL]
  | d :: r, b => by
    rw [List.cons_append]
    simp only [smL]
    rw [smL_app r b, Bool.and_assoc]
theorem smL_all (ds : List PyData) : smL ds = ds.all smB := by
  induction ds with
  | nil => simp [smL]
  | cons d r ih => simp only [smL, List.all_cons, ih]
theorem ne_self (x : V) : V.bl (!decide (x = x)) = V.bl false := by simp
end My

namespace My
open PySem PySem.Spec PyProof.Rows L2
/-! ### the text by places -/
def topS (i : Nat) : Stmt := PySem.Challenge.pw_layoutswap_k06_layouts_refused.main.body.getD i (.Pass ⟨0, 0, 0, 0⟩)
abbrev s_law_kneaded : Stmt := topS 23
abbrev s_law_pot_of : Stmt := topS 24
abbrev s_law_below : Stmt := topS 25
abbrev s_law_pick : Stmt := topS 26
theorem sc_law_kneaded : FnScope ["seed", "lap", "prime", "amount", "again"] ["seed", "lap"] (defScope s_law_kneaded) := ⟨rfl, rfl, rfl, by decide +kernel, rfl, by decide +kernel, by decide +kernel⟩
theorem sc_law_pot_of : FnScope ["script", "cell", "cells", "place"] ["script"] (defScope s_law_pot_of) := ⟨rfl, rfl, rfl, by decide +kernel, rfl, by decide +kernel, by decide +kernel⟩
theorem sc_law_below : FnScope ["pot", "bound", "cells", "place", "amount", "found"] ["pot", "bound"] (defScope s_law_below) := ⟨rfl, rfl, rfl, by decide +kernel, rfl, by decide +kernel, by decide +kernel⟩
theorem sc_law_pick : FnScope ["pot", "items"] ["pot", "items"] (defScope s_law_pick) := ⟨rfl, rfl, rfl, by decide +kernel, rfl, by decide +kernel, by decide +kernel⟩
/-! ### heaps -/
/-- all that was tracked is as it was, but what stands at p -/
def But (p : Addr) (H H' : Hp) : Prop := (∀ b o, H b = some o → b ≠ p → H' b = some o) ∧ H' p ≠ none
theorem But.trans {p : Addr} {H H1 H2 : Hp} (a : But p H H1) (b : But p H1 H2) : But p H H2 := ⟨fun c o e n => b.1 c o (a.1 c o e n) n, b.2⟩
theorem But.free {p : Addr} {H H' : Hp} (a : But p H H') {q : Addr} (h : H' q = none) : H q = none := by
  cases e : H q with
  | none => rfl
  | some o =>
    by_cases n : q = p
    · subst n
      exact absurd h a.2
    · rw [a.1 q o e n] at h
      cases h
theorem But.same {p : Addr} {H H1 H2 : Hp} (a : But p H H1) (b : Same H1 H2) : But p H H2 := ⟨fun c o e n => b c o (a.1 c o e n), fun z => by
  cases e : H1 p with
  | none => exact a.2 e
  | some o =>
    rw [b p o e] at z
    cases z⟩
theorem But.of {p : Addr} {H H1 : Hp} {o : HO} (h : H1 p = some o) (b : Same H H1) : But p H H1 := ⟨fun c o e n => b c o e, fun z => by
  rw [h] at z
  cases z⟩
theorem same_upd {H : Hp} {p : Addr} {o : HO} (h : H p = none) : Same H (upd H p o) := fun b x e => by
  rw [upd_ne (ne_of_none e h)]
  exact e
theorem but_upd {H : Hp} {p : Addr} {o : HO} : But p H (upd H p o) := ⟨fun b x e n => by
  rw [upd_ne n]
  exact e, fun z => by
  rw [upd_same] at z
  cases z⟩
/-- a pot at p, its cells at c -/
def Pot (H : Hp) (p c : Addr) : Prop := ∃ (ns : List Int) (pl am sz : Int), H p = some (.lst [.ref c, .int pl, .int am, .int sz]) ∧ H c = some (.lst (ns.map V.int)) ∧ ns.length ≤ 17
theorem pot_ne {H : Hp} {p c : Addr} {ns : List Int} {r : List V} (hp : H p = some (.lst (.ref c :: r))) (hc : H c = some (.lst (ns.map V.int))) : c ≠ p := fun z => by
  rw [z, hp] at hc
  cases ns with
  | nil => cases hc
  | cons x s => cases hc
theorem Pot.same {H H' : Hp} {p c : Addr} (h : Pot H p c) (s : Same H H') : Pot H' p c := by
  obtain ⟨ns, pl, am, sz, h1, h2, h3⟩ := h
  exact ⟨ns, pl, am, sz, s _ _ h1, s _ _ h2, h3⟩
theorem Pot.but {H H' : Hp} {p c q : Addr} (h : Pot H p c) (s : But q H H') (n1 : p ≠ q) (n2 : c ≠ q) : Pot H' p c := by
  obtain ⟨ns, pl, am, sz, h1, h2, h3⟩ := h
  exact ⟨ns, pl, am, sz, s.1 _ _ h1 n1, s.1 _ _ h2 n2, h3⟩
theorem at4 {x0 x1 x2 x3 : V} : atI [x0, x1, x2, x3] 0 = some x0 ∧ atI [x0, x1, x2, x3] 1 = some x1 ∧ atI [x0, x1, x2, x3] 2 = some x2 ∧ atI [x0, x1, x2, x3] 3 = some x3 := ⟨rfl, rfl, rfl, rfl⟩
theorem fmod_range {i j : Int} (h : 0 < j) : 0 ≤ i % j ∧ i % j < j := ⟨Int.emod_nonneg _ (by omega), Int.emod_lt_of_pos _ h⟩
theorem at_mod {ns : List Int} {pl : Int} (h : ns ≠ []) : ∃ z, atI (ns.map V.int) (pl % (ns.length : Int)) = some (.int z) := by
  have hl : 0 < ns.length := by
    cases ns with
    | nil => exact absurd rfl h
    | cons => exact Nat.succ_pos _
  have a := fmod_range (i := pl) (j := (ns.length : Int)) (by omega)
  obtain ⟨j, hj⟩ : ∃ j : Nat, pl % (ns.length : Int) = (j : Int) := ⟨(pl % (ns.length : Int)).toNat, by omega⟩
  have hjl : j < ns.length := by omega
  refine ⟨ns[j], ?_⟩
  rw [hj]
  refine atI_nat ?_
  rw [List.getElem?_map, List.getElem?_eq_getElem hjl]
  rfl
/-! ### data: lists of ints, of texts -/
theorem dp_ints {K : PySem.W.Frag} {H : Hp} : ∀ ns : List Int, DpAll K H (ns.map V.int) (ns.map PyData.int)
  | [] => .nil
  | n :: r => .cons (.int n) (dp_ints r)
theorem lay_ints : ∀ ns : List Int, PyData.canLayAll0 (ns.map PyData.int) = true
  | [] => by simp [PyData.canLayAll0]
  | n :: r => by simp [PyData.canLayAll0, PyData.canLay0, lay_ints r]
theorem dep_ints : ∀ ns : List Int, PyData.depthAll (ns.map PyData.int) ≤ 1
  | [] => by simp [PyData.depthAll]
  | n :: r => by
    have h := dep_ints r
    simp only [List.map_cons, PyData.depthAll, PyData.depth]
    omega
theorem sh_of {d : PyData} (h1 : d.canLay0 = true) (h2 : d.depth ≤ 64) : SeqAt.shaped d = true := by
  show (d.canLay0 && decide (d.depth ≤ 64)) = true
  rw [h1, decide_eq_true h2]
  rfl
theorem sh_ints (ns : List Int) : SeqAt.shaped (.list (ns.map PyData.int)) = true := by
  have h := dep_ints ns
  exact sh_of (by simp only [PyData.canLay0]; exact lay_ints ns) (by simp only [PyData.depth]; omega)
theorem sh_nil : SeqAt.shaped (.list []) = true := sh_of (by simp [PyData.canLay0, PyData.canLayAll0]) (by simp [PyData.depth, PyData.depthAll])
theorem eqv_nil : ∀ ds : List PyData, PyData.eqv (.list ds) (.list []) = decide (ds = [])
  | [] => by simp [PyData.eqv, PyData.eqvAll]
  | _ :: _ => by simp [PyData.eqv, PyData.eqvAll]
theorem pos17 : (0 : Int) < 17 := by decide
theorem posQ : (0 : Int) < 982451629 := by decide
theorem posP : (0 : Int) < 2305843009213693907 := by decide
/-! ### what the module holds -/
structure TxtD (mg : Str → Option Value) : Prop where
  n_int : mg "int" = none
  n_range : mg "range" = none
  n_abs : mg "abs" = none
  n_enumerate : mg "enumerate" = none
  n_len : mg "len" = none
/-! ### promises -/
def spKneaded : Sp := fun vs H Q _ => ∃ (a b : Int), vs = [.int a, .int b] ∧ ∀ v, Q (.int v) H
def spPotOf (K : PySem.W.Frag) : Sp := fun vs H Q _ => ∃ (a : Addr) (ns : List Int), vs = [.ref a] ∧ SqL K H a (ns.map V.int) ∧ ns.length ≤ 63 ∧ ∀ p c H', Same H H' → H p = none → H c = none → Pot H' p c → Q (.ref p) H'
def spBelow : Sp := fun vs H Q _ => ∃ (p c : Addr) (b : Int), vs = [.ref p, .int b] ∧ Pot H p c ∧ 0 < b ∧ b < 1073741824 ∧ ∀ v H', 0 ≤ v → v < b → Pot H' p c → But p H H' → Q (.int v) H'
def spPick (K : PySem.W.Frag) : Sp := fun vs H Q _ => ∃ (p c l : Addr) (xs : List V), vs = [.ref p, .ref l] ∧ Pot H p c ∧ SqL K H l xs ∧ xs ≠ [] ∧ xs.length < 1073741824 ∧ (∀ H', But p H H' → SqL K H' l xs) ∧ ∀ v H', v ∈ xs → Pot H' p c → But p H H' → Q v H'
section
variable {P : Program} {w : World} {K : PySem.W.Frag} {mg : Str → Option Value} {base : Heap}
theorem ok_kneaded {f : Addr} {fd : FuncData} {k : Nat} (F : Fun K "_law_kneaded" "_law_kneaded" s_law_kneaded f fd) (T : TxtD mg) : FnOk P w K mg base CX0 (k + 1) f fd ["seed", "lap"] spKneaded := by
  refine F.ok sc_law_kneaded (fun vs H Q E h => ?_) (fun cdv A outer s H vs Q E hr h => ?_)
  · obtain ⟨a, b, rfl, _⟩ := h
    rfl
  · obtain ⟨a, b, rfl, q⟩ := h
    refine ⟨_, (pss_cons (ps_set (i := 2) sc_law_kneaded.nd rfl (.inl rfl) pe_int)
  (pss_cons (ps_set (i := 3) sc_law_kneaded.nd rfl (.inl rfl) (pe_op op_mod (pe_callTy call_int1 (by rfl) T.n_int (by decide +kernel) (pa_cons (pe_op op_add (pe_op op_add (pe_op op_mul (pv 0) pe_int) (pe_op op_mul (pv 1) pe_int)) pe_int) pa_nil)) (pv 2)))
  (pss_cons (ps_for PassesOwn.never rfl (pi_range1 (by rfl) T.n_range (pa_cons pe_int pa_nil)) (pg_name (i := 4) sc_law_kneaded.nd rfl (.inl rfl))
   (pss_one (ps_set (i := 3) sc_law_kneaded.nd rfl (.inl rfl) (pe_op op_mod (pe_callTy call_int1 (by rfl) T.n_int (by decide +kernel) (pa_cons (pe_op op_add (pe_op op_add (pe_op op_add (pe_op op_mul (pv 3) (pv 3)) (pe_op op_mul pe_int (pv 3))) (pe_op op_mul pe_int (pv 4))) (pv 1)) pa_nil)) (pv 2)))))
  (pss_one (ps_ret (pe_op op_add (pe_op op_mul (pv 3) (pv 2)) (pe_op op_mod (pe_callTy call_int1 (by rfl) T.n_int (by decide +kernel) (pa_cons (pe_op op_add (pe_op op_mul (pv 3) pe_int) (pv 1)) pa_nil)) (pv 2)))))))), ?_⟩
    -- prime = ..; amount = ..
    refine ⟨_, rfl, _, _, rfl, rfl, .inr ⟨by decide, by decide⟩, _, rfl, _, _, rfl, rfl, .inr ⟨by decide, by decide⟩, _, _, rfl, rfl, _, _, rfl, rfl, .inl ⟨_, rfl, _, rfl, _, _, rfl, rfl, posP, ?_⟩⟩
    refine ⟨4, rfl, by decide, by decide, for_range (n := 4) (fun i σ H2 => H2 = H ∧ ∃ (am : Int) (v : Option V), σ = [some (.int a), some (.int b), some (.int 2305843009213693907), some (.int am), v] ∧ 0 ≤ am ∧ am < 2305843009213693907)
      ⟨rfl, _, none, rfl, (fmod_range (by decide)).1, (fmod_range (by decide)).2⟩ ?_ ?_⟩
    · rintro i σ H2 hi ⟨rfl, am, v, rfl, h1, h2⟩
      refine ⟨_, rfl, _, rfl, _, _, rfl, rfl, .inl ⟨by omega, by omega⟩, _, rfl, _, _, rfl, rfl, .inl ⟨by decide, by decide⟩, _, _, rfl, rfl, _, rfl, _, _, rfl, rfl, .inl ⟨by decide, by decide⟩, _, _, rfl, rfl, _, rfl, _, _, rfl, rfl, .inl ⟨_, rfl, _, rfl, _, _, rfl, rfl, posP, ?_⟩⟩
      exact ⟨rfl, _, _, rfl, (fmod_range (by decide)).1, (fmod_range (by decide)).2⟩
    · rintro σ H2 ⟨rfl, am, v, rfl, h1, h2⟩
      refine ⟨_, rfl, _, rfl, _, _, rfl, rfl, .inl ⟨by omega, by omega⟩, _, rfl, _, _, rfl, rfl, .inl ⟨by omega, by omega⟩, _, rfl, _, _, rfl, rfl, .inl ⟨_, rfl, _, rfl, _, _, rfl, rfl, posP, ?_⟩⟩
      exact ⟨_, _, rfl, rfl, q _⟩
theorem cut_map (ns : List Int) (lo hi : Option Int) : cutV (ns.map V.int) lo hi = ((ns.drop (HT.sIx ns.length 0 lo)).take (HT.sIx ns.length ns.length hi - HT.sIx ns.length 0 lo)).map V.int := by
  unfold cutV
  rw [List.length_map, List.map_take, List.map_drop]
theorem ok_pot_of {f : Addr} {fd : FuncData} {k : Nat} (F : Fun K "_law_pot_of" "_law_pot_of" s_law_pot_of f fd) (T : TxtD mg) : FnOk P w K mg base CX0 (k + 1) f fd ["script"] (spPotOf K) := by
  refine F.ok sc_law_pot_of (fun vs H Q E h => ?_) (fun cdv A outer s H vs Q E hr h => ?_)
  · obtain ⟨a, ns, rfl, _⟩ := h
    rfl
  · obtain ⟨a, ns, rfl, hS, hl, q⟩ := h
    refine ⟨_, (pss_cons (ps_setLc (i := 2) (own := [("cell", 1)]) (g := gName 1) rfl sc_law_pot_of.nd rfl rfl (sw_true rfl rfl rfl (by decide +kernel)) (pi_list (pe_slice sl_list (pv 0) po_none (po_some pe_int))) (blkOk_by (own := [("cell", 1)]) (N := ["script", "cell", "cells", "place"]) (sc := defScope s_law_pot_of) (by decide +kernel)) (fun _ _ _ _ _ => (pg_name (i := 1) sc_law_pot_of.nd rfl (.inl rfl))) (fun _ _ _ _ _ => pts_nil) (fun _ _ _ _ _ => (pe_callB call_abs (by rfl) T.n_abs (by decide +kernel) (pa_cons (pv 1) pa_nil))))
  (pss_cons (ps_for PassesOwn.never rfl (pi_enum (by rfl) T.n_enumerate (pa_cons (pe_slice sl_list (pv 0) (po_some pe_int) (po_some pe_int)) pa_nil)) (pg_tup rfl (pgs_cons (pg_name (i := 3) sc_law_pot_of.nd rfl (.inl rfl)) (pgs_cons (pg_name (i := 1) sc_law_pot_of.nd rfl (.inl rfl)) pgs_nil)))
   (pss_one (ps_asg (pe_op op_add (pe_ix ix_list (pv 2) (pe_op op_mod (pv 3) pe_int) (fun _ _ => rfl)) (pe_callB call_abs (by rfl) T.n_abs (by decide +kernel) (pa_cons (pv 1) pa_nil))) (pg_sub (pv 2) (pe_op op_mod (pv 3) pe_int) set_list))))
  (pss_one (ps_ret (pe_lst (pa_cons (pv 2) (pa_cons pe_int (pa_cons pe_int (pa_cons pe_int pa_nil))))))))), ?_⟩
    -- cells
    refine ⟨_, rfl, _, rfl, a, _, rfl, hS, fun p1 n1 => ?_⟩
    rw [cut_map]
    generalize hm : (ns.drop (HT.sIx ns.length 0 none)).take (HT.sIx ns.length ns.length (some 17) - HT.sIx ns.length 0 none) = ms
    have lm : ms.length = min 17 ns.length := by
      rw [← hm, HT.sIx_none, show HT.sIx ns.length ns.length (some 17) = min 17 ns.length from HT.sIx_nat ns.length ns.length 17]
      rw [List.drop_zero, List.length_take]
      omega
    have s1 : Same H (upd H p1 (.lst (ms.map V.int))) := same_upd n1
    refine ⟨p1, rfl, ⟨_, .inl (.inl upd_same)⟩, fun D nD => ?_⟩
    have nDH : H D = none := s1.free nD
    have nDp : p1 ≠ D := fun z => by
      rw [z, upd_same] at nD
      cases nD
    refine lc_list (K := K) (a := p1) (xs := ms.map V.int) (fun i H2 => Same (upd H p1 (.lst (ms.map V.int))) H2 ∧ ∃ zs : List Int, H2 D = some (.lst (zs.map V.int)) ∧ zs.length = i) ⟨same_upd nD, [], upd_same, rfl⟩ (fun i H2 _ h => .inl (.inl (h.1 _ _ upd_same))) ?_ ?_
    · rintro i x H2 hi ⟨s2, zs, hz, hlz⟩
      have hil : i < ms.length := by
        have h := (List.getElem?_eq_some_iff.mp hi).1
        rw [List.length_map] at h
        exact h
      rw [List.getElem?_map, List.getElem?_eq_getElem hil] at hi
      obtain rfl : V.int ms[i] = x := Option.some.inj hi
      refine ⟨rfl, ?_⟩
      unfold tYes
      dsimp only
      rw [if_pos rfl]
      refine ⟨_, rfl, _, rfl, _, hz, ?_, ?_, ?_⟩
      · rw [List.length_map]
        exact small1000 (by omega)
      · exact fun b o e => by
          have hb : b ≠ D := ne_of_none e nD
          rw [upd_ne hb]
          exact s2 b o e
      · refine ⟨zs ++ [if ms[i] < 0 then -ms[i] else ms[i]], ?_, ?_⟩
        · rw [upd_same, List.map_append]
          rfl
        · rw [List.length_append, hlz]
          rfl
    · rintro H2 ⟨s2, zs, hz, hlz⟩
      have sH : Same H H2 := s1.trans s2
      rw [List.length_map] at hlz
      -- enumerate(script[17:60])
      refine ⟨_, rfl, _, rfl, _, rfl, a, _, rfl, sH.seq hS, fun p2 n2 => ?_⟩
      rw [cut_map]
      generalize hm2 : (ns.drop (HT.sIx ns.length 0 (some 17))).take (HT.sIx ns.length ns.length (some 60) - HT.sIx ns.length 0 (some 17)) = ms2
      have lm2 : ms2.length = min 60 ns.length - 17 := by
        rw [← hm2, show HT.sIx ns.length ns.length (some 60) = min 60 ns.length from HT.sIx_nat ns.length ns.length 60, show HT.sIx ns.length 0 (some 17) = min 17 ns.length from HT.sIx_nat ns.length 0 17]
        rw [List.length_take, List.length_drop]
        omega
      have s3 : Same H2 (upd H2 p2 (.lst (ms2.map V.int))) := same_upd n2
      have nDp2 : D ≠ p2 := ne_of_none hz n2
      refine ⟨p2, _, rfl, .inl (.inl upd_same), ?_⟩
      refine for_it (walk_enum (xs := ms2.map V.int)) (fun i σ H3 => Same H H3 ∧ H3 p2 = some (.lst (ms2.map V.int)) ∧ ∃ (zs : List Int) (y z : Option V), σ = [some (.ref a), y, some (.ref D), z] ∧ H3 D = some (.lst (zs.map V.int)) ∧ zs.length = ms.length)
        ⟨sH.trans s3, upd_same, zs, _, _, rfl, s3 _ _ hz, hlz⟩ (fun i σ H3 _ h => .inl (.inl h.2.1)) ?_ ?_
      · rintro i x σ H3 H4 hi ⟨s4, h4, zs4, y, z, rfl, hz4, lz4⟩ ⟨T4, x4, y4, rfl, nT, rfl, ex, ey⟩
        rw [List.length_map] at hi
        have ey : (ms2.map V.int)[i]? = some y4 := ey
        rw [List.getElem?_map, List.getElem?_eq_getElem hi] at ey
        obtain rfl : V.int ms2[i] = y4 := Option.some.inj ey
        obtain rfl : V.int (i : Nat) = x4 := Option.some.inj ex
        have l17 : zs4.length = 17 := by omega
        have r := fmod_range (i := ((i : Nat) : Int)) (j := 17) (by omega)
        obtain ⟨j, hj⟩ : ∃ j : Nat, ((i : Nat) : Int) % 17 = (j : Int) := ⟨(((i : Nat) : Int) % 17).toNat, by omega⟩
        have hjl : j < zs4.length := by omega
        have s5 : Same H3 (upd H3 T4 (.tup [.int (i : Nat), .int ms2[i]])) := same_upd nT
        have hz5 := s5 _ _ hz4
        refine ⟨T4, _, rfl, .inl (.inl upd_same), rfl, _, _, rfl, _, _, rfl, rfl, ?_⟩
        refine ⟨_, rfl, _, rfl, _, _, rfl, rfl, pos17, D, _, _, V.int zs4[j], rfl, rfl, .inl (.inl hz5), ?_, _, rfl, _, rfl, _, _, rfl, rfl, _, rfl, _, rfl, _, _, rfl, rfl, pos17, D, _, _, j, rfl, rfl, hz5, ?_, ?_⟩
        · rw [hj]
          refine atI_nat ?_
          rw [List.getElem?_map, List.getElem?_eq_getElem hjl]
          rfl
        · rw [List.length_map, hj]
          unfold ixN
          rw [if_pos (by omega), if_pos (by omega)]
          rfl
        · refine ⟨?_, ?_, zs4.set j (zs4[j] + (if ms2[i] < 0 then -ms2[i] else ms2[i])), _, _, rfl, ?_, ?_⟩
          · exact fun b o e => by
              have hb : b ≠ D := ne_of_none e nDH
              rw [upd_ne hb]
              exact s5 _ _ (s4 b o e)
          · rw [upd_ne (fun z => nDp2 z.symm)]
            exact s5 _ _ h4
          · rw [upd_same, List.map_set]
          · rw [List.length_set]
            exact lz4
      · rintro σ H3 ⟨s4, h4, zs4, y, z, rfl, hz4, lz4⟩
        refine ⟨_, rfl, ?_, fun p np => ?_⟩
        · show 4 ≤ sizeLine
          decide
        · have s6 : Same H3 (upd H3 p (.lst [.ref D, .int 0, .int 0, .int 0])) := same_upd np
          exact q p D _ (s4.trans s6) (s4.free np) nDH ⟨zs4, 0, 0, 0, upd_same, s6 _ _ hz4, by omega⟩
theorem ok_below {f fk : Addr} {fd fdk : FuncData} {k : Nat} (F : Fun K "_law_below" "_law_below" s_law_below f fd) (T : TxtD mg) (F__law_kneaded : Fun K "_law_kneaded" "_law_kneaded" s_law_kneaded fk fdk) (b__law_kneaded : Binds K fdk ["seed", "lap"] []) (g_k : mg "_law_kneaded" = some (.ref fk)) :
    FnOk P w K mg base CX0 (k + 2) f fd ["pot", "bound"] spBelow := by
  have G__law_kneaded : FnOk P w K mg base CX0 1 fk fdk ["seed", "lap"] spKneaded := ok_kneaded F__law_kneaded T
  refine F.ok sc_law_below (fun vs H Q E h => ?_) (fun cdv A outer s H vs Q E hr h => ?_)
  · obtain ⟨p, c, b, rfl, _⟩ := h
    rfl
  · obtain ⟨p, c, b, rfl, ⟨ns, pl, am, sz, hp, hc, hl⟩, b0, b1, q⟩ := h
    refine ⟨_, (C8.pss_cut (ps_if (pt_cmpR op_lt (pe_ix ix_list (pv 0) pe_int (fun _ _ => rfl)) (pv 1) (nomark _))
   (pss_cons (ps_par (i := 2) (j := 3) (by rfl) sc_law_below.nd rfl rfl (by decide) rfl rfl (pa_cons (pe_ix ix_list (pv 0) pe_int (fun _ _ => rfl)) (pa_cons (pe_ix ix_list (pv 0) pe_int (fun _ _ => rfl)) pa_nil)) (by rfl))
  (C8.pss_cut (ps_set (i := 4) sc_law_below.nd rfl (.inl rfl) (pe_ifExp (pt_cmpR (op_neD hr.units) (pv 2) (pe_lst pa_nil) (nomark _)) (pe_ix ix_list (pv 2) (pe_op op_mod (pv 3) (pe_callB call_len_seq (by rfl) T.n_len (by decide +kernel) (pa_cons (pv 2) pa_nil))) (fun _ _ => rfl)) pe_int))
  (C8.pss_cut (ps_if (PW.pt (pw_or (pt_cmpR op_ge (pv 3) (pe_callB call_len_seq (by rfl) T.n_len (by decide +kernel) (pa_cons (pv 2) pa_nil)) (nomark _)) (pw_or1 (pt_cmpR op_lt (pv 4) (pe_op op_pow pe_int pe_int) (nomark _)))))
   (pss_one (ps_set (i := 4) sc_law_below.nd rfl (.inl rfl) (pe_call G__law_kneaded (hr.mono (by omega)) (by rfl) g_k F__law_kneaded.kp b__law_kneaded .nil pass0 (pa_cons (pe_op op_mod (pe_callTy call_int1 (by rfl) T.n_int (by decide +kernel) (pa_cons (pv 4) pa_nil)) pe_int) (pa_cons (pv 3) pa_nil)))))
   pss_nil)
  (pss_cons (ps_asg (pe_op op_add (pv 3) pe_int) (pg_sub (pv 0) pe_int set_list))
  (pss_cons (ps_asg (pv 4) (pg_sub (pv 0) pe_int set_list))
  (pss_one (ps_asg (pv 4) (pg_sub (pv 0) pe_int set_list))))))))
   pss_nil)
  (pss_cons (ps_set (i := 5) sc_law_below.nd rfl (.inl rfl) (pe_op op_mod (pe_callTy call_int1 (by rfl) T.n_int (by decide +kernel) (pa_cons (pe_ix ix_list (pv 0) pe_int (fun _ _ => rfl)) pa_nil)) (pv 1)))
  (pss_cons (ps_asg (pe_op op_fdiv (pe_ix ix_list (pv 0) pe_int (fun _ _ => rfl)) (pv 1)) (pg_sub (pv 0) pe_int set_list))
  (pss_cons (ps_asg (pe_op op_fdiv (pe_ix ix_list (pv 0) pe_int (fun _ _ => rfl)) (pv 1)) (pg_sub (pv 0) pe_int set_list))
  (pss_one (ps_ret (pv 5))))))), ?_⟩
    have ncp : c ≠ p := pot_ne hp hc
    refine ⟨fun σ H2 => ∃ (pl2 am2 sz2 : Int) (x2 x3 x4 : Option V), σ = [some (.ref p), some (.int b), x2, x3, x4, none] ∧ But p H H2 ∧ H2 p = some (.lst [.ref c, .int pl2, .int am2, .int sz2]) ∧ H2 c = some (.lst (ns.map V.int)), ?_, ?_⟩
    · refine ⟨_, rfl, p, _, _, _, rfl, rfl, .inl (.inl hp), at4.2.2.2, _, rfl, _, _, rfl, rfl, _, rfl, ite2 (fun e => ?_) (fun e => ?_)⟩
      · refine ⟨_, rfl, p, _, _, _, rfl, rfl, .inl (.inl hp), at4.1, _, rfl, p, _, _, _, rfl, rfl, .inl (.inl hp), at4.2.1, _, _, rfl, ?_⟩
        -- amount = cells[..] if cells != [] else 0
        refine ⟨fun σ H2 => ∃ am3 : Int, σ = [some (.ref p), some (.int b), some (.ref c), some (.int pl), some (.int am3), none] ∧ Same H H2, ?_, ?_⟩
        · refine ⟨_, rfl, Nat.zero_le _, fun o no => ?_⟩
          have so : Same H (upd H o (.lst [])) := same_upd no
          have ho : SqL K (upd H o (.lst [])) o [] := .inl (.inl upd_same)
          have hp1 := so _ _ hp
          have hc1 := so _ _ hc
          refine ⟨_, _, .lst (.inl (.inl hc1)) (dp_ints ns), .lst ho .nil, sh_ints ns, sh_nil, _, rfl, ?_⟩
          rw [eqv_nil]
          by_cases hn : ns = []
          · subst hn
            refine iteF ?_
            exact ⟨_, rfl, so⟩
          · have h1 : decide (ns.map PyData.int = []) = false := by
              cases ns with
              | nil => exact absurd rfl hn
              | cons => rfl
            rw [h1]
            refine iteT ?_
            obtain ⟨z, hz⟩ := at_mod (pl := pl) hn
            have hl0 : 0 < ns.length := by
              cases ns with
              | nil => exact absurd rfl hn
              | cons => exact Nat.succ_pos _
            refine ⟨_, rfl, _, rfl, _, rfl, c, _, rfl, .inl (.inl (.inl hc1)), _, _, rfl, rfl, ?_, c, _, _, V.int z, rfl, rfl, .inl (.inl hc1), ?_, ?_⟩
            · rw [List.length_map]
              omega
            · rw [List.length_map]
              exact hz
            · exact ⟨z, rfl, so⟩
        -- if place >= len(cells) or amount < 10 ** 16
        · rintro σ H2 ⟨am3, rfl, s2⟩
          have hp2 := s2 _ _ hp
          have hc2 := s2 _ _ hc
          refine ⟨fun σ H2 => ∃ am3 : Int, σ = [some (.ref p), some (.int b), some (.ref c), some (.int pl), some (.int am3), none] ∧ Same H H2, ?_, ?_⟩
          · have yes : ∃ am4 : Int, ∀ v : Int, True := ⟨0, fun _ => True.intro⟩
            refine ⟨_, rfl, _, rfl, c, _, rfl, .inl (.inl (.inl hc2)), _, _, rfl, rfl, _, rfl, ?_⟩
            refine ite2 (fun e => ?_) (fun e => ?_)
            · refine iteT ?_
              refine ⟨_, rfl, .inl ⟨_, rfl, _, _, rfl, rfl, posQ, _, rfl, _, _, rfl, fun v => ⟨v, rfl, s2⟩⟩⟩
            · refine ⟨_, rfl, _, _, rfl, rfl, ⟨by decide, by decide, by decide⟩, _, _, rfl, rfl, _, rfl, ?_⟩
              refine ite2 (fun e => ?_) (fun e => ?_)
              · refine ⟨_, rfl, .inl ⟨_, rfl, _, _, rfl, rfl, posQ, _, rfl, _, _, rfl, fun v => ⟨v, rfl, s2⟩⟩⟩
              · exact ⟨am3, rfl, s2⟩
          · -- pot[1] = place + 1; pot[2] = amount; pot[3] = amount
            rintro σ H2 ⟨am3, rfl, s2⟩
            have hp2 := s2 _ _ hp
            have hc2 := s2 _ _ hc
            refine ⟨_, rfl, _, _, rfl, rfl, _, rfl, p, _, _, _, rfl, rfl, hp2, rfl, ?_⟩
            refine ⟨_, rfl, _, rfl, p, _, _, _, rfl, rfl, upd_same, rfl, ?_⟩
            refine ⟨_, rfl, _, rfl, p, _, _, _, rfl, rfl, upd_same, rfl, ?_⟩
            refine ⟨pl + 1, am3, am3, _, _, _, rfl, (((But.of hp2 s2).trans but_upd).trans but_upd).trans but_upd, ?_, ?_⟩
            · rw [upd_same]
              rfl
            · rw [upd_ne ncp, upd_ne ncp, upd_ne ncp]
              exact hc2
      · exact ⟨pl, am, sz, none, none, none, rfl, ⟨fun _ _ z _ => z, by rw [hp]; exact fun z => nomatch z⟩, hp, hc⟩
    · rintro σ H2 ⟨pl2, am2, sz2, x2, x3, x4, rfl, hb, hp2, hc2⟩
      -- found = int(pot[2]) % bound
      refine ⟨_, rfl, p, _, _, _, rfl, rfl, .inl (.inl hp2), at4.2.2.1, .inl ⟨_, rfl, _, rfl, _, _, rfl, rfl, b0, ?_⟩⟩
      -- pot[2] = pot[2] // bound; pot[3] = pot[3] // bound
      refine ⟨_, rfl, p, _, _, _, rfl, rfl, .inl (.inl hp2), at4.2.2.1, _, rfl, _, _, rfl, rfl, ⟨b0, b1⟩, _, rfl, p, _, _, _, rfl, rfl, hp2, rfl, ?_⟩
      refine ⟨_, rfl, p, _, _, _, rfl, rfl, .inl (.inl upd_same), at4.2.2.2, _, rfl, _, _, rfl, rfl, ⟨b0, b1⟩, _, rfl, p, _, _, _, rfl, rfl, upd_same, rfl, ?_⟩
      refine ⟨_, rfl, q _ _ (fmod_range b0).1 (fmod_range b0).2 ⟨ns, pl2, am2 / b, sz2 / b, ?_, ?_, hl⟩ ((hb.trans but_upd).trans but_upd)⟩
      · rw [upd_same]
        rfl
      · rw [upd_ne ncp, upd_ne ncp]
        exact hc2
theorem ok_pick {f fb : Addr} {fd fdb : FuncData} {k : Nat} (F : Fun K "_law_pick" "_law_pick" s_law_pick f fd) (T : TxtD mg) (F__law_below : Fun K "_law_below" "_law_below" s_law_below fb fdb) (b__law_below : Binds K fdb ["pot", "bound"] []) (g_b : mg "_law_below" = some (.ref fb))
    (G__law_below : FnOk P w K mg base CX0 2 fb fdb ["pot", "bound"] spBelow) : FnOk P w K mg base CX0 (k + 3) f fd ["pot", "items"] (spPick K) := by
  refine F.ok sc_law_pick (fun vs H Q E h => ?_) (fun cdv A outer s H vs Q E hr h => ?_)
  · obtain ⟨p, c, l, xs, rfl, _⟩ := h
    rfl
  · obtain ⟨p, c, l, xs, rfl, hP, hS, hne, hlen, hk, q⟩ := h
    have hl : 0 < xs.length := by
      cases xs with
      | nil => exact absurd rfl hne
      | cons => exact Nat.succ_pos _
    refine ⟨_, (pss_one (ps_ret (pe_ix ix_list (pv 1) (pe_call G__law_below (hr.mono (by omega)) (by rfl) g_b F__law_below.kp b__law_below .nil pass0 (pa_cons (pv 0) (pa_cons (pe_callB call_len_seq (by rfl) T.n_len (by decide +kernel) (pa_cons (pv 1) pa_nil)) pa_nil))) (fun _ _ => rfl)))), ?_⟩
    refine ⟨_, rfl, _, rfl, _, rfl, l, xs, rfl, .inl hS, p, c, _, rfl, hP, by omega, by omega, fun v H' v0 v1 hP' hb => ?_⟩
    obtain ⟨j, rfl⟩ : ∃ j : Nat, v = (j : Int) := ⟨v.toNat, by omega⟩
    have hj : j < xs.length := by omega
    exact ⟨l, xs, _, xs[j], rfl, rfl, hk H' hb, atI_nat (List.getElem?_eq_getElem hj), q _ H' (List.getElem_mem hj) hP' hb⟩
end
end My

namespace My
open PySem PySem.Spec PyProof.Rows L2
abbrev s_is_integer : Stmt := topS 6
theorem sc_is_integer : FnScope ["thing"] ["thing"] (defScope s_is_integer) := ⟨rfl, rfl, rfl, by decide +kernel, rfl, by decide +kernel, by decide +kernel⟩
abbrev s_trimmed : Stmt := topS 8
theorem sc_trimmed : FnScope ["factors", "many"] ["factors"] (defScope s_trimmed) := ⟨rfl, rfl, rfl, by decide +kernel, rfl, by decide +kernel, by decide +kernel⟩
abbrev s_are_factors : Stmt := topS 17
theorem sc_are_factors : FnScope ["thing", "factor"] ["thing"] (defScope s_are_factors) := ⟨rfl, rfl, rfl, by decide +kernel, rfl, by decide +kernel, by decide +kernel⟩
/-! ### factors -/
structure TxtF (mg : Str → Option Value) : Prop where
  n_isinstance : mg "isinstance" = none
  n_int : mg "int" = none
  n_bool : mg "bool" = none
  n_len : mg "len" = none
  n_list : mg "list" = none
  n_tuple : mg "tuple" = none
  n_all : mg "all" = none
/-- an integer from 0 on -/
def facD : PyData → Bool
  | .int i => decide (0 ≤ i)
  | _ => false
def itemsD : PyData → List PyData
  | .list ds => ds
  | .tuple ds => ds
  | _ => []
def okF (d : PyData) : Bool := (dL d || dT d) && (itemsD d).all facD
/-- how many of the first m are left without the zeros at the end -/
def lastN (ns : List Int) : Nat → Nat
  | 0 => 0
  | m + 1 => if ns[m]? = some 0 then lastN ns m else m + 1
def trimN (ns : List Int) : List Int := ns.take (lastN ns ns.length)
theorem lastN_le (ns : List Int) : ∀ m, lastN ns m ≤ m
  | 0 => Nat.le_refl _
  | m + 1 => by
    unfold lastN
    split
    · exact Nat.le_succ_of_le (lastN_le ns m)
    · exact Nat.le_refl _
theorem trimN_len (ns : List Int) : (trimN ns).length ≤ ns.length := by
  unfold trimN
  rw [List.length_take]
  omega
theorem last_stay {ns : List Int} {i : Nat} (h : ns[i]? ≠ some 0) : lastN ns (i + 1) = i + 1 := by
  rw [lastN, if_neg h]
theorem last_go {ns : List Int} {i : Nat} (h : ns[i]? = some 0) : lastN ns (i + 1) = lastN ns i := by
  rw [lastN, if_pos h]
theorem cut_take (ns : List Int) (m : Nat) : cutV (ns.map V.int) none (some (m : Int)) = (ns.take m).map V.int := by
  rw [cut_map, HT.sIx_none, show HT.sIx ns.length ns.length (some (m : Int)) = min m ns.length from HT.sIx_nat ns.length ns.length m, List.drop_zero, Nat.sub_zero]
  congr 1
  by_cases h : m ≤ ns.length
  · rw [Nat.min_eq_left h]
  · rw [Nat.min_eq_right (by omega), List.take_of_length_le (Nat.le_refl _), List.take_of_length_le (by omega)]
theorem eqI (a b : Int) : V.bl (decide (V.int a = V.int b)) = V.bl (decide (a = b)) := by
  congr 1
  refine decide_eq_decide.mpr ⟨fun h => ?_, fun h => by rw [h]⟩
  cases h
  rfl
theorem kit_seq {K : PySem.W.Frag} (d : PyData) : PySem.W.kitAny K (.type (tyDa d)) [.type "list", .type "tuple"] = some (dL d || dT d) := by
  refine kitAny_cons (b := dL d) (kit_ty (kit_lst d)) (fun h => ?_) (fun h => by rw [h]; rfl)
  refine kitAny_cons (b := dT d) (kit_ty (kit_tup d)) (fun h2 => by rw [h, h2]; exact kitAny_nil) (fun h2 => by rw [h2, Bool.or_true])
theorem same_rfl (H : Hp) : Same H H := fun _ _ e => e
theorem same_at {H H' : Hp} {p : Addr} {o : HO} (s : Same H H') (n : H p = none) : Same H (upd H' p o) := fun b x e => by
  rw [upd_ne (ne_of_none e n)]
  exact s b x e
structure spIsInt (vs : List V) (H : Hp) (Q : VK) (E : XK) : Prop where
  ex : ∃ x d, vs = [x] ∧ Da H x d ∧ Q (.bl (dI d && !dB d)) H
structure spFactors (K : PySem.W.Frag) (vs : List V) (H : Hp) (Q : VK) (E : XK) : Prop where
  ex : ∃ x, vs = [x] ∧ ((∃ d, Da H x d ∧ (itemsD d).length ≤ 1000 ∧ ∀ H', Same H H' → Q (.bl (okF d)) H') ∨ (∃ ty, TyX K H x (.type ty) ∧ (∀ H', Same H H' → TyX K H' x (.type ty)) ∧ PySem.W.kitAny K (.type ty) [.type "list", .type "tuple"] = some false ∧ ∀ H', Same H H' → Q (.bl false) H'))
/-- a list or a tuple of ints at a -/
def IntsAt (H : Hp) (a : Addr) (ns : List Int) : Prop := H a = some (.lst (ns.map V.int)) ∨ Rd H a (.tup (ns.map V.int))
theorem IntsAt.same {H H' : Hp} {a : Addr} {ns : List Int} (h : IntsAt H a ns) (s : Same H H') : IntsAt H' a ns := h.elim (fun e => .inl (s _ _ e)) fun e => .inr (rd_same e s)
theorem IntsAt.sq {K : PySem.W.Frag} {H : Hp} {a : Addr} {ns : List Int} (h : IntsAt H a ns) : SqL K H a (ns.map V.int) ∨ SqT K H a (ns.map V.int) := by
  rcases h with e | e
  · exact .inl (.inl (.inl e))
  · exact .inr (.inl e)
structure spTrim (vs : List V) (H : Hp) (Q : VK) (E : XK) : Prop where
  ex : ∃ a ns, vs = [.ref a] ∧ IntsAt H a ns ∧ ns.length ≤ 1000 ∧ ∀ r H', Same H H' → Rd H' r (.tup ((trimN ns).map V.int)) → Q (.ref r) H'
section
variable {P : Program} {w : World} {K : PySem.W.Frag} {mg : Str → Option Value} {base : Heap}
theorem ok_is_integer {f : Addr} {fd : FuncData} {k : Nat} (F : Fun K "is_integer" "is_integer" s_is_integer f fd) (T : TxtF mg) : FnOk P w K mg base CX0 (k + 1) f fd ["thing"] spIsInt := by
  refine F.ok sc_is_integer (fun vs H Q E h => ?_) (fun cdv A outer s H vs Q E hr h => ?_)
  · obtain ⟨x, d, rfl, _⟩ := h
    rfl
  · obtain ⟨x, d, rfl, hx, q⟩ := h
    refine ⟨_, (pss_one (ps_ret (pe_and (pe_callB call_isi (by rfl) T.n_isinstance (by decide +kernel) (pa_cons (pv 0) (pa_cons (pe_bltn (v := .ty "int") (by rfl) T.n_int (by decide +kernel) rfl) pa_nil))) (pe_one (pe_not (pe_callB call_isi (by rfl) T.n_isinstance (by decide +kernel) (pa_cons (pv 0) (pa_cons (pe_bltn (v := .ty "bool") (by rfl) T.n_bool (by decide +kernel) rfl) pa_nil)))))))), ?_⟩
    refine ⟨_, rfl, _, _, _, _, dI d, rfl, .ty "int", hx.ty, kit_ty (kit_int d), _, rfl, ?_⟩
    cases e : dI d with
    | false =>
      rw [e] at q
      exact iteF q
    | true =>
      rw [e] at q
      exact iteT ⟨_, rfl, _, _, _, _, dB d, rfl, .ty "bool", hx.ty, kit_ty (kit_bool d), _, rfl, q⟩
theorem ok_trimmed {f : Addr} {fd : FuncData} {k : Nat} (F : Fun K "trimmed" "trimmed" s_trimmed f fd) (T : TxtF mg) : FnOk P w K mg base CX0 (k + 1) f fd ["factors"] spTrim := by
  refine F.ok sc_trimmed (fun vs H Q E h => ?_) (fun cdv A outer s H vs Q E hr h => ?_)
  · obtain ⟨a, ns, rfl, _⟩ := h
    rfl
  · obtain ⟨a, ns, rfl, ha, hl, q⟩ := h
    refine ⟨_, (pss_cons (ps_set (i := 1) sc_trimmed.nd rfl (.inl rfl) (pe_callB call_len_seq (by rfl) T.n_len (by decide +kernel) (pa_cons (pv 0) pa_nil)))
  (pss_cons (ps_while PassesOwn.never (PW.pt (pw_and (pt_cmpR op_gt (pv 1) pe_int (nomark _)) (pw_and1 (pt_cmpR op_eq (pe_ix ix_seq (pv 0) (pe_op op_sub (pv 1) pe_int) (fun _ _ => rfl)) pe_int (nomark _)))))
   (pss_one (ps_aug (i := 1) sc_trimmed.nd rfl (.inl rfl) pe_int ip_sub)))
  (pss_one (ps_ret (pe_callTy call_tuple_of (by rfl) T.n_tuple (by decide +kernel) (pa_cons (pe_slice sl_either (pv 0) po_none (po_some (pv 1))) pa_nil)))))), ?_⟩
    refine ⟨_, rfl, a, _, rfl, ha.sq, ?_⟩
    rw [List.length_map]
    refine ⟨fun j σ H2 => H2 = H ∧ j ≤ ns.length ∧ lastN ns j = lastN ns ns.length ∧ σ = [some (.ref a), some (.int (j : Nat))], ⟨ns.length, rfl, Nat.le_refl _, rfl, rfl⟩, ?_⟩
    rintro j σ H2 ⟨rfl, hj, hlast, rfl⟩
    have fin : lastN ns j = j → ∀ r H', Same H2 H' → Rd H' r (.tup ((ns.take j).map V.int)) → Q (.ref r) H' := fun z r H' s e => by
      refine q r H' s ?_
      unfold trimN
      rw [← hlast, z]
      exact e
    have cut := cut_take ns j
    refine ⟨_, rfl, _, _, rfl, rfl, _, rfl, ?_⟩
    cases j with
    | zero =>
      rw [show decide (((0 : Nat) : Int) > 0) = false by decide]
      refine iteF ?_
      refine iteF ?_
      refine ⟨_, rfl, _, rfl, _, rfl, ?_⟩
      rcases ha with e | e
      · refine .inl ⟨a, _, rfl, .inl (.inl e), fun p np => ?_⟩
        rw [cut]
        refine ⟨p, _, rfl, .inl ⟨.inl (.inl upd_same), fun l nl => ?_⟩⟩
        exact fin rfl l _ ((same_upd np).trans (same_upd nl)) (.inl upd_same)
      · refine .inr ⟨a, _, rfl, e, fun r H' s1 e1 => ?_⟩
        rw [cut] at e1
        exact ⟨r, _, rfl, .inr ⟨.inl e1, fin rfl r H' s1 e1⟩⟩
    | succ i =>
      rw [decide_eq_true (show ((i + 1 : Nat) : Int) > (0 : Int) by omega)]
      refine iteT ?_
      have hi : i < ns.length := hj
      have e1 : (((i + 1 : Nat)) : Int) - 1 = (i : Int) := by omega
      have gi : (ns.map V.int)[i]? = some (V.int ns[i]) := by rw [List.getElem?_map, List.getElem?_eq_getElem hi]; rfl
      have ix : ∀ {Q : VK}, Q (V.int ns[i]) H2 → rIx K (.ref a) (.int ((((i + 1 : Nat)) : Int) - 1)) H2 Q := by
        intro Q z
        rw [e1]
        exact ha.sq.elim (fun y => .inl ⟨a, _, _, _, rfl, rfl, y, atI_nat gi, z⟩) fun y => .inr (.inl ⟨a, _, _, _, rfl, rfl, y, atI_nat gi, z⟩)
      refine ⟨_, rfl, _, rfl, _, _, rfl, rfl, ix ?_⟩
      refine ⟨rfl, decide (ns[i] = 0), eqI _ 0, ?_⟩
      by_cases hz : ns[i] = 0
      · rw [decide_eq_true hz]
        refine iteT ?_
        refine ⟨fun σ' H' => H' = H2 ∧ i ≤ ns.length ∧ lastN ns i = lastN ns ns.length ∧ σ' = [some (.ref a), some (.int (i : Nat))], fun σ' H' h => ⟨i, by omega, h⟩, ?_⟩
        have gz : ns[i]? = some 0 := by rw [List.getElem?_eq_getElem hi, hz]
        refine ⟨_, rfl, _, _, rfl, rfl, rfl, Nat.le_of_lt hi, by rw [← hlast, last_go gz], ?_⟩
        show [some (V.ref a), some (V.int (((i + 1 : Nat) : Int) - 1))] = _
        rw [e1]
      · rw [decide_eq_false hz]
        refine iteF ?_
        have z0 : ns[i]? ≠ some 0 := fun z => by
          rw [List.getElem?_eq_getElem hi] at z
          exact hz (Option.some.inj z)
        refine ⟨_, rfl, _, rfl, _, rfl, ?_⟩
        rcases ha with e | e
        · refine .inl ⟨a, _, rfl, .inl (.inl e), fun p np => ?_⟩
          rw [cut]
          refine ⟨p, _, rfl, .inl ⟨.inl (.inl upd_same), fun l nl => ?_⟩⟩
          exact fin (last_stay z0) l _ ((same_upd np).trans (same_upd nl)) (.inl upd_same)
        · refine .inr ⟨a, _, rfl, e, fun r H' s1 e1 => ?_⟩
          rw [cut] at e1
          exact ⟨r, _, rfl, .inr ⟨.inl e1, fin (last_stay z0) r H' s1 e1⟩⟩
theorem fac_and (d : PyData) : facD d = ((dI d && !dB d) && match d with | .int i => decide (0 ≤ i) | _ => false) := by
  cases d <;> simp [facD, dI, dB]
theorem ok_are_factors {f f1 : Addr} {fd fd1 : FuncData} {k : Nat} (F : Fun K "are_factors" "are_factors" s_are_factors f fd) (T : TxtF mg) (F_is_integer : Fun K "is_integer" "is_integer" s_is_integer f1 fd1) (b_is_integer : Binds K fd1 ["thing"] []) (g_is_integer : mg "is_integer" = some (.ref f1)) (G_is_integer : FnOk P w K mg base CX0 1 f1 fd1 ["thing"] spIsInt) :
    FnOk P w K mg base CX0 (k + 2) f fd ["thing"] (spFactors K) := by
  refine F.ok sc_are_factors (fun vs H Q E h => ?_) (fun cdv A outer s H vs Q E hr h => ?_)
  · obtain ⟨x, rfl, _⟩ := h
    rfl
  · obtain ⟨x, rfl, h⟩ := h
    refine ⟨_, (pss_cons (ps_if (pt_not (pt_val (pe_callB call_isiT (by rfl) T.n_isinstance (by decide +kernel) (pa_cons (pv 0) (pa_cons (pe_tup (pa_cons (pe_bltn (v := .ty "list") (by rfl) T.n_list (by decide +kernel) rfl) (pa_cons (pe_bltn (v := .ty "tuple") (by rfl) T.n_tuple (by decide +kernel) rfl) pa_nil))) pa_nil)))))
   (pss_one (ps_ret pe_bl))
   pss_nil)
  (pss_one (ps_ret (pe_callB (cr_all (by rfl)) (by rfl) T.n_all (by decide +kernel) (pa_cons (pe_lc (own := [("factor", 1)]) (g := gName 1) rfl sc_are_factors.nd (pi_either (K := K) rfl (pv 0)) (blkOk_by (own := [("factor", 1)]) (N := ["thing", "factor"]) (sc := defScope s_are_factors) (by decide +kernel)) (fun _ _ _ _ _ => (pg_name (i := 1) sc_are_factors.nd rfl (.inl rfl))) (fun _ _ _ _ _ => pts_nil) (fun _ _ _ _ _ => (pe_and (pe_call G_is_integer (hr.mono (by omega)) (by rfl) g_is_integer F_is_integer.kp b_is_integer .nil pass0 (pa_cons (pv 1) pa_nil)) (pe_one (pe_cmpR op_ge (pv 1) pe_int (nomark _)))))) pa_nil))))), ?_⟩
    clear G_is_integer
    refine ⟨_, rfl, by show 2 ≤ sizeLine; decide, fun t nt => ?_⟩
    have st := same_upd (o := .tup [.ty "list", .ty "tuple"]) nt
    rcases h with ⟨d, hx, few, q⟩ | ⟨ty, hty, keep, hk, q⟩
    · refine ⟨x, t, _, _, _, dL d || dT d, rfl, upd_same, .cons (.ty "list") (.cons (.ty "tuple") .nil), (hx.same st).ty, kit_seq d, _, rfl, ?_⟩
      have hx' := hx.same st
      generalize upd H t (.tup [.ty "list", .ty "tuple"]) = H1 at st hx' ⊢
      cases e : (dL d || dT d) with
      | false =>
        refine iteT ?_
        have n : okF d = false := by unfold okF; rw [e, Bool.false_and]
        rw [n] at q
        exact q _ st
      | true =>
        refine iteF ?_
        have ok : okF d = (itemsD d).all facD := by unfold okF; rw [e, Bool.true_and]
        have step : ∀ {xs : List V} {ds : List PyData} {D : Addr}, DaAll H1 xs ds → ds.length ≤ 1000 → H1 D = none → ∀ (i : Nat) (y : V) (H5 H6 : Hp), i < xs.length → (Same H1 H5 ∧ H5 D = some (.lst ((ds.take i).map fun d => V.bl (facD d)))) → YAt xs i H5 y H6 →
            gName 1 y (wipe (L2.start ["thing", "factor"] [x]) [1]) H6 fun σ2 G2 => wipe σ2 [1] = wipe (L2.start ["thing", "factor"] [x]) [1] ∧ tYes σ2 G2 fun b G3 =>
              if b = true then (tAndV (tCall spIsInt [] E0 (tCons (tVar 1) tNil)) (tOp (rI0 fun i j => V.bl (decide (j ≤ i))) (tVar 1) (tC (V.int 0)))) σ2 G3 fun y G4 => ∃ acc, G4 D = some (.lst acc) ∧ acc.length < sizeLine ∧ (Same H1 (upd G4 D (.lst (acc ++ [y]))) ∧ (upd G4 D (.lst (acc ++ [y]))) D = some (.lst ((ds.take (i + 1)).map fun d => V.bl (facD d)))) else (Same H1 G3 ∧ G3 D = some (.lst ((ds.take (i + 1)).map fun d => V.bl (facD d)))) := by
          intro xs ds D hall hfew nD i y H5 H6 hi hP hY
          obtain ⟨rfl, ey⟩ := hY
          obtain ⟨s5, hD⟩ := hP
          obtain ⟨dy, ed, hy⟩ := hall.get ey
          refine ⟨rfl, ?_⟩
          unfold tYes
          dsimp only
          rw [if_pos rfl]
          have fin : ∀ v, v = V.bl (facD dy) → ∃ acc, H6 D = some (.lst acc) ∧ acc.length < sizeLine ∧ (Same H1 (upd H6 D (.lst (acc ++ [v]))) ∧ (upd H6 D (.lst (acc ++ [v]))) D = some (.lst ((ds.take (i + 1)).map fun d => V.bl (facD d)))) := by
            rintro v rfl
            refine ⟨_, hD, ?_, same_at s5 nD, ?_⟩
            · rw [List.length_map, List.length_take]
              exact small1000 (by omega)
            · rw [upd_same, List.take_add_one, ed, List.map_append]
              rfl
          refine ⟨_, rfl, ⟨y, dy, rfl, hy.same s5, _, rfl, ?_⟩⟩
          cases e9 : (dI dy && !dB dy) with
          | false =>
            refine iteF ?_
            exact fin _ (by rw [fac_and, e9]; rfl)
          | true =>
            refine iteT ?_
            obtain ⟨iv, rfl⟩ : ∃ iv, dy = .int iv := by cases dy <;> first | exact ⟨_, rfl⟩ | cases e9
            cases hy
            exact ⟨_, rfl, _, _, rfl, rfl, fin _ rfl⟩
        cases hx' with
        | @lst a xs ds e2 hall =>
          have lx := hall.length
          refine ⟨_, rfl, a, rfl, .inl ⟨⟨_, .inl (.inl e2)⟩, fun D nD => ?_⟩⟩
          refine lc_it (walk_list (xs := xs)) (fun i H5 => Same H1 H5 ∧ H5 D = some (.lst ((ds.take i).map fun d => V.bl (facD d)))) ⟨same_upd nD, upd_same⟩ (fun i H5 _ h => .inl (.inl (h.1 _ _ e2))) (step hall few nD) ?_
          rintro H5 ⟨s5, hD⟩
          rw [lx, List.take_length] at hD
          refine ⟨D, (ds.map facD), rfl, .inl (.inl (by rw [hD, List.map_map]; rfl)), ?_⟩
          have hn : ((ds.map facD).all id) = okF (.list ds) := by
            rw [ok, List.all_map]
            rfl
          rw [hn]
          exact q H5 (st.trans s5)
        | @tup a xs ds e2 hall =>
          have lx := hall.length
          refine ⟨_, rfl, a, rfl, .inr ⟨⟨_, .inl e2⟩, fun D nD => ?_⟩⟩
          refine lc_it (walk_tup (xs := xs)) (fun i H5 => Same H1 H5 ∧ H5 D = some (.lst ((ds.take i).map fun d => V.bl (facD d)))) ⟨same_upd nD, upd_same⟩ (fun i H5 _ h => .inl (rd_same e2 h.1)) (step hall few nD) ?_
          rintro H5 ⟨s5, hD⟩
          rw [lx, List.take_length] at hD
          refine ⟨D, (ds.map facD), rfl, .inl (.inl (by rw [hD, List.map_map]; rfl)), ?_⟩
          have hn : ((ds.map facD).all id) = okF (.tuple ds) := by
            rw [ok, List.all_map]
            rfl
          rw [hn]
          exact q H5 (st.trans s5)
        | _ => cases e
    · refine ⟨x, t, _, _, _, false, rfl, upd_same, .cons (.ty "list") (.cons (.ty "tuple") .nil), keep _ st, hk, _, rfl, ?_⟩
      refine iteT ?_
      exact q _ st
end
end My

namespace My
open PySem PySem.Spec PyProof.Rows L2
/-! ### the errors and the class -/
abbrev i_TooMany : Stmt := inClass (topS 3) 0
theorem sup_TooMany : SupScope ["self", "limit"] ["self", "limit"] (defScope i_TooMany) := ⟨rfl, rfl, rfl, by decide +kernel, rfl, by decide +kernel, by decide +kernel, by decide +kernel, by decide +kernel, by decide +kernel⟩
abbrev s_Layoutinit : Stmt := inClass (topS 21) 0
theorem sc_Layoutinit : FnScope ["self", "factors"] ["self", "factors"] (defScope s_Layoutinit) := ⟨rfl, rfl, rfl, by decide +kernel, rfl, by decide +kernel, by decide +kernel⟩
/-- C(v): one field -/
def spErr1 (C : Addr) (f : Str) (M : V → Prop) : Sp := fun vs H Q _ => ∃ a v, vs = [.ref a, v] ∧ H a = some (exo a C none) ∧ M v ∧ ∀ d, H d = none → d ≠ a → Q .non (upd (upd H d (exd d [(f, v)])) a (exo a C (some d)))
/-- an int that is shown -/
def IntV (v : V) : Prop := ∃ i : Int, v = .int i ∧ i.natAbs < 10 ^ 30
theorem IntV.log {i : Int} (h : i.natAbs < 10 ^ 30) : i.natAbs.log2 < 1920 := by
  by_cases z : i.natAbs = 0
  · rw [z]
    decide
  · exact (Nat.log2_lt z).mpr (Nat.lt_trans h (by decide))
theorem IntV.txt {i : Int} (h : i.natAbs < 10 ^ 30) : (Str.ofString (toString i)).length ≤ 1921 := by
  rw [PySem.ofString_length]
  exact int_text_length_le (by decide) (IntV.log h)
theorem app_len {a b : Str} {m n : Nat} (h1 : a.length ≤ m) (h2 : b.length ≤ n) : (a ++ b).length ≤ m + n := by
  rw [strLen_append]
  exact Nat.add_le_add h1 h2
theorem le_line {a : Str} {m : Nat} (h : a.length ≤ m) (hm : m ≤ 9000) : a.length ≤ sizeLine := by
  rw [sizeLine_eq]
  omega
structure SupD where
  C : Addr
  fI : Addr
  cc : Addr
  cda : Addr
  fd : FuncData
structure PlainCls (K : PySem.W.Frag) (mg : Str → Option Value) (x : Str) (C : Addr) : Prop where
  gC : mg x = some (.ref C)
  q : PySem.W.excIn K C [.type "ValueError", .type "Exception", .type "BaseException", .type "object"] "ValueError.__new__" = true
  kC : PySem.W.keepIn K (.ref C) = true
abbrev SupOf (P : Program) (K : PySem.W.Frag) (mg : Str → Option Value) (x qual : Str) (st : Stmt) (d : SupD) : Prop := SupCls P K mg x qual st d.C d.fI d.cc d.cda d.fd
/-- the classes that the text makes -/
structure LayD where
  too : SupD
  no : Addr
  lay : Addr
structure LayF (P : Program) (K : PySem.W.Frag) (mg : Str → Option Value) (d : LayD) : Prop where
  too : SupOf P K mg "TooMany" "TooMany.__init__" i_TooMany d.too
  noL : PySem.W.findIn K (.ref d.too.C) "limit" = some none
  no : PlainCls K mg "NoLayout" d.no
  noB : PySem.W.subIn K (.ref d.no) (.type "BaseException") = some true
  noT : PySem.W.typeIn K (.ref d.no) = some (.type "type")
  lay : Cls K d.lay
  gLay : mg "Layout" = some (.ref d.lay)
  exNN : PySem.W.exmOne K (.ref d.no) (.ref d.no) = some true
  exTN : PySem.W.exmOne K (.ref d.too.C) (.ref d.no) = some false
  exTT : PySem.W.exmOne K (.ref d.too.C) (.ref d.too.C) = some true
  xf : XfC K d.too.C
  naF : NoAttr K d.lay "factors"
  naD : NoAttr K d.lay "degree"
structure TxtY (mg : Str → Option Value) (tD : Tok) : Prop where
  n_len : mg "len" = none
  g_MOST_DEGREE : mg "MOST_DEGREE" = some (.int 40 tD)
/-- all stays but what stands at x -/
def Kp (x : Addr) (H H' : Hp) : Prop := ∀ b o, H b = some o → b ≠ x → H' b = some o
/-- the ints of a thing that is factors -/
def intsD (d : PyData) : List Int := (itemsD d).filterMap fun | .int i => some i | _ => none
theorem ints_of {H : Hp} : ∀ {ds : List PyData} {xs : List V}, DaAll H xs ds → ds.all facD = true → xs = (ds.filterMap fun | .int i => some i | _ => none).map V.int
  | _, _, .nil, _ => rfl
  | _, _, .cons (d := d) h t, e => by
    rw [List.all_cons, Bool.and_eq_true] at e
    have r := ints_of t e.2
    cases h with
    | int i =>
      rw [List.filterMap_cons]
      show _ :: _ = _ :: _
      rw [r]
    | _ => exact absurd e.1 Bool.false_ne_true
theorem Da.ints {H : Hp} {x : V} {d : PyData} (h : Da H x d) (e : okF d = true) : ∃ a, x = .ref a ∧ IntsAt H a (intsD d) := by
  unfold okF at e
  rw [Bool.and_eq_true] at e
  cases h with
  | lst e2 hall => exact ⟨_, rfl, .inl (by rw [e2, ints_of hall e.2]; rfl)⟩
  | tup e2 hall =>
    refine ⟨_, rfl, .inr ?_⟩
    have r := ints_of hall e.2
    rw [r] at e2
    exact e2
  | _ => exact absurd e.1 Bool.false_ne_true
theorem ints_len (d : PyData) : (intsD d).length ≤ (itemsD d).length := List.length_filterMap_le _ _
structure spLay (K : PySem.W.Frag) (D : LayD) (vs : List V) (H : Hp) (Q : VK) (E : XK) : Prop where
  ex : ∃ x dx y, vs = [.ref x, y] ∧ H x = some (.ins D.lay dx []) ∧
    ((∃ d, Da H y d ∧ (itemsD d).length ≤ 1000 ∧
      (okF d = false → ∀ H', Kp x H H' → E (.ref D.no) none H') ∧
      (okF d = true → 41 < (trimN (intsD d)).length → ∀ H' e, Kp x H H' → H' e = some (.xd [("limit", .int 40)]) → E (.ref D.too.C) (some e) H') ∧
      (okF d = true → (trimN (intsD d)).length ≤ 41 → ∀ H' r, Kp x H H' → H' x = some (.ins D.lay dx [("factors", .ref r), ("degree", .int ((trimN (intsD d)).length - 1 : Int))]) → Rd H' r (.tup ((trimN (intsD d)).map V.int)) → Q .non H')) ∨
     (∃ ty, TyX K H y (.type ty) ∧ (∀ H', Same H H' → TyX K H' y (.type ty)) ∧ PySem.W.kitAny K (.type ty) [.type "list", .type "tuple"] = some false ∧ ∀ H', Kp x H H' → E (.ref D.no) none H'))
theorem kp_of {H H' : Hp} {x : Addr} (s : Same H H') : Kp x H H' := fun b o e _ => s b o e
section
variable {P : Program} {w : World} {K : PySem.W.Frag} {mg : Str → Option Value} {base : Heap}
theorem bd_TooMany {C fI cc cda : Addr} {fd : FuncData} (T : SupCls P K mg "TooMany" "TooMany.__init__" i_TooMany C fI cc cda fd) : Binds K fd ["self", "limit"] [] := by
  obtain ⟨oc, od, doc, pm, an, ct, osl, rfl, lk⟩ := T.fn
  exact .all fun us hl => match us, hl with | [_, _], _ => rfl
theorem ok_TooMany {C fI cc cda : Addr} {fd : FuncData} {k : Nat} (T : SupCls P K mg "TooMany" "TooMany.__init__" i_TooMany C fI cc cda fd) (hno : PySem.W.findIn K (.ref C) "limit" = some none) : FnOk P w K mg base CX0 (k + 1) fI fd ["self", "limit"] (spErr1 C "limit" IntV) := by
  refine ok_sup T sup_TooMany rfl rfl rfl (fun _ => rfl) (fun _ => rfl) (fun vs H Q E h => ?_) (fun A outer s H vs Q E hr h => ?_)
  · obtain ⟨a, v, rfl, _⟩ := h
    rfl
  · obtain ⟨a, v, rfl, ha, ⟨i, rfl, hi⟩, q⟩ := h
    refine ⟨a, _, _, rfl, ha, pe_joined (.cons pe_str (.cons (pe_fmt (pv 1)) (.cons pe_str .nil))), pss_one (ps_ost (pv 0) (pv 1)), ?_⟩
    refine ⟨_, rfl, le_line (m := 60) (by decide) (by decide), _, rfl, .inr ⟨i, rfl, IntV.log hi, _, rfl, le_line (app_len (m := 60) (by decide) (IntV.txt hi)) (by decide), _, rfl, le_line (app_len (n := 60) (app_len (m := 60) (by decide) (IntV.txt hi)) (by decide)) (by decide), ?_⟩⟩
    exact ⟨ha, _, rfl, _, rfl, a, C, rfl, T.ox, hno, .inl ⟨ha, fun d hd ne => q d hd ne⟩⟩
theorem ok_Layoutinit {d : LayD} {tD : Tok} {f f1 f2 : Addr} {fd fd1 fd2 : FuncData} {k : Nat} (F : Fun K "__init__" "Layout.__init__" s_Layoutinit f fd) (T : TxtY mg tD) (D : LayF P K mg d)
    (F_are_factors : Fun K "are_factors" "are_factors" s_are_factors f1 fd1) (b_are_factors : Binds K fd1 ["thing"] []) (g_are_factors : mg "are_factors" = some (.ref f1)) (G_are_factors : FnOk P w K mg base CX0 2 f1 fd1 ["thing"] (spFactors K))
    (F_trimmed : Fun K "trimmed" "trimmed" s_trimmed f2 fd2) (b_trimmed : Binds K fd2 ["factors"] []) (g_trimmed : mg "trimmed" = some (.ref f2)) (G_trimmed : FnOk P w K mg base CX0 1 f2 fd2 ["factors"] spTrim) :
    FnOk P w K mg base (L2.CX P w) (k + 3) f fd ["self", "factors"] (spLay K d) := by
  refine F.okX sc_Layoutinit (fun vs H Q E h => ?_) (fun cdv A outer s H vs Q E hr h => ?_)
  · obtain ⟨x, dx, y, rfl, _⟩ := h
    rfl
  · obtain ⟨x, dx, y, rfl, hx, h⟩ := h
    refine ⟨_, (pss_cons (ps_if (pt_not (pt_val (pe_call G_are_factors (hr.mono (by omega)) (by rfl) g_are_factors F_are_factors.kp b_are_factors .nil pass0 (pa_cons (pv 1) pa_nil))))
   (pss_one (ps_raise rfl (takes_of rfl rfl rfl rfl) (pmk_own PySem.F.excBase_ValueError D.no.q D.no.gC D.no.kC (raises_own D.noB D.noT) (by exact rfl))))
   pss_nil)
  (pss_cons (ps_fld (pv 0) (pe_call G_trimmed (hr.mono (by omega)) (by rfl) g_trimmed F_trimmed.kp b_trimmed .nil pass0 (pa_cons (pv 1) pa_nil)) rfl)
  (pss_cons (ps_fld (pv 0) (pe_op op_sub (pe_callB call_len_seq (by rfl) T.n_len (by decide +kernel) (pa_cons (pe_fld (pv 0) rfl) pa_nil)) pe_int) rfl)
  (pss_one (ps_if (pt_cmpR op_gt (pe_fld (pv 0) rfl) (pe_glob (v := .int 40) (by rfl) T.g_MOST_DEGREE ⟨_, rfl⟩) (nomark _))
   (pss_one (ps_raise rfl (takes_of rfl rfl rfl rfl) (pmk_oex D.too.ox D.too.iC D.too.tI (ok_TooMany (k := 0) D.too D.noL) (hr.mono (by omega)) (bd_TooMany D.too) .nil pass0 (by rfl) D.too.gC (pa_cons (pe_glob (v := .int 40) (by rfl) T.g_MOST_DEGREE ⟨_, rfl⟩) pa_nil))))
   pss_nil))))), ?_⟩
    clear G_are_factors G_trimmed
    rcases h with ⟨t, hy, few, q1, q2, q3⟩ | ⟨ty, hty, keep, hk, q⟩
    · refine ⟨_, rfl, ⟨y, rfl, .inl ⟨t, hy, few, fun H1 s1 => ?_⟩⟩⟩
      refine ⟨_, rfl, ?_⟩
      cases e : okF t with
      | false =>
        refine iteT ?_
        exact q1 e H1 (kp_of s1)
      | true =>
        refine iteF ?_
        obtain ⟨a, rfl, ia⟩ := hy.ints e
        generalize hns : intsD t = ns at q2 q3 ia
        have lns : ns.length ≤ 1000 := by
          rw [← hns]
          exact Nat.le_trans (ints_len t) few
        refine ⟨_, rfl, ⟨a, ns, rfl, ia.same s1, lns, fun r H2 s2 er => ?_⟩⟩
        have k2 : Kp x H H2 := kp_of (s1.trans s2)
        have hx2 := s2 _ _ (s1 _ _ hx)
        refine ⟨_, rfl, x, d.lay, dx, _, rfl, hx2, D.lay, D.naF, by decide, ?_⟩
        have rx : r ≠ x := by
          rintro rfl
          rcases er with z | ⟨o, z⟩ <;> (rw [hx2] at z; cases z)
        have er3 : Rd (upd H2 x (.ins d.lay dx [("factors", .ref r)])) r (.tup ((trimN ns).map V.int)) := by
          rcases er with z | ⟨o, z⟩
          · exact .inl (by rw [upd_ne rx]; exact z)
          · exact .inr ⟨o, by rw [upd_ne rx]; exact z⟩
        have k3 : Kp x H (upd H2 x (.ins d.lay dx [("factors", .ref r)])) := fun b o eb nb => by
          rw [upd_ne nb]
          exact k2 b o eb nb
        have hx3 : (upd H2 x (.ins d.lay dx [("factors", .ref r)])) x = some (.ins d.lay dx [("factors", .ref r)]) := upd_same
        have e3 : upd H2 x (.ins d.lay dx (putF "factors" (.ref r) [])) = upd H2 x (.ins d.lay dx [("factors", .ref r)]) := rfl
        rw [e3]
        generalize upd H2 x (.ins d.lay dx [("factors", .ref r)]) = H3 at hx3 er3 k3 ⊢
        refine ⟨_, rfl, x, d.lay, dx, _, .ref r, rfl, hx3, D.lay, D.naF, rfl, r, _, rfl, .inr (.inl er3), ?_⟩
        refine ⟨_, _, rfl, rfl, _, rfl, x, d.lay, dx, _, rfl, hx3, D.lay, D.naD, by show 1 < 1000; decide, ?_⟩
        rw [List.length_map]
        have e4 : ∀ v, upd H3 x (.ins d.lay dx (putF "degree" v [("factors", .ref r)])) = upd H3 x (.ins d.lay dx [("factors", .ref r), ("degree", v)]) := fun v => rfl
        rw [e4]
        have hx4 : ∀ v, (upd H3 x (.ins d.lay dx [("factors", .ref r), ("degree", v)])) x = some (.ins d.lay dx [("factors", .ref r), ("degree", v)]) := fun v => upd_same
        have k4 : ∀ v, Kp x H (upd H3 x (.ins d.lay dx [("factors", .ref r), ("degree", v)])) := fun v b o eb nb => by
          rw [upd_ne nb]
          exact k3 b o eb nb
        have er4 : ∀ v, Rd (upd H3 x (.ins d.lay dx [("factors", .ref r), ("degree", v)])) r (.tup ((trimN ns).map V.int)) := fun v => by
          rcases er3 with z | ⟨o, z⟩
          · exact .inl (by rw [upd_ne rx]; exact z)
          · exact .inr ⟨o, by rw [upd_ne rx]; exact z⟩
        generalize trimN ns = ts at q2 q3 er4 ⊢
        specialize hx4 (.int ((ts.length : Nat) - 1))
        specialize k4 (.int ((ts.length : Nat) - 1))
        specialize er4 (.int ((ts.length : Nat) - 1))
        generalize upd H3 x (.ins d.lay dx [("factors", .ref r), ("degree", .int ((ts.length : Nat) - 1))]) = H4 at hx4 k4 er4 ⊢
        refine ⟨_, rfl, x, d.lay, dx, _, .int ((ts.length : Nat) - 1), rfl, hx4, D.lay, D.naD, rfl, _, _, rfl, rfl, _, rfl, ?_⟩
        by_cases big : 41 < ts.length
        · rw [decide_eq_true (show (40 : Int) < (ts.length : Nat) - 1 by omega)]
          refine iteT ?_
          refine ⟨by show 1 ≤ 1000; decide, fun a0 na => ?_⟩
          refine ⟨a0, .int 40, rfl, upd_same, ⟨40, rfl, by decide⟩, fun e0 ne0 nea => ?_⟩
          have n4 : H4 e0 = none := by
            rw [upd_ne nea] at ne0
            exact ne0
          refine ⟨rfl, e0, [("limit", .int 40)], upd_same, ?_, n4, ?_⟩
          · rw [upd_ne nea, upd_same]
          · refine q2 e big _ e0 (fun b o eb nb => ?_) upd_same
            have z := k4 b o eb nb
            have z1 := ne_of_none z n4
            have z2 := ne_of_none z na
            rw [upd_ne z1, del_ne z2, upd_ne z2, upd_ne z1, upd_ne z2]
            exact z
        · rw [decide_eq_false (show ¬ (40 : Int) < (ts.length : Nat) - 1 by omega)]
          refine iteF ?_
          exact q3 e (by omega) H4 r k4 hx4 er4
    · refine ⟨_, rfl, ⟨y, rfl, .inr ⟨ty, hty, keep, hk, fun H1 s1 => ?_⟩⟩⟩
      refine ⟨_, rfl, ?_⟩
      refine iteT ?_
      exact q H1 (kp_of s1)
end
end My

namespace My
open PySem PySem.Spec PyProof.Rows L2
abbrev s_law_word : Stmt := topS 28
theorem sc_law_word : FnScope ["thing", "found", "error"] ["thing"] (defScope s_law_word) := ⟨rfl, rfl, rfl, by decide +kernel, rfl, by decide +kernel, by decide +kernel⟩
theorem pe_fldK {X : Cx} {K : PySem.W.Frag} (hK : X.K = K) {e : Expr} {te : TE} {f : Str} {pos : Pos} (he : PE X e te) (hb : attributeBase e f X.env (eval e X.env) = eval e X.env) : PE X (.Attribute e f pos) (tFld K te f) := by
  subst hK
  exact pe_fld he hb
/-- what the document asks of Layout(d).factors: a word, the limit, or the factors -/
def DueV (H : Hp) (d : PyData) (v : V) : Prop := (okF d = false ∧ v = .str "none") ∨ (okF d = true ∧ 41 < (trimN (intsD d)).length ∧ v = .int 40) ∨ (okF d = true ∧ (trimN (intsD d)).length ≤ 41 ∧ ∃ r, v = .ref r ∧ Rd H r (.tup ((trimN (intsD d)).map V.int)))
structure spDue (K : PySem.W.Frag) (vs : List V) (H : Hp) (Q : VK) (E : XK) : Prop where
  ex : ∃ y, vs = [y] ∧ ((∃ d, Da H y d ∧ (itemsD d).length ≤ 1000 ∧ ∀ v H', Same H H' → DueV H' d v → Q v H') ∨
    (∃ ty, TyX K H y (.type ty) ∧ (∀ H', Same H H' → TyX K H' y (.type ty)) ∧ PySem.W.kitAny K (.type ty) [.type "list", .type "tuple"] = some false ∧ ∀ H', Same H H' → Q (.str "none") H'))
section
variable {P : Program} {w : World} {K : PySem.W.Frag} {mg : Str → Option Value} {base : Heap}
theorem ok_law_word {d : LayD} {f f1 : Addr} {fd fd1 : FuncData} {k : Nat} (F : Fun K "_law_word" "_law_word" s_law_word f fd) (D : LayF P K mg d) (M : Mk K d.lay f1) (b_Layoutinit : Binds K fd1 ["self", "factors"] []) (G_Layoutinit : FnOk P w K mg base (L2.CX P w) 3 f1 fd1 ["self", "factors"] (spLay K d)) :
    FnOk P w K mg base CX0 (k + 5) f fd ["thing"] (spDue K) := by
  refine F.ok sc_law_word (fun vs H Q E h => ?_) (fun cdv A outer s H vs Q E hr h => ?_)
  · obtain ⟨y, rfl, _⟩ := h
    rfl
  · obtain ⟨y, rfl, h⟩ := h
    refine ⟨_, (pss_cons (ps_set (i := 1) sc_law_word.nd rfl (.inl rfl) pe_non)
  (pss_cons (ps_try_each rfl rfl sc_law_word.nd takes_none5 (fun W pn xe tk _ => pss_one (ps_set (i := 1) sc_law_word.nd rfl (.inl rfl) (pe_fldK (K := K) rfl (pe_makeS M G_Layoutinit (hr.mono (by omega)) (by rfl) D.gLay b_Layoutinit (fun σ => passAt tk σ) (pa_cons (pv 0) pa_nil)) rfl))) (.cons (q := ⟨.ref d.no, 2, _⟩) ⟨rfl, by decide, .inl D.no.gC⟩ rfl rfl (fun a oe cls dd pn hz hf => pss_one (ps_set (i := 1) sc_law_word.nd rfl (.inl rfl) pe_str)) (.cons (q := ⟨.ref d.too.C, 2, _⟩) ⟨rfl, by decide, .inl D.too.gC⟩ rfl rfl (fun a oe cls dd pn hz hf => pss_one (ps_set (i := 1) sc_law_word.nd rfl (.inl rfl) (pe_xf D.xf D.noL hz hf (pv 2)))) .nil)))
  (pss_one (ps_ret (pv 1))))), ?_⟩
    clear G_Layoutinit
    refine ⟨_, rfl, fun x dx nx ndx dxx => ⟨⟨x, dx, y, rfl, upd_same, ?_⟩⟩⟩
    have s0 : Same H (upd (upd H dx (.own x)) x (.ins d.lay dx [])) := fun b o e => by
      rw [upd_ne (ne_of_none e nx), upd_ne (ne_of_none e ndx)]
      exact e
    have sk : ∀ {H' : Hp}, Kp x (upd (upd H dx (.own x)) x (.ins d.lay dx [])) H' → Same H H' := fun k b o e => k b o (s0 b o e) (ne_of_none e nx)
    rcases h with ⟨t, hy, few, q⟩ | ⟨ty, hty, keep, hk, q⟩
    · refine .inl ⟨t, hy.same s0, few, fun e H' k => ?_, fun e big H' a k ha => ?_, fun e le H' r k hx er => ?_⟩
      · refine ⟨true, D.exNN, fun _ a na => ?_, fun z => nomatch z⟩
        exact ⟨_, rfl, q _ _ (sk k) (.inl ⟨e, rfl⟩)⟩
      · refine ⟨false, D.exTN, (fun z => nomatch z), fun _ => ⟨true, D.exTT, fun _ a2 na => ?_, fun z => nomatch z⟩⟩
        exact ⟨_, rfl, rfl, rfl, a, _, .int 40, rfl, ha, rfl, _, rfl, q _ _ (sk k) (.inr (.inl ⟨e, big, rfl⟩))⟩
      · exact ⟨rfl, x, d.lay, dx, _, .ref r, rfl, hx, D.lay, D.naF, rfl, _, rfl, q _ _ (sk k) (.inr (.inr ⟨e, le, r, rfl, er⟩))⟩
    · refine .inr ⟨ty, keep _ s0, (fun H' s => keep _ (s0.trans s)), hk, fun H' k => ?_⟩
      refine ⟨true, D.exNN, fun _ a na => ?_, fun z => nomatch z⟩
      exact ⟨_, rfl, q _ (sk k)⟩
end
end My

namespace My
open PySem PySem.Spec PyProof.Rows L2
abbrev s_law_due : Stmt := topS 29
theorem sc_law_due : FnScope ["thing", "some", "one"] ["thing"] (defScope s_law_due) := ⟨rfl, rfl, rfl, by decide +kernel, rfl, by decide +kernel, by decide +kernel⟩
theorem call_isiQ {X : Cx} {K : PySem.W.Frag} (hK : X.K = K) : CallR X (.builtin "isinstance") (rIsi K) := by
  subst hK
  exact call_isi
theorem at_last (l : List V) (x : V) : atI (l ++ [x]) (-1) = some x := by
  unfold atI ixN
  rw [List.length_append, List.length_cons, List.length_nil, if_neg (by decide), if_pos (by omega), Option.bind_some]
  rw [show (-1 + ((l.length + (0 + 1) : Nat) : Int)).toNat = l.length by omega]
  simp
theorem last_get (l : List V) (x : V) : (l ++ [x])[(l ++ [x]).length - 1]? = some x := by simp
section
variable {P : Program} {w : World} {K : PySem.W.Frag} {mg : Str → Option Value} {base : Heap}
theorem ok_law_due {f : Addr} {fd : FuncData} {k : Nat} (F : Fun K "_law_due" "_law_due" s_law_due f fd) (T : TxtF mg) : FnOk P w K mg base CX0 (k + 1) f fd ["thing"] (spDue K) := by
  refine F.ok sc_law_due (fun vs H Q E h => ?_) (fun cdv A outer s H vs Q E hr h => ?_)
  · obtain ⟨y, rfl, h⟩ := h
    rfl
  · obtain ⟨y, rfl, h⟩ := h
    refine ⟨_, (pss_cons (ps_if (pt_not (pt_val (pe_callB call_isiT (by rfl) T.n_isinstance (by decide +kernel) (pa_cons (pv 0) (pa_cons (pe_tup (pa_cons (pe_bltn (v := .ty "list") (by rfl) T.n_list (by decide +kernel) rfl) (pa_cons (pe_bltn (v := .ty "tuple") (by rfl) T.n_tuple (by decide +kernel) rfl) pa_nil))) pa_nil)))))
   (pss_one (ps_ret pe_str))
   pss_nil)
  (pss_cons (ps_if (pt_cmpR (op_neNil hr.units) (pe_lc (own := [("one", 2)]) (g := gName 2) rfl sc_law_due.nd (pi_either (K := K) rfl (pv 0)) (blkOk_by (own := [("one", 2)]) (N := ["thing", "some", "one"]) (sc := defScope s_law_due) (by decide +kernel)) (fun _ _ _ _ _ => (pg_name (i := 2) sc_law_due.nd rfl (.inl rfl))) (fun _ _ _ _ _ => (pts_one (PW.pt (pw_or (pt_not (pt_val (pe_callB (call_isiQ (K := K) rfl) (by rfl) T.n_isinstance (by decide +kernel) (pa_cons (pv 2) (pa_cons (pe_bltn (v := .ty "int") (by rfl) T.n_int (by decide +kernel) rfl) pa_nil))))) (pw_or (pt_val (pe_callB (call_isiQ (K := K) rfl) (by rfl) T.n_isinstance (by decide +kernel) (pa_cons (pv 2) (pa_cons (pe_bltn (v := .ty "bool") (by rfl) T.n_bool (by decide +kernel) rfl) pa_nil)))) (pw_or1 (pt_cmpR op_lt (pv 2) pe_int (nomark _)))))))) (fun _ _ _ _ _ => (pv 2))) (pe_lst pa_nil) (nomark _))
   (pss_one (ps_ret pe_str))
   pss_nil)
  (pss_cons (ps_set (i := 1) sc_law_due.nd rfl (.inl rfl) (pe_callTy call_list_of (by rfl) T.n_list (by decide +kernel) (pa_cons (pv 0) pa_nil)))
  (pss_cons (ps_while PassesOwn.never (PW.pt (pw_and (pt_cmpR (op_neNil hr.units) (pv 1) (pe_lst pa_nil) (nomark _)) (pw_and1 (pt_cmpR op_eq (pe_ix ix_list (pv 1) (pe_un un_neg pe_int) (fun _ _ => rfl)) pe_int (nomark _)))))
   (pss_one (ps_expr (pe_bm0 PySem.F.plainAttrs_list PySem.F.slot_list_pop PySem.F.type_list_pop mt_pop (pv 1)))))
  (pss_one (ps_ret (pe_ifExp (pt_cmpR op_gt (pe_callB call_len_seq (by rfl) T.n_len (by decide +kernel) (pa_cons (pv 1) pa_nil)) pe_int (nomark _)) pe_int (pe_callTy call_tuple_of (by rfl) T.n_tuple (by decide +kernel) (pa_cons (pv 1) pa_nil))))))))), ?_⟩
    refine ⟨_, rfl, by show 2 ≤ sizeLine; decide, fun t nt => ?_⟩
    have st := same_upd (o := .tup [.ty "list", .ty "tuple"]) nt
    rcases h with ⟨d, hy, few, q⟩ | ⟨ty, hty, keep, hk, q⟩
    · refine ⟨y, t, _, _, _, dL d || dT d, rfl, upd_same, .cons (.ty "list") (.cons (.ty "tuple") .nil), (hy.same st).ty, kit_seq d, _, rfl, ?_⟩
      have hy1 := hy.same st
      generalize upd H t (.tup [.ty "list", .ty "tuple"]) = H1 at st hy1 ⊢
      cases e : (dL d || dT d) with
      | false =>
        refine iteT ?_
        exact q _ _ st (.inl ⟨by unfold okF; rw [e, Bool.false_and], rfl⟩)
      | true =>
        refine iteF ?_
        have ok : okF d = (itemsD d).all facD := by unfold okF; rw [e, Bool.true_and]
        let Pv : Addr → List PyData → Nat → Hp → Prop := fun D ds i H5 => Same H1 H5 ∧ ∃ acc, H5 D = some (.lst acc) ∧ acc.length ≤ i ∧ acc.isEmpty = (ds.take i).all facD
        have step : ∀ {xs : List V} {ds : List PyData} {D : Addr}, DaAll H1 xs ds → ds.length ≤ 1000 → H1 D = none → ∀ (i : Nat) (z : V) (H5 H6 : Hp), i < xs.length → Pv D ds i H5 → YAt xs i H5 z H6 →
            gName 2 z (wipe (L2.start ["thing", "some", "one"] [y]) [2]) H6 fun σ2 G2 => wipe σ2 [2] = wipe (L2.start ["thing", "some", "one"] [y]) [2] ∧
              (tOr (tNot (tB (tCB (rIsi K) (tCons (tVar 2) (tCons (tC (V.ty "int")) tNil))))) (tOr (tB (tCB (rIsi K) (tCons (tVar 2) (tCons (tC (V.ty "bool")) tNil)))) (tTest (tOp (rI0 fun i j => V.bl (decide (i < j))) (tVar 2) (tC (V.int 0)))))) σ2 G2 fun b G3 =>
              if b = true then (tVar 2) σ2 G3 fun v G4 => ∃ acc, G4 D = some (.lst acc) ∧ acc.length < sizeLine ∧ Pv D ds (i + 1) (upd G4 D (.lst (acc ++ [v]))) else Pv D ds (i + 1) G3 := by
          intro xs ds D hall hfew nD i z H5 H6 hi hP hY
          obtain ⟨rfl, ez⟩ := hY
          obtain ⟨s5, acc, hD, la, em⟩ := hP
          obtain ⟨dz, ed, hz⟩ := hall.get ez
          have hi' : i < ds.length := by rw [← hall.length]; exact hi
          have tk : (ds.take (i + 1)).all facD = (acc.isEmpty && facD dz) := by
            rw [List.take_add_one, ed, List.all_append, em]
            simp
          refine ⟨rfl, ?_⟩
          have add : facD dz = false → ∃ acc', H6 D = some (.lst acc') ∧ acc'.length < sizeLine ∧ Pv D ds (i + 1) (upd H6 D (.lst (acc' ++ [z]))) := fun fz => by
            refine ⟨acc, hD, small1000 (by omega), same_at s5 nD, acc ++ [z], upd_same, by rw [List.length_append, List.length_singleton]; omega, ?_⟩
            rw [tk, fz, Bool.and_false]
            simp
          have skip : facD dz = true → Pv D ds (i + 1) H6 := fun fz => by
            refine ⟨s5, acc, hD, by omega, ?_⟩
            rw [tk, fz, Bool.and_true]
          refine ⟨_, rfl, _, _, _, _, dI dz, rfl, .ty "int", (hz.same s5).ty, kit_ty (kit_int dz), _, rfl, ?_⟩
          cases eI : dI dz with
          | false =>
            refine iteT ?_
            refine iteT ?_
            exact ⟨_, rfl, add (by rw [fac_and, eI]; rfl)⟩
          | true =>
            refine iteF ?_
            refine ⟨_, rfl, _, _, _, _, dB dz, rfl, .ty "bool", (hz.same s5).ty, kit_ty (kit_bool dz), _, rfl, ?_⟩
            cases eB : dB dz with
            | true =>
              refine iteT ?_
              refine iteT ?_
              exact ⟨_, rfl, add (by rw [fac_and, eI, eB]; rfl)⟩
            | false =>
              refine iteF ?_
              obtain ⟨iv, rfl⟩ : ∃ iv, dz = .int iv := by cases dz <;> first | exact ⟨_, rfl⟩ | exact absurd eI Bool.false_ne_true | exact absurd eB (fun z => Bool.false_ne_true z.symm)
              cases hz
              refine ⟨_, rfl, _, _, rfl, rfl, _, rfl, ?_⟩
              by_cases neg : iv < 0
              · rw [decide_eq_true neg]
                refine iteT ?_
                exact ⟨_, rfl, add (decide_eq_false (by omega))⟩
              · rw [decide_eq_false neg]
                refine iteF ?_
                exact skip (decide_eq_true (by omega))
        have hyc := hy1
        cases hyc with
        | @lst a xs ds e2 hall =>
          have lx := hall.length
          refine ⟨_, rfl, a, rfl, .inl ⟨⟨_, .inl (.inl e2)⟩, fun D nD => ?_⟩⟩
          refine lc_it (walk_list (xs := xs)) (Pv D ds) ⟨same_upd nD, [], upd_same, Nat.le_refl _, rfl⟩ (fun i H5 _ h => .inl (.inl (h.1 _ _ e2))) (step hall few nD) ?_
          rintro H5 ⟨s5, acc, hD, la, em⟩
          rw [lx, List.take_length] at em
          have okd : okF (.list ds) = ds.all facD := ok
          refine ⟨by show 0 ≤ sizeLine; decide, fun b nb => ?_⟩
          refine ⟨D, b, acc, rfl, rfl, (by rw [upd_ne (ne_of_none hD nb)]; exact hD), upd_same, _, rfl, ?_⟩
          have s6 := s5.trans (same_upd (o := .lst []) nb)
          generalize upd H5 b (.lst []) = H6 at s6 ⊢
          rw [em]
          cases ea : ds.all facD with
          | false =>
            refine iteT ?_
            exact q _ _ (st.trans s6) (.inl ⟨by rw [okd, ea], rfl⟩)
          | true =>
            refine iteF ?_
            obtain ⟨a', ya, ia⟩ := hy1.ints (by rw [okd, ea])
            cases ya
            have lns : (intsD (.list ds)).length ≤ 1000 := Nat.le_trans (ints_len _) few
            have fin : ∀ v H', Same H1 H' → ((41 < (trimN (intsD (.list ds))).length ∧ v = .int 40) ∨ ((trimN (intsD (.list ds))).length ≤ 41 ∧ ∃ r, v = .ref r ∧ Rd H' r (.tup ((trimN (intsD (.list ds))).map V.int)))) → Q v H' := by
              rintro v H' s (⟨h1, h2⟩ | ⟨h1, h2⟩)
              · exact q _ _ (st.trans s) (.inr (.inl ⟨by rw [okd, ea], h1, h2⟩))
              · exact q _ _ (st.trans s) (.inr (.inr ⟨by rw [okd, ea], h1, h2⟩))
            generalize intsD (.list ds) = ns at ia lns fin
            refine ⟨_, rfl, a, _, rfl, (ia.same s6).sq, fun l nl => ?_⟩
            have hl : (upd H6 l (.lst (ns.map V.int))) l = some (.lst (ns.map V.int)) := upd_same
            have s7 := s6.trans (same_upd (o := .lst (ns.map V.int)) nl)
            have nl1 : H1 l = none := s6.free nl
            generalize upd H6 l (.lst (ns.map V.int)) = H7 at hl s7 ⊢
            refine ⟨fun j σ H8 => j ≤ ns.length ∧ lastN ns j = lastN ns ns.length ∧ Same H1 H8 ∧ H8 l = some (.lst ((ns.take j).map V.int)) ∧ σ = [some (.ref a), some (.ref l), none], ⟨ns.length, Nat.le_refl _, rfl, s7, by rw [hl, List.take_length], rfl⟩, ?_⟩
            rintro j σ H8 ⟨hj, hlast, s8, hl8, rfl⟩
            refine ⟨_, rfl, by show 0 ≤ sizeLine; decide, fun b2 nb2 => ?_⟩
            have hl9 : (upd H8 b2 (.lst [])) l = some (.lst ((ns.take j).map V.int)) := by
              rw [upd_ne (ne_of_none hl8 nb2)]
              exact hl8
            refine ⟨l, b2, _, rfl, rfl, hl9, upd_same, _, rfl, ?_⟩
            have s9 := s8.trans (same_upd (o := .lst []) nb2)
            generalize upd H8 b2 (.lst []) = H9 at s9 hl9 ⊢
            cases j with
            | zero =>
              refine iteF ?_
              refine iteF ?_
              have tm : trimN ns = ns.take 0 := by
                unfold trimN
                rw [← hlast, show lastN ns 0 = 0 from rfl]
              have lm : (trimN ns).length = 0 := by
                rw [tm, List.length_take, Nat.min_eq_left hj]
              refine ⟨_, rfl, l, _, rfl, .inl (.inl (.inl hl9)), _, _, rfl, rfl, _, rfl, ?_⟩
              rw [List.length_map, ← tm, lm]
              by_cases big : 41 < 0
              · rw [decide_eq_true (show (41 : Int) < ((0 : Nat) : Int) by omega)]
                refine iteT ?_
                exact fin _ _ s9 (.inl ⟨by omega, rfl⟩)
              · rw [decide_eq_false (show ¬ (41 : Int) < ((0 : Nat) : Int) by omega)]
                refine iteF ?_
                exact ⟨_, rfl, l, _, rfl, .inl ⟨.inl (.inl hl9), fun r nr => fin _ _ (s9.trans (same_upd nr)) (.inr ⟨by omega, r, rfl, .inl (by rw [upd_same, tm])⟩)⟩⟩
            | succ i =>
              have hi : i < ns.length := hj
              have ts : (ns.take (i + 1)).map V.int = (ns.take i).map V.int ++ [V.int ns[i]] := by
                rw [List.take_add_one, List.getElem?_eq_getElem hi, List.map_append]
                rfl
              have ne : (!((ns.take (i + 1)).map V.int).isEmpty) = true := by
                rw [ts]
                simp
              rw [ne]
              refine iteT ?_
              have hl10 := hl9
              rw [ts] at hl10
              refine ⟨_, rfl, _, rfl, l, _, _, _, rfl, rfl, .inl (.inl hl10), at_last _ _, rfl, decide (ns[i] = 0), eqI _ 0, ?_⟩
              by_cases hz : ns[i] = 0
              · rw [decide_eq_true hz]
                refine iteT ?_
                have gz : ns[i]? = some 0 := by rw [List.getElem?_eq_getElem hi, hz]
                refine ⟨fun σ' H' => i ≤ ns.length ∧ lastN ns i = lastN ns ns.length ∧ Same H1 H' ∧ H' l = some (.lst ((ns.take i).map V.int)) ∧ σ' = [some (.ref a), some (.ref l), none], fun σ' H' h => ⟨i, by omega, h⟩, ?_⟩
                refine ⟨_, rfl, .inl ⟨rfl, _, .inl (.inl hl10)⟩, l, _, _, rfl, rfl, hl10, last_get _ _, Nat.le_of_lt hi, by rw [← hlast, last_go gz], same_at s9 nl1, ?_, rfl⟩
                rw [upd_same, List.dropLast_concat]
              · rw [decide_eq_false hz]
                refine iteF ?_
                have z0 : ns[i]? ≠ some 0 := fun z => by
                  rw [List.getElem?_eq_getElem hi] at z
                  exact hz (Option.some.inj z)
                have tm : trimN ns = ns.take (i + 1) := by
                  unfold trimN
                  rw [← hlast, last_stay z0]
                have lm : (trimN ns).length = (i + 1) := by
                  rw [tm, List.length_take, Nat.min_eq_left hj]
                refine ⟨_, rfl, l, _, rfl, .inl (.inl (.inl hl9)), _, _, rfl, rfl, _, rfl, ?_⟩
                rw [List.length_map, ← tm, lm]
                by_cases big : 41 < (i + 1)
                · rw [decide_eq_true (show (41 : Int) < (((i + 1) : Nat) : Int) by omega)]
                  refine iteT ?_
                  exact fin _ _ s9 (.inl ⟨by omega, rfl⟩)
                · rw [decide_eq_false (show ¬ (41 : Int) < (((i + 1) : Nat) : Int) by omega)]
                  refine iteF ?_
                  exact ⟨_, rfl, l, _, rfl, .inl ⟨.inl (.inl hl9), fun r nr => fin _ _ (s9.trans (same_upd nr)) (.inr ⟨by omega, r, rfl, .inl (by rw [upd_same, tm])⟩)⟩⟩
        | @tup a xs ds e2 hall =>
          have lx := hall.length
          refine ⟨_, rfl, a, rfl, .inr ⟨⟨_, .inl e2⟩, fun D nD => ?_⟩⟩
          refine lc_it (walk_tup (xs := xs)) (Pv D ds) ⟨same_upd nD, [], upd_same, Nat.le_refl _, rfl⟩ (fun i H5 _ h => .inl (rd_same e2 h.1)) (step hall few nD) ?_
          rintro H5 ⟨s5, acc, hD, la, em⟩
          rw [lx, List.take_length] at em
          have okd : okF (.tuple ds) = ds.all facD := ok
          refine ⟨by show 0 ≤ sizeLine; decide, fun b nb => ?_⟩
          refine ⟨D, b, acc, rfl, rfl, (by rw [upd_ne (ne_of_none hD nb)]; exact hD), upd_same, _, rfl, ?_⟩
          have s6 := s5.trans (same_upd (o := .lst []) nb)
          generalize upd H5 b (.lst []) = H6 at s6 ⊢
          rw [em]
          cases ea : ds.all facD with
          | false =>
            refine iteT ?_
            exact q _ _ (st.trans s6) (.inl ⟨by rw [okd, ea], rfl⟩)
          | true =>
            refine iteF ?_
            obtain ⟨a', ya, ia⟩ := hy1.ints (by rw [okd, ea])
            cases ya
            have lns : (intsD (.tuple ds)).length ≤ 1000 := Nat.le_trans (ints_len _) few
            have fin : ∀ v H', Same H1 H' → ((41 < (trimN (intsD (.tuple ds))).length ∧ v = .int 40) ∨ ((trimN (intsD (.tuple ds))).length ≤ 41 ∧ ∃ r, v = .ref r ∧ Rd H' r (.tup ((trimN (intsD (.tuple ds))).map V.int)))) → Q v H' := by
              rintro v H' s (⟨h1, h2⟩ | ⟨h1, h2⟩)
              · exact q _ _ (st.trans s) (.inr (.inl ⟨by rw [okd, ea], h1, h2⟩))
              · exact q _ _ (st.trans s) (.inr (.inr ⟨by rw [okd, ea], h1, h2⟩))
            generalize intsD (.tuple ds) = ns at ia lns fin
            refine ⟨_, rfl, a, _, rfl, (ia.same s6).sq, fun l nl => ?_⟩
            have hl : (upd H6 l (.lst (ns.map V.int))) l = some (.lst (ns.map V.int)) := upd_same
            have s7 := s6.trans (same_upd (o := .lst (ns.map V.int)) nl)
            have nl1 : H1 l = none := s6.free nl
            generalize upd H6 l (.lst (ns.map V.int)) = H7 at hl s7 ⊢
            refine ⟨fun j σ H8 => j ≤ ns.length ∧ lastN ns j = lastN ns ns.length ∧ Same H1 H8 ∧ H8 l = some (.lst ((ns.take j).map V.int)) ∧ σ = [some (.ref a), some (.ref l), none], ⟨ns.length, Nat.le_refl _, rfl, s7, by rw [hl, List.take_length], rfl⟩, ?_⟩
            rintro j σ H8 ⟨hj, hlast, s8, hl8, rfl⟩
            refine ⟨_, rfl, by show 0 ≤ sizeLine; decide, fun b2 nb2 => ?_⟩
            have hl9 : (upd H8 b2 (.lst [])) l = some (.lst ((ns.take j).map V.int)) := by
              rw [upd_ne (ne_of_none hl8 nb2)]
              exact hl8
            refine ⟨l, b2, _, rfl, rfl, hl9, upd_same, _, rfl, ?_⟩
            have s9 := s8.trans (same_upd (o := .lst []) nb2)
            generalize upd H8 b2 (.lst []) = H9 at s9 hl9 ⊢
            cases j with
            | zero =>
              refine iteF ?_
              refine iteF ?_
              have tm : trimN ns = ns.take 0 := by
                unfold trimN
                rw [← hlast, show lastN ns 0 = 0 from rfl]
              have lm : (trimN ns).length = 0 := by
                rw [tm, List.length_take, Nat.min_eq_left hj]
              refine ⟨_, rfl, l, _, rfl, .inl (.inl (.inl hl9)), _, _, rfl, rfl, _, rfl, ?_⟩
              rw [List.length_map, ← tm, lm]
              by_cases big : 41 < 0
              · rw [decide_eq_true (show (41 : Int) < ((0 : Nat) : Int) by omega)]
                refine iteT ?_
                exact fin _ _ s9 (.inl ⟨by omega, rfl⟩)
              · rw [decide_eq_false (show ¬ (41 : Int) < ((0 : Nat) : Int) by omega)]
                refine iteF ?_
                exact ⟨_, rfl, l, _, rfl, .inl ⟨.inl (.inl hl9), fun r nr => fin _ _ (s9.trans (same_upd nr)) (.inr ⟨by omega, r, rfl, .inl (by rw [upd_same, tm])⟩)⟩⟩
            | succ i =>
              have hi : i < ns.length := hj
              have ts : (ns.take (i + 1)).map V.int = (ns.take i).map V.int ++ [V.int ns[i]] := by
                rw [List.take_add_one, List.getElem?_eq_getElem hi, List.map_append]
                rfl
              have ne : (!((ns.take (i + 1)).map V.int).isEmpty) = true := by
                rw [ts]
                simp
              rw [ne]
              refine iteT ?_
              have hl10 := hl9
              rw [ts] at hl10
              refine ⟨_, rfl, _, rfl, l, _, _, _, rfl, rfl, .inl (.inl hl10), at_last _ _, rfl, decide (ns[i] = 0), eqI _ 0, ?_⟩
              by_cases hz : ns[i] = 0
              · rw [decide_eq_true hz]
                refine iteT ?_
                have gz : ns[i]? = some 0 := by rw [List.getElem?_eq_getElem hi, hz]
                refine ⟨fun σ' H' => i ≤ ns.length ∧ lastN ns i = lastN ns ns.length ∧ Same H1 H' ∧ H' l = some (.lst ((ns.take i).map V.int)) ∧ σ' = [some (.ref a), some (.ref l), none], fun σ' H' h => ⟨i, by omega, h⟩, ?_⟩
                refine ⟨_, rfl, .inl ⟨rfl, _, .inl (.inl hl10)⟩, l, _, _, rfl, rfl, hl10, last_get _ _, Nat.le_of_lt hi, by rw [← hlast, last_go gz], same_at s9 nl1, ?_, rfl⟩
                rw [upd_same, List.dropLast_concat]
              · rw [decide_eq_false hz]
                refine iteF ?_
                have z0 : ns[i]? ≠ some 0 := fun z => by
                  rw [List.getElem?_eq_getElem hi] at z
                  exact hz (Option.some.inj z)
                have tm : trimN ns = ns.take (i + 1) := by
                  unfold trimN
                  rw [← hlast, last_stay z0]
                have lm : (trimN ns).length = (i + 1) := by
                  rw [tm, List.length_take, Nat.min_eq_left hj]
                refine ⟨_, rfl, l, _, rfl, .inl (.inl (.inl hl9)), _, _, rfl, rfl, _, rfl, ?_⟩
                rw [List.length_map, ← tm, lm]
                by_cases big : 41 < (i + 1)
                · rw [decide_eq_true (show (41 : Int) < (((i + 1) : Nat) : Int) by omega)]
                  refine iteT ?_
                  exact fin _ _ s9 (.inl ⟨by omega, rfl⟩)
                · rw [decide_eq_false (show ¬ (41 : Int) < (((i + 1) : Nat) : Int) by omega)]
                  refine iteF ?_
                  exact ⟨_, rfl, l, _, rfl, .inl ⟨.inl (.inl hl9), fun r nr => fin _ _ (s9.trans (same_upd nr)) (.inr ⟨by omega, r, rfl, .inl (by rw [upd_same, tm])⟩)⟩⟩
        | _ => cases e
    · refine ⟨y, t, _, _, _, false, rfl, upd_same, .cons (.ty "list") (.cons (.ty "tuple") .nil), keep _ st, hk, _, rfl, ?_⟩
      refine iteT ?_
      exact q _ st
end
end My

namespace My
open PySem PySem.Spec PyProof.Rows L2
abbrev s_law_some_factors : Stmt := topS 27
theorem sc_law_some_factors : FnScope ["pot", "many", "most", "found", "turn"] ["pot", "many", "most"] (defScope s_law_some_factors) := ⟨rfl, rfl, rfl, by decide +kernel, rfl, by decide +kernel, by decide +kernel⟩
structure TxtM (mg : Str → Option Value) : Prop where
  n_range : mg "range" = none
/-- a list of drawn factors -/
structure spSome (vs : List V) (H : Hp) (Q : VK) (E : XK) : Prop where
  ex : ∃ (p c : Addr) (many : Nat) (most : Int), vs = [.ref p, .int (many : Nat), .int most] ∧ Pot H p c ∧ many ≤ 100 ∧ 2 ≤ most ∧ most ≤ 1000000000 ∧ ∀ (l : Addr) (ns : List Int) (H' : Hp), H l = none → Pot H' p c → But p H H' → H' l = some (.lst (ns.map V.int)) → ns.length ≤ many → (∀ n ∈ ns, 0 ≤ n ∧ n ≤ most) → Q (.ref l) H'
section
variable {P : Program} {w : World} {K : PySem.W.Frag} {mg : Str → Option Value} {base : Heap}
theorem ok_some_factors {f fb fp : Addr} {fd fdb fdp : FuncData} {k : Nat} (F : Fun K "_law_some_factors" "_law_some_factors" s_law_some_factors f fd) (T : TxtM mg) (F__law_below : Fun K "_law_below" "_law_below" s_law_below fb fdb) (b__law_below : Binds K fdb ["pot", "bound"] []) (g__law_below : mg "_law_below" = some (.ref fb))
    (G__law_below : FnOk P w K mg base CX0 2 fb fdb ["pot", "bound"] spBelow) (F__law_pick : Fun K "_law_pick" "_law_pick" s_law_pick fp fdp) (b__law_pick : Binds K fdp ["pot", "items"] []) (g__law_pick : mg "_law_pick" = some (.ref fp))
    (G__law_pick : FnOk P w K mg base CX0 3 fp fdp ["pot", "items"] (spPick K)) : FnOk P w K mg base CX0 (k + 4) f fd ["pot", "many", "most"] spSome := by
  refine F.ok sc_law_some_factors (fun vs H Q E h => ?_) (fun cdv A outer s H vs Q E hr h => ?_)
  · obtain ⟨p, c, many, most, rfl, _⟩ := h
    rfl
  · obtain ⟨p, c, many, most, rfl, hP, m100, mo2, mo9, q⟩ := h
    refine ⟨_, (pss_cons (ps_set (i := 3) sc_law_some_factors.nd rfl (.inl rfl) (pe_lst pa_nil))
  (pss_cons (ps_for PassesOwn.never rfl (pi_range1 (by rfl) T.n_range (pa_cons (pe_call G__law_below (hr.mono (by omega)) (by rfl) g__law_below F__law_below.kp b__law_below .nil pass0 (pa_cons (pv 0) (pa_cons (pe_op op_add (pv 1) pe_int) pa_nil))) pa_nil)) (pg_name (i := 4) sc_law_some_factors.nd rfl (.inl rfl))
   (pss_one (ps_expr (pe_bm PySem.F.plainAttrs_list PySem.F.slot_list_append PySem.F.type_list_append mt_append (pv 3) (pa_cons (pe_call G__law_pick (hr.mono (by omega)) (by rfl) g__law_pick F__law_pick.kp b__law_pick .nil pass0 (pa_cons (pv 0) (pa_cons (pe_lst (pa_cons pe_int (pa_cons pe_int (pa_cons pe_int (pa_cons pe_int (pa_cons pe_int (pa_cons (pe_call G__law_below (hr.mono (by omega)) (by rfl) g__law_below F__law_below.kp b__law_below .nil pass0 (pa_cons (pv 0) (pa_cons (pe_op op_add (pv 2) pe_int) pa_nil))) pa_nil))))))) pa_nil))) pa_nil)))))
  (pss_one (ps_ret (pv 3))))), ?_⟩
    clear G__law_below G__law_pick
    refine ⟨by show 0 ≤ sizeLine; decide, fun l nl => ?_⟩
    have s1 := same_upd (o := .lst []) nl
    have hl1 : (upd H l (.lst [])) l = some (.lst []) := upd_same
    have hP1 := hP.same s1
    obtain ⟨ns0, p0, am0, sz0, hp0, hc0, hl0⟩ := id hP
    have npl : p ≠ l := ne_of_none hp0 nl
    have ncl : c ≠ l := ne_of_none hc0 nl
    have b1 : But p H (upd H l (.lst [])) := But.of (s1 _ _ hp0) s1
    generalize upd H l (.lst []) = H1 at s1 hl1 hP1 b1 ⊢
    refine ⟨_, rfl, _, rfl, _, _, rfl, rfl, p, c, _, rfl, hP1, by omega, by omega, fun v H2 v0 v1 hP2 b2 => ?_⟩
    obtain ⟨n, rfl⟩ : ∃ n : Nat, v = (n : Int) := ⟨v.toNat, by omega⟩
    have hn : n ≤ many := by omega
    refine ⟨_, rfl, by omega, by omega, ?_⟩
    refine for_range (n := n) (fun j σ H3 => Pot H3 p c ∧ But p H H3 ∧ (∃ ns : List Int, H3 l = some (.lst (ns.map V.int)) ∧ ns.length ≤ j ∧ ∀ z ∈ ns, 0 ≤ z ∧ z ≤ most) ∧ ∃ w4, σ = [some (.ref p), some (.int (many : Nat)), some (.int most), some (.ref l), w4])
      ⟨hP2, b1.trans b2, ⟨[], b2.1 _ _ hl1 (Ne.symm npl), Nat.le_refl _, fun _ z => nomatch z⟩, none, rfl⟩ ?_ ?_
    · rintro j σ H3 hj ⟨hP3, b3, ⟨ns, hl3, ln, hns⟩, w4, rfl⟩
      refine ⟨_, rfl, .inl ⟨rfl, _, .inl (.inl hl3)⟩, _, rfl, _, rfl, _, rfl, _, _, rfl, rfl, p, c, _, rfl, hP3, by omega, by omega, fun y H4 y0 y1 hP4 b4 => ?_⟩
      have hl4 := b4.1 _ _ hl3 (Ne.symm npl)
      refine ⟨by show 6 ≤ sizeLine; decide, fun L nL => ?_⟩
      have sL := same_upd (o := .lst [.int 0, .int 0, .int 1, .int 1, .int 2, .int y]) nL
      have hL : (upd H4 L (.lst [.int 0, .int 0, .int 1, .int 1, .int 2, .int y])) L = some (.lst [.int 0, .int 0, .int 1, .int 1, .int 2, .int y]) := upd_same
      have hP5 := hP4.same sL
      have b5 : But p H (upd H4 L (.lst [.int 0, .int 0, .int 1, .int 1, .int 2, .int y])) := (b3.trans b4).same sL
      have hl5 := sL _ _ hl4
      have npL : p ≠ L := by
        obtain ⟨ns4, p4, am4, sz4, hp4, _, _⟩ := id hP4
        exact ne_of_none hp4 nL
      generalize upd H4 L (.lst [.int 0, .int 0, .int 1, .int 1, .int 2, .int y]) = H5 at sL hL hP5 b5 hl5 ⊢
      refine ⟨p, c, L, _, rfl, hP5, .inl (.inl hL), (fun z => nomatch z), by show 6 < 1073741824; decide, fun H' hb => .inl (.inl (hb.1 _ _ hL (Ne.symm npL))), fun x H6 hx hP6 b6 => ?_⟩
      have hl6 := b6.1 _ _ hl5 (Ne.symm npl)
      have b7 := b5.trans b6
      obtain ⟨xi, rfl, x0, x1⟩ : ∃ xi : Int, x = .int xi ∧ 0 ≤ xi ∧ xi ≤ most := by
        simp only [List.mem_cons, List.not_mem_nil, or_false] at hx
        rcases hx with rfl | rfl | rfl | rfl | rfl | rfl <;> exact ⟨_, rfl, by omega, by omega⟩
      have npl6 : p ≠ l ∧ c ≠ l := ⟨npl, ncl⟩
      refine ⟨l, _, _, rfl, rfl, hl6, ?_, ?_, ?_, ⟨ns ++ [xi], ?_, ?_, ?_⟩, _, rfl⟩
      · rw [List.length_map]
        exact small1000 (by omega)
      · obtain ⟨ns6, p6, am6, sz6, hp6, hc6, hl7⟩ := hP6
        exact ⟨ns6, p6, am6, sz6, by rw [upd_ne npl]; exact hp6, by rw [upd_ne ncl]; exact hc6, hl7⟩
      · refine ⟨fun b o e nb => ?_, ?_⟩
        · rw [upd_ne (ne_of_none e nl)]
          exact b7.1 b o e nb
        · rw [upd_ne npl]
          exact b7.2
      · rw [upd_same, List.map_append]
        rfl
      · rw [List.length_append, List.length_singleton]
        omega
      · intro z hz
        rcases List.mem_append.mp hz with hz | hz
        · exact hns z hz
        · rw [List.mem_singleton.mp hz]
          exact ⟨x0, x1⟩
    · rintro σ H3 ⟨hP3, b3, ⟨ns, hl3, ln, hns⟩, w4, rfl⟩
      exact ⟨_, rfl, q l ns H3 nl hP3 b3 hl3 (by omega) hns⟩
end
end My

namespace My
open PySem PySem.Spec PyProof.Rows L2
/-! ### what is shown in the law -/
/-- a thing of the law: small, its repr can be read -/
structure FineD (H : Hp) (x : V) (d : PyData) : Prop where
  da : Da H x d
  sm : smB d = true
  few : nodes d ≤ 300
  deep : d.depth ≤ 10
  rd : noL d = true ∨ d.hasDict = false ∨ ∃ a ys ds, x = .ref a ∧ a ≠ sysModules ∧ H a = some (.lst ys) ∧ DaAll H ys ds ∧ noLs ds = true ∧ d = .list ds
theorem FineD.same {H H' : Hp} {x : V} {d : PyData} (h : FineD H x d) (s : Same H H') : FineD H' x d := by
  refine ⟨h.da.same s, h.sm, h.few, h.deep, ?_⟩
  rcases h.rd with e | e | ⟨a, ys, ds, e1, e2, e3, e4, e5, e6⟩
  · exact .inl e
  · exact .inr (.inl e)
  · exact .inr (.inr ⟨a, ys, ds, e1, e2, s _ _ e3, e4.same s, e5, e6⟩)
theorem FineD.rp {H : Hp} {x : V} {d : PyData} {Q : VK} (h : FineD H x d) (q : Q (.str d.shown) H) : rReprE [x] H Q := by
  obtain ⟨a, b⟩ := sm_show d h.sm
  have few := h.few
  have fits : d.shown.length ≤ sizeLine := by
    rw [sizeLine_eq]
    omega
  have deep : d.depth ≤ 60 := Nat.le_trans h.deep (by decide)
  rcases h.rd with e | e | ⟨a', ys, ds, rfl, e2, e3, e4, e5, rfl⟩
  · exact .inl ⟨x, d, rfl, h.da, a, fun _ => e, deep, fits, q⟩
  · refine .inl ⟨x, d, rfl, h.da, a, fun z => ?_, deep, fits, q⟩
    rw [e] at z
    cases z
  · exact .inr ⟨a', ys, ds, rfl, e2, e3, e4, e5, a, deep, fits, q⟩
/-- the answer that the document asks, as data -/
def dueD (d : PyData) : PyData := if okF d = true then (if 41 < (trimN (intsD d)).length then .int 40 else .tuple ((trimN (intsD d)).map PyData.int)) else .str "none"
theorem da_ints {H : Hp} : ∀ ns : List Int, DaAll H (ns.map V.int) (ns.map PyData.int)
  | [] => .nil
  | n :: r => .cons (.int n) (da_ints r)
theorem DueV.da {H : Hp} {d : PyData} {v : V} (h : DueV H d v) : Da H v (dueD d) := by
  unfold dueD
  rcases h with ⟨e, rfl⟩ | ⟨e, big, rfl⟩ | ⟨e, le, r, rfl, er⟩
  · rw [if_neg (by rw [e]; exact Bool.false_ne_true)]
    exact .str _
  · rw [if_pos e, if_pos big]
    exact .int _
  · rw [if_pos e, if_neg (by omega)]
    exact .tup er (da_ints _)
theorem sm_ints {ns : List Int} (h : ∀ n ∈ ns, n.natAbs < 10 ^ 50) : smL (ns.map PyData.int) = true := by
  rw [smL_all, List.all_map, List.all_eq_true]
  intro n hn
  simp only [Function.comp, smB, decide_eq_true_eq]
  exact h n hn
theorem nodes_ints : ∀ ns : List Int, nodesL (ns.map PyData.int) = ns.length
  | [] => rfl
  | n :: r => by
    simp only [List.map_cons, nodesL, nodes, nodes_ints r, List.length_cons]
    omega
theorem noL_ints : ∀ ns : List Int, noLs (ns.map PyData.int) = true
  | [] => rfl
  | n :: r => by simp only [List.map_cons, noLs, noL, noL_ints r, Bool.and_self]
theorem depth_ints : ∀ ns : List Int, PyData.depthAll (ns.map PyData.int) ≤ 1
  | [] => by simp [PyData.depthAll]
  | n :: r => by
    have h := depth_ints r
    simp only [List.map_cons, PyData.depthAll, PyData.depth]
    omega
/-- an odd thing: flat, or of one thing -/
structure OddP (d : PyData) : Prop where
  sm : smB d = true
  few : nodes d ≤ 3
  deep : d.depth ≤ 3
  alt : noL d = true ∨ d.hasDict = false
def OddAt (p : Addr) (H : Hp) (x : V) (d : PyData) : Prop := (∀ H', Da H' x d) ∨ ∃ t, x = .ref t ∧ t ≠ p ∧ ((H t = some (.tup [.int 1]) ∧ d = .tuple [.int 1]) ∨ (H t = some (.lst [.int 2]) ∧ d = .list [.int 2]) ∨ (H t = some (.dK []) ∧ d = .dict []))
theorem OddAt.da {p : Addr} {H : Hp} {x : V} {d : PyData} (h : OddAt p H x d) : Da H x d := by
  rcases h with h | ⟨t, rfl, _, ⟨e, rfl⟩ | ⟨e, rfl⟩ | ⟨e, rfl⟩⟩
  · exact h H
  · exact .tup (.inl e) (.cons (.int 1) .nil)
  · exact .lst e (.cons (.int 2) .nil)
  · exact .dct e
theorem OddAt.kept {p : Addr} {H H' : Hp} {x : V} {d : PyData} (h : OddAt p H x d) (k : ∀ b o, H b = some o → b ≠ p → H' b = some o) : OddAt p H' x d := by
  rcases h with h | ⟨t, e0, n, ⟨e, e1⟩ | ⟨e, e1⟩ | ⟨e, e1⟩⟩
  · exact .inl h
  · exact .inr ⟨t, e0, n, .inl ⟨k _ _ e n, e1⟩⟩
  · exact .inr ⟨t, e0, n, .inr (.inl ⟨k _ _ e n, e1⟩)⟩
  · exact .inr ⟨t, e0, n, .inr (.inr ⟨k _ _ e n, e1⟩)⟩
/-- ints and the odd thing -/
def Good (o : PyData) (ds : List PyData) : Prop := ∀ d ∈ ds, (∃ n : Int, d = .int n ∧ n.natAbs < 10 ^ 50) ∨ d = o
theorem Good.app {o : PyData} {a b : List PyData} (h : Good o a) (k : Good o b) : Good o (a ++ b) := fun d m => (List.mem_append.mp m).elim (h d) (k d)
theorem Good.rev {o : PyData} {a : List PyData} (h : Good o a) : Good o a.reverse := fun d m => h d (List.mem_reverse.mp m)
theorem Good.odd {o : PyData} : Good o [o] := fun d m => .inr (List.mem_singleton.mp m)
theorem Good.ints {o : PyData} {ns : List Int} (h : ∀ n ∈ ns, n.natAbs < 10 ^ 50) : Good o (ns.map PyData.int) := fun d m => by
  obtain ⟨n, hn, rfl⟩ := List.mem_map.mp m
  exact .inl ⟨n, rfl, h n hn⟩
theorem Good.item {o d : PyData} (h : (∃ n : Int, d = .int n ∧ n.natAbs < 10 ^ 50) ∨ d = o) (P : OddP o) : smB d = true ∧ nodes d ≤ 3 ∧ d.depth ≤ 3 ∧ (noL o = true → noL d = true) ∧ (o.hasDict = false → d.hasDict = false) := by
  rcases h with ⟨n, rfl, hn⟩ | rfl
  · exact ⟨by simpa only [smB, decide_eq_true_eq] using hn, by simp [nodes], by simp [PyData.depth], fun _ => by simp [noL], fun _ => by simp [PyData.hasDict]⟩
  · exact ⟨P.sm, P.few, P.deep, fun e => e, fun e => e⟩
theorem Good.all {o : PyData} (P : OddP o) : ∀ {ds : List PyData}, Good o ds → smL ds = true ∧ nodesL ds ≤ 3 * ds.length ∧ PyData.depthAll ds ≤ 3 ∧ (noL o = true → noLs ds = true) ∧ (o.hasDict = false → PyData.hasDictAll ds = false)
  | [], _ => ⟨by simp [smL], by simp [nodesL], by simp [PyData.depthAll], fun _ => by simp [noLs], fun _ => by simp [PyData.hasDictAll]⟩
  | d :: r, h => by
    obtain ⟨a1, a2, a3, a4, a5⟩ := Good.item (h d List.mem_cons_self) P
    obtain ⟨b1, b2, b3, b4, b5⟩ := Good.all P (ds := r) fun z m => h z (List.mem_cons_of_mem _ m)
    refine ⟨by simp only [smL, a1, b1, Bool.and_self], ?_, ?_, fun e => by simp only [noLs, a4 e, b4 e, Bool.and_self], fun e => by simp only [PyData.hasDictAll, a5 e, b5 e, Bool.or_self]⟩
    · simp only [nodesL, List.length_cons]
      omega
    · simp only [PyData.depthAll]
      omega
theorem fine_list {H : Hp} {a : Addr} {ys : List V} {ds : List PyData} {o : PyData} (far : a ≠ sysModules) (e : H a = some (.lst ys)) (hall : DaAll H ys ds) (P : OddP o) (g : Good o ds) (l : ds.length ≤ 90) : FineD H (.ref a) (.list ds) := by
  obtain ⟨a1, a2, a3, a4, a5⟩ := g.all P
  refine ⟨.lst e hall, by simpa only [smB] using a1, by simp only [nodes]; omega, by simp only [PyData.depth]; omega, ?_⟩
  rcases P.alt with z | z
  · exact .inr (.inr ⟨a, ys, ds, rfl, far, e, hall, a4 z, rfl⟩)
  · exact .inr (.inl (by simpa only [PyData.hasDict] using a5 z))
theorem fine_tuple {H : Hp} {a : Addr} {ys : List V} {ds : List PyData} {o : PyData} (e : Rd H a (.tup ys)) (hall : DaAll H ys ds) (P : OddP o) (g : Good o ds) (l : ds.length ≤ 90) : FineD H (.ref a) (.tuple ds) := by
  obtain ⟨a1, a2, a3, a4, a5⟩ := g.all P
  refine ⟨.tup e hall, by simpa only [smB] using a1, by simp only [nodes]; omega, by simp only [PyData.depth]; omega, ?_⟩
  rcases P.alt with z | z
  · exact .inl (by simpa only [noL] using a4 z)
  · exact .inr (.inl (by simpa only [PyData.hasDict] using a5 z))
theorem odd_int : OddP (.int 0) := ⟨by decide +kernel, by decide +kernel, by decide +kernel, .inl rfl⟩
theorem fine_ints {H : Hp} {a : Addr} {ns : List Int} (e : H a = some (.lst (ns.map V.int))) (h : ∀ n ∈ ns, n.natAbs < 10 ^ 50) (l : ns.length ≤ 90) : FineD H (.ref a) (.list (ns.map PyData.int)) := by
  obtain ⟨a1, a2, a3, a4, a5⟩ := (Good.ints (o := .int 0) h).all odd_int
  rw [List.length_map] at a2
  exact ⟨.lst e (da_ints ns), by simpa only [smB] using a1, by simp only [nodes]; omega, by simp only [PyData.depth]; omega, .inr (.inl (by simpa only [PyData.hasDict] using a5 (by simp [PyData.hasDict])))⟩
theorem ints_sm {d : PyData} (h : smB d = true) : ∀ n ∈ intsD d, n.natAbs < 10 ^ 50 := by
  intro n hn
  unfold intsD at hn
  obtain ⟨e, he, hf⟩ := List.mem_filterMap.mp hn
  have all : smL (itemsD d) = true := by
    cases d <;> first | (rw [smB] at h; exact h) | (show smL [] = true; simp [smL])
  rw [smL_all, List.all_eq_true] at all
  have z := all e he
  cases e <;> simp only [reduceCtorEq, Option.some.injEq] at hf
  subst hf
  simpa only [smB, decide_eq_true_eq] using z
theorem due_fine {H : Hp} {d : PyData} {v : V} (h : DueV H d v) (sm : smB d = true) : FineD H v (dueD d) := by
  have da := h.da
  rcases h with ⟨e, rfl⟩ | ⟨e, big, rfl⟩ | ⟨e, le, r, rfl, er⟩
  · have z : dueD d = .str "none" := by unfold dueD; rw [if_neg (by rw [e]; exact Bool.false_ne_true)]
    rw [z] at da ⊢
    exact ⟨da, by decide +kernel, by simp [nodes], by simp [PyData.depth], .inl rfl⟩
  · have z : dueD d = .int 40 := by unfold dueD; rw [if_pos e, if_pos big]
    rw [z] at da ⊢
    exact ⟨da, by decide +kernel, by simp [nodes], by simp [PyData.depth], .inl rfl⟩
  · have z : dueD d = .tuple ((trimN (intsD d)).map PyData.int) := by unfold dueD; rw [if_pos e, if_neg (by omega)]
    rw [z] at da ⊢
    have b : ∀ n ∈ trimN (intsD d), n.natAbs < 10 ^ 50 := fun n hn => ints_sm sm n (List.mem_of_mem_take hn)
    refine ⟨da, ?_, ?_, ?_, .inl ?_⟩
    · rw [smB]
      exact sm_ints b
    · simp only [nodes, nodes_ints]
      omega
    · have y := depth_ints (trimN (intsD d))
      simp only [PyData.depth]
      omega
    · rw [noL]
      exact noL_ints _
end My

namespace My
open PySem PySem.Spec PyProof.Rows L2
/-- a thing of the law: shown, or a dict -/
def FineT (H : Hp) (x : V) : Prop := (∃ d, FineD H x d ∧ (itemsD d).length ≤ 300) ∨ ∃ q kvs, x = .ref q ∧ H q = some (.dK kvs)
theorem FineT.same {H H' : Hp} {x : V} (h : FineT H x) (s : Same H H') : FineT H' x := by
  rcases h with ⟨d, a, b⟩ | ⟨q, kvs, e, h⟩
  · exact .inl ⟨d, a.same s, b⟩
  · exact .inr ⟨q, kvs, e, s _ _ h⟩
theorem fine_flat {H : Hp} {x : V} {d : PyData} (da : Da H x d) (sm : smB d = true) (few : nodes d ≤ 300) (deep : d.depth ≤ 10) (rd : noL d = true ∨ d.hasDict = false) (items : (itemsD d).length ≤ 300) : FineT H x := .inl ⟨d, ⟨da, sm, few, deep, rd.elim .inl fun e => .inr (.inl e)⟩, items⟩
theorem cut_ex (fs : List Int) (lo hi : Option Int) : ∃ A : List Int, cutV (fs.map V.int) lo hi = A.map V.int ∧ A.length ≤ fs.length ∧ ∀ n ∈ A, n ∈ fs := by
  refine ⟨_, cut_map _ _ _, ?_, fun n h => List.mem_of_mem_drop (List.mem_of_mem_take h)⟩
  rw [List.length_take, List.length_drop]
  omega
theorem flat_rep (n : Nat) : (List.replicate n [V.int 0]).flatten = (List.replicate n (0 : Int)).map V.int := by simp
theorem rp_none {H : Hp} {Q : VK} (q : Q (.str (PyData.str "none").shown) H) : rReprE [.str "none"] H Q := FineD.rp (d := .str "none") ⟨.str "none", by decide +kernel, by decide +kernel, by decide +kernel, .inl rfl⟩ q
theorem kit_dict {K : PySem.W.Frag} : PySem.W.kitAny K (.type "dict") [.type "list", .type "tuple"] = some false := kit_seq (.dict [])
def spLaw (K : PySem.W.Frag) : Sp := fun vs H Q _ => ∃ (a : Addr) (ns : List Int), vs = [.ref a] ∧ SqL K H a (ns.map V.int) ∧ ns.length ≤ 63 ∧ ∀ H', Q (.bl true) H'
structure TxtI (mg : Str → Option Value) : Prop where
  n_repr : mg "repr" = none
  n_range : mg "range" = none
  n_len : mg "len" = none
  n_tuple : mg "tuple" = none
abbrev s_law : Stmt := topS 30
theorem sc_law : FnScope ["script", "pot", "thing", "turn", "some", "odd", "at", "spoilt", "size", "long", "late", "before"] ["script"] (defScope s_law) := ⟨rfl, rfl, rfl, by decide +kernel, rfl, by decide +kernel, by decide +kernel⟩
section
variable {P : Program} {w : World} {K : PySem.W.Frag} {mg : Str → Option Value} {base : Heap}
theorem go_nox {k : Nat} {f : Addr} {fd : FuncData} {ps N : List Str} {sp : Sp} {x qual : Str} {st : Stmt} (F : Fun K x qual st f fd) (S : FnScope N ps (defScope st)) (many : ∀ vs H Q E, sp vs H Q E → vs.length = ps.length)
    (hb : ∀ (cdv : Value) (A : Around) (outer : List Env) (s : Shared) (H : Hp) (vs : List V) (Q : VK) (E : XK), Room k (A.deeper (envOfC qual (defScope st) s.heap.objs.size f cdv)) → (A.deeper (envOfC qual (defScope st) s.heap.objs.size f cdv)).guards = some [] →
      sp vs H Q E → ∃ t, PSs (cxOf CX0 P w K mg base N qual (defScope st) f cdv A outer s H E).nox (defBody st) t ∧ t { nx := fun _ H' => Q .non H', rt := Q } (L2.start N vs) H) : FnG P w K mg base CX0 (k + 1) f fd ps sp :=
  go_of F S many fun cdv A outer s H vs Q E hr quiet h => by
    obtain ⟨t, ht, q⟩ := hb cdv A outer s H vs Q E hr quiet h
    exact ⟨t, ht.nox, q⟩
structure Def (P : Program) (w : World) (K : PySem.W.Frag) (mg : Str → Option Value) (base : Heap) (x : Str) (st : Stmt) (ps : List Str) (k : Nat) (sp : Sp) (f : Addr) (fd : FuncData) : Prop where
  F : Fun K x x st f fd
  b : Binds K fd ps []
  g : mg x = some (.ref f)
  G : FnOk P w K mg base CX0 k f fd ps sp
theorem go_law {f f1 f2 f3 f4 f5 f6 : Addr} {fd fd1 fd2 fd3 fd4 fd5 fd6 : FuncData} (F : Fun K "law" "law" s_law f fd) (T : TxtI mg)
    (D1 : Def P w K mg base "_law_pot_of" s_law_pot_of ["script"] 1 (spPotOf K) f1 fd1) (D2 : Def P w K mg base "_law_below" s_law_below ["pot", "bound"] 2 spBelow f2 fd2) (D3 : Def P w K mg base "_law_pick" s_law_pick ["pot", "items"] 3 (spPick K) f3 fd3)
    (D4 : Def P w K mg base "_law_some_factors" s_law_some_factors ["pot", "many", "most"] 4 spSome f4 fd4) (D5 : Def P w K mg base "_law_word" s_law_word ["thing"] 5 (spDue K) f5 fd5) (D6 : Def P w K mg base "_law_due" s_law_due ["thing"] 1 (spDue K) f6 fd6) : FnG P w K mg base CX0 6 f fd ["script"] (spLaw K) := by
  have ⟨F__law_pot_of, b__law_pot_of, g__law_pot_of, G__law_pot_of⟩ := D1
  have ⟨F__law_below, b__law_below, g__law_below, G__law_below⟩ := D2
  have ⟨F__law_pick, b__law_pick, g__law_pick, G__law_pick⟩ := D3
  have ⟨F__law_some_factors, b__law_some_factors, g__law_some_factors, G__law_some_factors⟩ := D4
  have ⟨F__law_word, b__law_word, g__law_word, G__law_word⟩ := D5
  have ⟨F__law_due, b__law_due, g__law_due, G__law_due⟩ := D6
  refine go_nox F sc_law (fun vs H Q E h => ?_) (fun cdv A outer s H vs Q E hr quiet h => ?_)
  · obtain ⟨a, ns, rfl, _⟩ := h
    rfl
  · obtain ⟨a, ns, rfl, hS, hl, q⟩ := h
    refine ⟨_, (pss_cons (ps_set (i := 1) sc_law.nd rfl (.inl rfl) (pe_call G__law_pot_of (hr.mono (by omega)) (by rfl) g__law_pot_of F__law_pot_of.kp b__law_pot_of .nil pass0 (pa_cons (pv 0) pa_nil)))
  (pss_cons (ps_for PassesOwn.never rfl (pi_list (pe_lst (pa_cons pe_non (pa_cons pe_int (pa_cons pe_bl (pa_cons pe_str (pa_cons pe_str (pa_cons pe_dnewK (pa_cons (pe_disp (pps_cons pe_int pe_int pps_nil) (by rfl) (by rfl) (fun z => by cases z) (by decide)) (pa_cons (pe_tup pa_nil) (pa_cons (pe_lst pa_nil) (pa_cons (pe_tup (pa_cons pe_int pa_nil)) (pa_cons (pe_lst (pa_cons pe_int (pa_cons pe_int pa_nil))) (pa_cons (pe_tup (pa_cons (pe_tup (pa_cons pe_int pa_nil)) pa_nil)) (pa_cons (pe_lst (pa_cons (pe_lst (pa_cons pe_int pa_nil)) pa_nil)) (pa_cons (pe_tup (pa_cons pe_str pa_nil)) (pa_cons (pe_tup (pa_cons pe_bl pa_nil)) (pa_cons (pe_tup (pa_cons pe_non pa_nil)) pa_nil)))))))))))))))))) (pg_name (i := 2) sc_law.nd rfl (.inl rfl))
   (pss_one (ps_if (pt_cmpR op_ne (pe_callB (call_reprE quiet hr.units) (by rfl) T.n_repr (by decide +kernel) (pa_cons (pe_call G__law_word (hr.mono (by omega)) (by rfl) g__law_word F__law_word.kp b__law_word .nil pass0 (pa_cons (pv 2) pa_nil)) pa_nil)) (pe_callB (call_reprE quiet hr.units) (by rfl) T.n_repr (by decide +kernel) (pa_cons (pe_call G__law_due (hr.mono (by omega)) (by rfl) g__law_due F__law_due.kp b__law_due .nil pass0 (pa_cons (pv 2) pa_nil)) pa_nil)) (nomark _))
   (pss_one (ps_ret pe_bl))
   pss_nil)))
  (pss_cons (ps_for PassesOwn.never rfl (pi_range1 (by rfl) T.n_range (pa_cons pe_int pa_nil)) (pg_name (i := 3) sc_law.nd rfl (.inl rfl))
   (pss_cons (ps_set (i := 4) sc_law.nd rfl (.inl rfl) (pe_call G__law_some_factors (hr.mono (by omega)) (by rfl) g__law_some_factors F__law_some_factors.kp b__law_some_factors .nil pass0 (pa_cons (pv 1) (pa_cons pe_int (pa_cons (pe_op op_pow pe_int pe_int) pa_nil)))))
  (pss_cons (ps_set (i := 5) sc_law.nd rfl (.inl rfl) (pe_call G__law_pick (hr.mono (by omega)) (by rfl) g__law_pick F__law_pick.kp b__law_pick .nil pass0 (pa_cons (pv 1) (pa_cons (pe_lst (pa_cons (pe_op op_sub pe_int pe_int) (pa_cons pe_non (pa_cons pe_bl (pa_cons pe_bl (pa_cons pe_str (pa_cons (pe_tup (pa_cons pe_int pa_nil)) (pa_cons (pe_lst (pa_cons pe_int pa_nil)) (pa_cons pe_dnewK (pa_cons (pe_op op_sub pe_int (pe_op op_pow pe_int pe_int)) (pa_cons (pe_op op_pow pe_int pe_int) pa_nil))))))))))) pa_nil))))
  (pss_cons (ps_set (i := 6) sc_law.nd rfl (.inl rfl) (pe_call G__law_below (hr.mono (by omega)) (by rfl) g__law_below F__law_below.kp b__law_below .nil pass0 (pa_cons (pv 1) (pa_cons (pe_op op_add (pe_callB call_len_seq (by rfl) T.n_len (by decide +kernel) (pa_cons (pv 4) pa_nil)) pe_int) pa_nil))))
  (pss_cons (ps_set (i := 7) sc_law.nd rfl (.inl rfl) (pe_op op_catN (pe_op op_catN (pe_slice sl_list (pv 4) po_none (po_some (pv 6))) (pe_lst (pa_cons (pv 5) pa_nil))) (pe_slice sl_list (pv 4) (po_some (pv 6)) po_none)))
  (pss_cons (ps_set (i := 8) sc_law.nd rfl (.inl rfl) (pe_call G__law_pick (hr.mono (by omega)) (by rfl) g__law_pick F__law_pick.kp b__law_pick .nil pass0 (pa_cons (pv 1) (pa_cons (pe_lst (pa_cons pe_int (pa_cons pe_int (pa_cons pe_int (pa_cons pe_int pa_nil))))) pa_nil))))
  (pss_cons (ps_par (i := 9) (j := 10) (by rfl) sc_law.nd rfl rfl (by decide) rfl rfl (pa_cons (pe_op op_cat (pe_op op_rep (pe_lst (pa_cons pe_int pa_nil)) (pv 8)) (pe_lst (pa_cons (pe_op op_add pe_int (pe_call G__law_below (hr.mono (by omega)) (by rfl) g__law_below F__law_below.kp b__law_below .nil pass0 (pa_cons (pv 1) (pa_cons pe_int pa_nil)))) pa_nil))) (pa_cons (pe_op op_cat (pv 4) (pe_op op_rep (pe_lst (pa_cons pe_int pa_nil)) (pe_call G__law_pick (hr.mono (by omega)) (by rfl) g__law_pick F__law_pick.kp b__law_pick .nil pass0 (pa_cons (pv 1) (pa_cons (pe_lst (pa_cons pe_int (pa_cons pe_int (pa_cons pe_int (pa_cons pe_int pa_nil))))) pa_nil))))) pa_nil)) (by rfl))
  (pss_one (ps_for PassesOwn.never rfl (pi_list (pe_lst (pa_cons (pv 4) (pa_cons (pv 7) (pa_cons (pe_callTy call_tuple_of (by rfl) T.n_tuple (by decide +kernel) (pa_cons (pv 7) pa_nil)) (pa_cons (pe_revLN (pv 7)) (pa_cons (pv 9) (pa_cons (pe_callTy call_tuple_of (by rfl) T.n_tuple (by decide +kernel) (pa_cons (pv 9) pa_nil)) (pa_cons (pe_op op_catN (pv 9) (pe_lst (pa_cons (pv 5) pa_nil))) (pa_cons (pe_op op_catN (pe_lst (pa_cons (pv 5) pa_nil)) (pv 9)) (pa_cons (pv 10) pa_nil))))))))))) (pg_name (i := 2) sc_law.nd rfl (.inl rfl))
   (pss_cons (ps_set (i := 11) sc_law.nd rfl (.inl rfl) (pe_callB (call_reprE quiet hr.units) (by rfl) T.n_repr (by decide +kernel) (pa_cons (pv 2) pa_nil)))
  (pss_one (ps_if (PW.pt (pw_or (pt_cmpR op_ne (pe_callB (call_reprE quiet hr.units) (by rfl) T.n_repr (by decide +kernel) (pa_cons (pe_call G__law_word (hr.mono (by omega)) (by rfl) g__law_word F__law_word.kp b__law_word .nil pass0 (pa_cons (pv 2) pa_nil)) pa_nil)) (pe_callB (call_reprE quiet hr.units) (by rfl) T.n_repr (by decide +kernel) (pa_cons (pe_call G__law_due (hr.mono (by omega)) (by rfl) g__law_due F__law_due.kp b__law_due .nil pass0 (pa_cons (pv 2) pa_nil)) pa_nil)) (nomark _)) (pw_or1 (pt_cmpR op_ne (pe_callB (call_reprE quiet hr.units) (by rfl) T.n_repr (by decide +kernel) (pa_cons (pv 2) pa_nil)) (pv 11) (nomark _)))))
   (pss_one (ps_ret pe_bl))
   pss_nil))))))))))))
  (pss_one (ps_ret pe_bl))))), ?_⟩
    clear G__law_pot_of G__law_below G__law_pick G__law_some_factors G__law_word G__law_due D1 D2 D3 D4 D5 D6
    refine ⟨_, rfl, a, ns, rfl, hS, hl, fun p c H1 s1 np nc hP1 => ?_⟩
    clear hS s1
    -- the first things
    refine fun d1 n1 => ?_
    have s1 : Same H1 (upd H1 d1 (.dK [])) := same_upd n1
    have e1 : (upd H1 d1 (.dK [])) d1 = some (.dK []) := upd_same
    generalize upd H1 d1 (.dK []) = H2 at s1 e1 ⊢
    refine fun d2 n2 => ?_
    refine ⟨upd_same, [(.inl 0, .int 1)], rfl, by decide, ?_⟩
    have s2 : Same H2 (upd (upd H2 d2 (.dK [])) d2 (.dK (mergeK [] [(.inl 0, .int 1)]))) := fun b o e => by
      rw [upd_ne (ne_of_none e n2), upd_ne (ne_of_none e n2)]
      exact e
    have e2 : (upd (upd H2 d2 (.dK [])) d2 (.dK (mergeK [] [(.inl 0, .int 1)]))) d2 = some (.dK (mergeK [] [(.inl 0, .int 1)])) := upd_same
    generalize upd (upd H2 d2 (.dK [])) d2 (.dK (mergeK [] [(.inl 0, .int 1)])) = H3 at s2 e2 ⊢
    refine ⟨by show 0 ≤ sizeLine; decide, fun t1 nt1 => ?_⟩
    have st1 : Same H3 (upd H3 t1 (.tup [])) := same_upd nt1
    have et1 : (upd H3 t1 (.tup [])) t1 = some (.tup []) := upd_same
    generalize upd H3 t1 (.tup []) = H4 at st1 et1 ⊢
    refine ⟨by show 0 ≤ sizeLine; decide, fun t2 nt2 => ?_⟩
    have st2 : Same H4 (upd H4 t2 (.lst [])) := same_upd nt2
    have et2 : (upd H4 t2 (.lst [])) t2 = some (.lst []) := upd_same
    generalize upd H4 t2 (.lst []) = H5 at st2 et2 ⊢
    refine ⟨by show 1 ≤ sizeLine; decide, fun t3 nt3 => ?_⟩
    have st3 : Same H5 (upd H5 t3 (.tup [.int 0])) := same_upd nt3
    have et3 : (upd H5 t3 (.tup [.int 0])) t3 = some (.tup [.int 0]) := upd_same
    generalize upd H5 t3 (.tup [.int 0]) = H6 at st3 et3 ⊢
    refine ⟨by show 2 ≤ sizeLine; decide, fun t4 nt4 => ?_⟩
    have st4 : Same H6 (upd H6 t4 (.lst [.int 0, .int 0])) := same_upd nt4
    have et4 : (upd H6 t4 (.lst [.int 0, .int 0])) t4 = some (.lst [.int 0, .int 0]) := upd_same
    generalize upd H6 t4 (.lst [.int 0, .int 0]) = H7 at st4 et4 ⊢
    refine ⟨by show 1 ≤ sizeLine; decide, fun t5 nt5 => ?_⟩
    have st5 : Same H7 (upd H7 t5 (.tup [.int 1])) := same_upd nt5
    have et5 : (upd H7 t5 (.tup [.int 1])) t5 = some (.tup [.int 1]) := upd_same
    generalize upd H7 t5 (.tup [.int 1]) = H8 at st5 et5 ⊢
    refine ⟨by show 1 ≤ sizeLine; decide, fun t6 nt6 => ?_⟩
    have st6 : Same H8 (upd H8 t6 (.tup [.ref t5])) := same_upd nt6
    have et6 : (upd H8 t6 (.tup [.ref t5])) t6 = some (.tup [.ref t5]) := upd_same
    generalize upd H8 t6 (.tup [.ref t5]) = H9 at st6 et6 ⊢
    refine ⟨by show 1 ≤ sizeLine; decide, fun t7 nt7 => ?_⟩
    have st7 : Same H9 (upd H9 t7 (.lst [.int 1])) := same_upd nt7
    have et7 : (upd H9 t7 (.lst [.int 1])) t7 = some (.lst [.int 1]) := upd_same
    generalize upd H9 t7 (.lst [.int 1]) = H10 at st7 et7 ⊢
    refine ⟨by show 1 ≤ sizeLine; decide, fun t8 nt8 => ?_⟩
    have st8 : Same H10 (upd H10 t8 (.lst [.ref t7])) := same_upd nt8
    have et8 : (upd H10 t8 (.lst [.ref t7])) t8 = some (.lst [.ref t7]) := upd_same
    generalize upd H10 t8 (.lst [.ref t7]) = H11 at st8 et8 ⊢
    refine ⟨by show 1 ≤ sizeLine; decide, fun t9 nt9 => ?_⟩
    have st9 : Same H11 (upd H11 t9 (.tup [.str "1"])) := same_upd nt9
    have et9 : (upd H11 t9 (.tup [.str "1"])) t9 = some (.tup [.str "1"]) := upd_same
    generalize upd H11 t9 (.tup [.str "1"]) = H12 at st9 et9 ⊢
    refine ⟨by show 1 ≤ sizeLine; decide, fun ta nta => ?_⟩
    have sta : Same H12 (upd H12 ta (.tup [.bl true])) := same_upd nta
    have eta : (upd H12 ta (.tup [.bl true])) ta = some (.tup [.bl true]) := upd_same
    generalize upd H12 ta (.tup [.bl true]) = H13 at sta eta ⊢
    refine ⟨by show 1 ≤ sizeLine; decide, fun tb ntb => ?_⟩
    have stb : Same H13 (upd H13 tb (.tup [.non])) := same_upd ntb
    have etb : (upd H13 tb (.tup [.non])) tb = some (.tup [.non]) := upd_same
    generalize upd H13 tb (.tup [.non]) = H14 at stb etb ⊢
    replace e1 := ((((((((((((s2).trans st1).trans st2).trans st3).trans st4).trans st5).trans st6).trans st7).trans st8).trans st9).trans sta).trans stb) _ _ e1
    replace e2 := (((((((((((st1).trans st2).trans st3).trans st4).trans st5).trans st6).trans st7).trans st8).trans st9).trans sta).trans stb) _ _ e2
    replace et1 := ((((((((((st2).trans st3).trans st4).trans st5).trans st6).trans st7).trans st8).trans st9).trans sta).trans stb) _ _ et1
    replace et2 := (((((((((st3).trans st4).trans st5).trans st6).trans st7).trans st8).trans st9).trans sta).trans stb) _ _ et2
    replace et3 := ((((((((st4).trans st5).trans st6).trans st7).trans st8).trans st9).trans sta).trans stb) _ _ et3
    replace et4 := (((((((st5).trans st6).trans st7).trans st8).trans st9).trans sta).trans stb) _ _ et4
    replace et5 := ((((((st6).trans st7).trans st8).trans st9).trans sta).trans stb) _ _ et5
    replace et6 := (((((st7).trans st8).trans st9).trans sta).trans stb) _ _ et6
    replace et7 := ((((st8).trans st9).trans sta).trans stb) _ _ et7
    replace et8 := (((st9).trans sta).trans stb) _ _ et8
    replace et9 := ((sta).trans stb) _ _ et9
    replace eta := (stb) _ _ eta
    have hP14 : Pot H14 p c := hP1.same (s1.trans ((((((((((((s2).trans st1).trans st2).trans st3).trans st4).trans st5).trans st6).trans st7).trans st8).trans st9).trans sta).trans stb))
    have all : ∀ x ∈ ([.non, .int 0, .bl true, .str "", .str "12", .ref d1, .ref d2, .ref t1, .ref t2, .ref t3, .ref t4, .ref t6, .ref t8, .ref t9, .ref ta, .ref tb] : List V), FineT H14 x := by
      intro x hx
      simp only [List.mem_cons, List.not_mem_nil, or_false] at hx
      rcases hx with rfl | rfl | rfl | rfl | rfl | rfl | rfl | rfl | rfl | rfl | rfl | rfl | rfl | rfl | rfl | rfl
      · exact fine_flat (d := .none) (.non) (by decide +kernel) (by decide +kernel) (by decide +kernel) (by decide +kernel) (by decide +kernel)
      · exact fine_flat (d := .int 0) (.int 0) (by decide +kernel) (by decide +kernel) (by decide +kernel) (by decide +kernel) (by decide +kernel)
      · exact fine_flat (d := .bool true) (.bl true) (by decide +kernel) (by decide +kernel) (by decide +kernel) (by decide +kernel) (by decide +kernel)
      · exact fine_flat (d := .str "") (.str "") (by decide +kernel) (by decide +kernel) (by decide +kernel) (by decide +kernel) (by decide +kernel)
      · exact fine_flat (d := .str "12") (.str "12") (by decide +kernel) (by decide +kernel) (by decide +kernel) (by decide +kernel) (by decide +kernel)
      · exact fine_flat (d := .dict []) (.dct e1) (by decide +kernel) (by decide +kernel) (by decide +kernel) (by decide +kernel) (by decide +kernel)
      · exact .inr ⟨_, _, rfl, e2⟩
      · exact fine_flat (d := .tuple []) (.tup (.inl et1) .nil) (by decide +kernel) (by decide +kernel) (by decide +kernel) (by decide +kernel) (by decide +kernel)
      · exact fine_flat (d := .list []) (.lst et2 .nil) (by decide +kernel) (by decide +kernel) (by decide +kernel) (by decide +kernel) (by decide +kernel)
      · exact fine_flat (d := .tuple [.int 0]) (.tup (.inl et3) (.cons (.int 0) .nil)) (by decide +kernel) (by decide +kernel) (by decide +kernel) (by decide +kernel) (by decide +kernel)
      · exact fine_flat (d := .list [.int 0, .int 0]) (.lst et4 (.cons (.int 0) (.cons (.int 0) .nil))) (by decide +kernel) (by decide +kernel) (by decide +kernel) (by decide +kernel) (by decide +kernel)
      · exact fine_flat (d := .tuple [.tuple [.int 1]]) (.tup (.inl et6) (.cons (.tup (.inl et5) (.cons (.int 1) .nil)) .nil)) (by decide +kernel) (by decide +kernel) (by decide +kernel) (by decide +kernel) (by decide +kernel)
      · exact fine_flat (d := .list [.list [.int 1]]) (.lst et8 (.cons (.lst et7 (.cons (.int 1) .nil)) .nil)) (by decide +kernel) (by decide +kernel) (by decide +kernel) (by decide +kernel) (by decide +kernel)
      · exact fine_flat (d := .tuple [.str "1"]) (.tup (.inl et9) (.cons (.str "1") .nil)) (by decide +kernel) (by decide +kernel) (by decide +kernel) (by decide +kernel) (by decide +kernel)
      · exact fine_flat (d := .tuple [.bool true]) (.tup (.inl eta) (.cons (.bl true) .nil)) (by decide +kernel) (by decide +kernel) (by decide +kernel) (by decide +kernel) (by decide +kernel)
      · exact fine_flat (d := .tuple [.none]) (.tup (.inl etb) (.cons .non .nil)) (by decide +kernel) (by decide +kernel) (by decide +kernel) (by decide +kernel) (by decide +kernel)
    refine ⟨by show 16 ≤ sizeLine; decide, fun L nL => ?_⟩
    have sL : Same H14 (upd H14 L (.lst [.non, .int 0, .bl true, .str "", .str "12", .ref d1, .ref d2, .ref t1, .ref t2, .ref t3, .ref t4, .ref t6, .ref t8, .ref t9, .ref ta, .ref tb])) := same_upd nL
    have eL : (upd H14 L (.lst [.non, .int 0, .bl true, .str "", .str "12", .ref d1, .ref d2, .ref t1, .ref t2, .ref t3, .ref t4, .ref t6, .ref t8, .ref t9, .ref ta, .ref tb])) L = some (.lst [.non, .int 0, .bl true, .str "", .str "12", .ref d1, .ref d2, .ref t1, .ref t2, .ref t3, .ref t4, .ref t6, .ref t8, .ref t9, .ref ta, .ref tb]) := upd_same
    generalize upd H14 L (.lst [.non, .int 0, .bl true, .str "", .str "12", .ref d1, .ref d2, .ref t1, .ref t2, .ref t3, .ref t4, .ref t6, .ref t8, .ref t9, .ref ta, .ref tb]) = H15 at sL eL ⊢
    have hP15 := hP14.same sL
    replace all : ∀ x ∈ ([.non, .int 0, .bl true, .str "", .str "12", .ref d1, .ref d2, .ref t1, .ref t2, .ref t3, .ref t4, .ref t6, .ref t8, .ref t9, .ref ta, .ref tb] : List V), FineT H15 x := fun x hx => (all x hx).same sL
    clear e1 e2 et1 et2 et3 et4 et5 et6 et7 et8 et9 eta etb s1 s2 st1 st2 st3 st4 st5 st6 st7 st8 st9 sta stb sL hP14 hP1 n1 n2 nt1 nt2 nt3 nt4 nt5 nt6 nt7 nt8 nt9 nta ntb
    generalize ([.non, .int 0, .bl true, .str "", .str "12", .ref d1, .ref d2, .ref t1, .ref t2, .ref t3, .ref t4, .ref t6, .ref t8, .ref t9, .ref ta, .ref tb] : List V) = xs at all eL ⊢
    refine ⟨L, rfl, ⟨_, .inl (.inl eL)⟩, for_list (xs := xs) (fun i σ H => Same H15 H ∧ ∃ u2 : Option V, σ = [some (.ref a), some (.ref p), u2, none, none, none, none, none, none, none, none, none]) ⟨same_rfl _, _, rfl⟩ (fun i σ H _ h => .inl (.inl (h.1 _ _ eL))) ?_ ?_⟩
    · rintro i x σ H16 hx ⟨s16, u2, rfl⟩
      have hT := (all x (List.mem_of_getElem? hx)).same s16
      rcases hT with ⟨d, fd9, few⟩ | ⟨q1, kvs, rfl, eq1⟩
      · refine ⟨_, rfl, ⟨x, rfl, .inl ⟨d, fd9.da, by omega, fun v H17 s17 du => (due_fine du fd9.sm).rp ?_⟩⟩⟩
        refine ⟨_, rfl, ⟨x, rfl, .inl ⟨d, (fd9.same s17).da, by omega, fun v2 H18 s18 du2 => (due_fine du2 fd9.sm).rp ?_⟩⟩⟩
        refine ⟨rfl, false, ne_self _, iteF ?_⟩
        exact ⟨(s16.trans s17).trans s18, _, rfl⟩
      · refine ⟨_, rfl, ⟨.ref q1, rfl, .inr ⟨"dict", .base (.dK eq1), fun H' s => .base (.dK (s _ _ eq1)), kit_dict, fun H17 s17 => rp_none ?_⟩⟩⟩
        refine ⟨_, rfl, ⟨.ref q1, rfl, .inr ⟨"dict", .base (.dK (s17 _ _ eq1)), fun H' s => .base (.dK (s _ _ (s17 _ _ eq1))), kit_dict, fun H18 s18 => rp_none ?_⟩⟩⟩
        refine ⟨rfl, false, ne_self _, iteF ?_⟩
        exact ⟨(s16.trans s17).trans s18, _, rfl⟩
    · rintro σ H16 ⟨s16, u2, rfl⟩
      have hP16 := hP15.same s16
      clear all eL hP15 s16
      refine ⟨10, rfl, by decide, by decide, for_range (n := 10) (fun i σ H => Pot H p c ∧ ∃ u2 u3 u4 u5 u6 u7 u8 u9 ua ub : Option V, σ = [some (.ref a), some (.ref p), u2, u3, u4, u5, u6, u7, u8, u9, ua, ub]) ⟨hP16, _, _, _, _, _, _, _, _, _, _, rfl⟩ ?_ ?_⟩
      · rintro i σ H1 hi ⟨hP1, u2, u3, u4, u5, u6, u7, u8, u9, ua, ub, rfl⟩
        -- some
        refine ⟨_, rfl, _, _, rfl, rfl, ⟨by decide, by decide, by decide⟩, ⟨p, c, 12, 1000000000, rfl, hP1, by decide, by decide, by decide, fun l fs H2 nl hP2 b2 hl2 lfs hfs => ?_⟩⟩
        have hPne : ∀ {G : Hp} {y : Addr}, Pot G p c → G y = none → p ≠ y ∧ c ≠ y := fun h n => by
          obtain ⟨ms, q1, q2, q3, hp, hc, _⟩ := h
          exact ⟨ne_of_none hp n, ne_of_none hc n⟩
        obtain ⟨npl, ncl⟩ := hPne hP1 nl
        have hfs50 : ∀ n ∈ fs, n.natAbs < 10 ^ 50 := fun n hn => by
          have z := hfs n hn
          have z2 : n.natAbs ≤ 1000000000 := by omega
          exact Nat.lt_of_le_of_lt z2 (by decide)
        clear nl b2 hfs
        -- odd
        refine ⟨_, rfl, _, _, rfl, rfl, by show 1 ≤ sizeLine; decide, fun t1 m1 => ?_⟩
        obtain ⟨npt1, nct1⟩ := hPne hP2 m1
        have s1 : Same H2 (upd H2 t1 (.tup [.int 1])) := same_upd m1
        have e1 : (upd H2 t1 (.tup [.int 1])) t1 = some (.tup [.int 1]) := upd_same
        generalize upd H2 t1 (.tup [.int 1]) = H3 at s1 e1 ⊢
        refine ⟨by show 1 ≤ sizeLine; decide, fun t2 m2 => ?_⟩
        obtain ⟨npt2, nct2⟩ := hPne (hP2.same s1) m2
        have s2 : Same H3 (upd H3 t2 (.lst [.int 2])) := same_upd m2
        have e2 : (upd H3 t2 (.lst [.int 2])) t2 = some (.lst [.int 2]) := upd_same
        generalize upd H3 t2 (.lst [.int 2]) = H4 at s2 e2 ⊢
        refine fun t3 m3 => ?_
        obtain ⟨npt3, nct3⟩ := hPne ((hP2.same s1).same s2) m3
        have s3 : Same H4 (upd H4 t3 (.dK [])) := same_upd m3
        have e3 : (upd H4 t3 (.dK [])) t3 = some (.dK []) := upd_same
        generalize upd H4 t3 (.dK []) = H5 at s3 e3 ⊢
        refine ⟨_, _, rfl, rfl, ⟨by decide, by decide, by decide⟩, _, _, rfl, rfl, _, _, rfl, rfl, ⟨by decide, by decide, by decide⟩, by show 10 ≤ sizeLine; decide, fun lo mlo => ?_⟩
        have s15 := ((s1.trans s2).trans s3)
        obtain ⟨nplo, nclo⟩ := hPne (hP2.same s15) mlo
        have s4 := same_upd (o := .lst [.int (0 - 1), .non, .bl true, .bl false, .str "1", .ref t1, .ref t2, .ref t3, .int (0 - 10 ^ (49 : Int).toNat), .int (10 ^ (49 : Int).toNat)]) mlo
        have s16 := s15.trans s4
        refine ⟨p, c, lo, _, rfl, hP2.same s16, .inl (.inl upd_same), (fun z => nomatch z), by show 10 < 1073741824; decide, fun H' hb => .inl (.inl (hb.1 _ _ upd_same (Ne.symm nplo))), fun x H7 hx hP7 b7 => ?_⟩
        have hl7 := b7.1 _ _ (s16 _ _ hl2) (Ne.symm npl)
        have f1 := b7.1 _ _ (s4 _ _ (s3 _ _ (s2 _ _ e1))) (Ne.symm npt1)
        have f2 := b7.1 _ _ (s4 _ _ (s3 _ _ e2)) (Ne.symm npt2)
        have f3 := b7.1 _ _ (s4 _ _ e3) (Ne.symm npt3)
        obtain ⟨dO, hO, hOP⟩ : ∃ dO, OddAt p H7 x dO ∧ OddP dO := by
          have P : ∀ {d : PyData}, smB d = true → nodes d ≤ 3 → d.depth ≤ 3 → (noL d = true ∨ d.hasDict = false) → OddP d := fun a b c d => ⟨a, b, c, d⟩
          simp only [List.mem_cons, List.not_mem_nil, or_false] at hx
          rcases hx with rfl | rfl | rfl | rfl | rfl | rfl | rfl | rfl | rfl | rfl
          · exact ⟨.int _, .inl fun H' => .int _, P (by decide +kernel) (by decide +kernel) (by decide +kernel) (by decide +kernel)⟩
          · exact ⟨.none, .inl fun H' => .non, P (by decide +kernel) (by decide +kernel) (by decide +kernel) (by decide +kernel)⟩
          · exact ⟨.bool true, .inl fun H' => .bl _, P (by decide +kernel) (by decide +kernel) (by decide +kernel) (by decide +kernel)⟩
          · exact ⟨.bool false, .inl fun H' => .bl _, P (by decide +kernel) (by decide +kernel) (by decide +kernel) (by decide +kernel)⟩
          · exact ⟨.str "1", .inl fun H' => .str _, P (by decide +kernel) (by decide +kernel) (by decide +kernel) (by decide +kernel)⟩
          · exact ⟨.tuple [.int 1], .inr ⟨t1, rfl, Ne.symm npt1, .inl ⟨f1, rfl⟩⟩, P (by decide +kernel) (by decide +kernel) (by decide +kernel) (by decide +kernel)⟩
          · exact ⟨.list [.int 2], .inr ⟨t2, rfl, Ne.symm npt2, .inr (.inl ⟨f2, rfl⟩)⟩, P (by decide +kernel) (by decide +kernel) (by decide +kernel) (by decide +kernel)⟩
          · exact ⟨.dict [], .inr ⟨t3, rfl, Ne.symm npt3, .inr (.inr ⟨f3, rfl⟩)⟩, P (by decide +kernel) (by decide +kernel) (by decide +kernel) (by decide +kernel)⟩
          · exact ⟨.int _, .inl fun H' => .int _, P (by decide +kernel) (by decide +kernel) (by decide +kernel) (by decide +kernel)⟩
          · exact ⟨.int _, .inl fun H' => .int _, P (by decide +kernel) (by decide +kernel) (by decide +kernel) (by decide +kernel)⟩
        clear f1 f2 f3 e1 e2 e3 b7 hx hl2 hP2 hP1 s1 s2 s3 s15 s16
        -- at
        refine ⟨_, rfl, _, rfl, l, _, rfl, .inl (.inl (.inl hl7)), _, _, rfl, rfl, p, c, _, rfl, hP7, by omega, by rw [List.length_map]; omega, fun v H8 v0 v1 hP8 b8 => ?_⟩
        have hl8 := b8.1 _ _ hl7 (Ne.symm npl)
        have hO8 := hO.kept b8.1
        obtain ⟨A, hA, lA, mA⟩ := cut_ex fs none (some v)
        obtain ⟨B, hB, lB, mB⟩ := cut_ex fs (some v) none
        -- spoilt
        refine ⟨_, rfl, _, rfl, _, rfl, l, _, rfl, .inl (.inl hl8), fun q1 m1 => ?_⟩
        rw [hA]
        have s1 : Same H8 (upd H8 q1 (.lst (A.map V.int))) := same_upd m1
        have e1 : (upd H8 q1 (.lst (A.map V.int))) q1 = some (.lst (A.map V.int)) := upd_same
        generalize upd H8 q1 (.lst (A.map V.int)) = H9 at s1 e1 ⊢
        refine ⟨_, rfl, by show 1 ≤ sizeLine; decide, fun q2 m2 => ?_⟩
        have s2 : Same H9 (upd H9 q2 (.lst [x])) := same_upd m2
        have e2 : (upd H9 q2 (.lst [x])) q2 = some (.lst [x]) := upd_same
        generalize upd H9 q2 (.lst [x]) = H10 at s2 e2 ⊢
        refine ⟨q1, q2, _, _, rfl, rfl, s2 _ _ e1, e2, ?_, fun q3 m3 _ => ?_⟩
        · rw [List.length_map]
          exact Nat.le_of_lt (small1000 (by show A.length + 1 ≤ 1000; omega))
        have s3 : Same H10 (upd H10 q3 (.lst (A.map V.int ++ [x]))) := same_upd m3
        have e3 : (upd H10 q3 (.lst (A.map V.int ++ [x]))) q3 = some (.lst (A.map V.int ++ [x])) := upd_same
        generalize upd H10 q3 (.lst (A.map V.int ++ [x])) = H11 at s3 e3 ⊢
        refine ⟨_, rfl, _, rfl, _, rfl, l, _, rfl, .inl (.inl (s3 _ _ (s2 _ _ (s1 _ _ hl8)))), fun q4 m4 => ?_⟩
        rw [hB]
        have s4 : Same H11 (upd H11 q4 (.lst (B.map V.int))) := same_upd m4
        have e4 : (upd H11 q4 (.lst (B.map V.int))) q4 = some (.lst (B.map V.int)) := upd_same
        generalize upd H11 q4 (.lst (B.map V.int)) = H12 at s4 e4 ⊢
        have s812 := ((s1.trans s2).trans s3).trans s4
        refine ⟨q3, q4, _, _, rfl, rfl, s4 _ _ e3, e4, ?_, fun sp msp far1 => ?_⟩
        · rw [List.length_append, List.length_map, List.length_map]
          exact Nat.le_of_lt (small1000 (by show A.length + 1 + B.length ≤ 1000; omega))
        have hPc := hP8.same s812
        obtain ⟨npsp, ncsp⟩ := hPne hPc msp
        have s5 : Same H12 (upd H12 sp (.lst (A.map V.int ++ [x] ++ B.map V.int))) := same_upd msp
        have e5 : (upd H12 sp (.lst (A.map V.int ++ [x] ++ B.map V.int))) sp = some (.lst (A.map V.int ++ [x] ++ B.map V.int)) := upd_same
        generalize upd H12 sp (.lst (A.map V.int ++ [x] ++ B.map V.int)) = H13 at s5 e5 ⊢
        have s813 := s812.trans s5
        have hP13 := hP8.same s813
        have hl13 := s813 _ _ hl8
        have hO13 := hO8.kept fun b o e _ => s813 b o e
        clear e1 e2 e3 e4 s1 s2 s3 s4 s5 s812 s813 hl8 hO8 hPc hO hl7
        -- size
        refine ⟨_, rfl, by show 4 ≤ sizeLine; decide, fun q5 m5 => ?_⟩
        obtain ⟨np5, nc5⟩ := hPne hP13 m5
        have s6 := same_upd (o := .lst [.int 39, .int 40, .int 41, .int 42]) m5
        refine ⟨p, c, q5, _, rfl, hP13.same s6, .inl (.inl upd_same), (fun z => nomatch z), by show 4 < 1073741824; decide, fun H' hb => .inl (.inl (hb.1 _ _ upd_same (Ne.symm np5))), fun z H14 hz hP14 b14 => ?_⟩
        obtain ⟨sz, rfl, lsz⟩ : ∃ n : Nat, z = .int n ∧ n ≤ 42 := by
          simp only [List.mem_cons, List.not_mem_nil, or_false] at hz
          rcases hz with rfl | rfl | rfl | rfl
          · exact ⟨39, rfl, by decide⟩
          · exact ⟨40, rfl, by decide⟩
          · exact ⟨41, rfl, by decide⟩
          · exact ⟨42, rfl, by decide⟩
        have hl14 := b14.1 _ _ (s6 _ _ hl13) (Ne.symm npl)
        have e14 := b14.1 _ _ (s6 _ _ e5) (Ne.symm npsp)
        have hO14 := (hO13.kept fun b o e _ => s6 b o e).kept b14.1
        clear hz s6 b14 hl13 e5 hO13 hP13
        -- long
        refine ⟨by show 1 ≤ sizeLine; decide, fun q6 m6 => ?_⟩
        have s1 : Same H14 (upd H14 q6 (.lst [.int 0])) := same_upd m6
        have e1 : (upd H14 q6 (.lst [.int 0])) q6 = some (.lst [.int 0]) := upd_same
        generalize upd H14 q6 (.lst [.int 0]) = H15 at s1 e1 ⊢
        refine ⟨_, rfl, q6, (sz : Int), _, rfl, rfl, e1, by omega, by omega, ?_, fun q7 m7 => ?_⟩
        · exact Nat.le_of_lt (small1000 (by show 1 * (sz : Int).toNat ≤ 1000; omega))
        rw [show (sz : Int).toNat = sz from rfl, flat_rep]
        have s2 : Same H15 (upd H15 q7 (.lst ((List.replicate sz (0 : Int)).map V.int))) := same_upd m7
        have e2 : (upd H15 q7 (.lst ((List.replicate sz (0 : Int)).map V.int))) q7 = some (.lst ((List.replicate sz (0 : Int)).map V.int)) := upd_same
        obtain ⟨np7, nc7⟩ := hPne (hP14.same s1) m7
        generalize upd H15 q7 (.lst ((List.replicate sz (0 : Int)).map V.int)) = H16 at s2 e2 ⊢
        have s12 := s1.trans s2
        refine ⟨_, rfl, p, c, 5, rfl, hP14.same s12, by decide, by decide, fun w1 H17 w0 w5 hP17 b17 => ?_⟩
        have hl17 := b17.1 _ _ (s12 _ _ hl14) (Ne.symm npl)
        have e17 := b17.1 _ _ (s12 _ _ e14) (Ne.symm npsp)
        have f17 := b17.1 _ _ e2 (Ne.symm np7)
        have hO17 := (hO14.kept fun b o e _ => s12 b o e).kept b17.1
        clear s1 e1 s2 e2 s12 hP14 hl14 e14 hO14 b17
        refine ⟨_, _, rfl, rfl, by show 1 ≤ sizeLine; decide, fun q8 m8 => ?_⟩
        have s1 : Same H17 (upd H17 q8 (.lst [.int (1 + w1)])) := same_upd m8
        have e1 : (upd H17 q8 (.lst [.int (1 + w1)])) q8 = some (.lst [.int (1 + w1)]) := upd_same
        generalize upd H17 q8 (.lst [.int (1 + w1)]) = H18 at s1 e1 ⊢
        refine ⟨q7, q8, _, _, rfl, rfl, s1 _ _ f17, e1, ?_, fun lg mlg => ?_⟩
        · rw [List.length_map, List.length_replicate]
          exact Nat.le_of_lt (small1000 (by show sz + 1 ≤ 1000; omega))
        rw [show (List.replicate sz (0 : Int)).map V.int ++ [V.int (1 + w1)] = (List.replicate sz (0 : Int) ++ [1 + w1]).map V.int by simp]
        obtain ⟨nplg, nclg⟩ := hPne (hP17.same s1) mlg
        have s2 : Same H18 (upd H18 lg (.lst ((List.replicate sz (0 : Int) ++ [1 + w1]).map V.int))) := same_upd mlg
        have e2 : (upd H18 lg (.lst ((List.replicate sz (0 : Int) ++ [1 + w1]).map V.int))) lg = some (.lst ((List.replicate sz (0 : Int) ++ [1 + w1]).map V.int)) := upd_same
        generalize upd H18 lg (.lst ((List.replicate sz (0 : Int) ++ [1 + w1]).map V.int)) = H19 at s2 e2 ⊢
        have g50 : ∀ n ∈ List.replicate sz (0 : Int) ++ [1 + w1], n.natAbs < 10 ^ 50 := by
          intro n hn
          rcases List.mem_append.mp hn with h | h
          · rw [List.eq_of_mem_replicate h]
            decide
          · rw [List.mem_singleton.mp h]
            exact Nat.lt_of_le_of_lt (show (1 + w1).natAbs ≤ 100 by omega) (by decide)
        have lgl : (List.replicate sz (0 : Int) ++ [1 + w1]).length ≤ 43 := by
          rw [List.length_append, List.length_replicate]
          show sz + 1 ≤ 43
          omega
        generalize List.replicate sz (0 : Int) ++ [1 + w1] = gs at e2 g50 lgl ⊢
        have s12 := s1.trans s2
        have hP19 := hP17.same s12
        have hl19 := s12 _ _ hl17
        have e19 := s12 _ _ e17
        have hO19 := hO17.kept fun b o e _ => s12 b o e
        clear s1 e1 s2 s12 f17 hP17 hl17 e17 hO17
        -- late
        refine ⟨_, rfl, by show 1 ≤ sizeLine; decide, fun q9 m9 => ?_⟩
        obtain ⟨np9, nc9⟩ := hPne hP19 m9
        have s1 : Same H19 (upd H19 q9 (.lst [.int 0])) := same_upd m9
        have e1 : (upd H19 q9 (.lst [.int 0])) q9 = some (.lst [.int 0]) := upd_same
        generalize upd H19 q9 (.lst [.int 0]) = H20 at s1 e1 ⊢
        refine ⟨_, rfl, by show 4 ≤ sizeLine; decide, fun qa ma => ?_⟩
        obtain ⟨npa, nca⟩ := hPne (hP19.same s1) ma
        have s3 := same_upd (o := .lst [.int 0, .int 1, .int 30, .int 60]) ma
        have s13 := s1.trans s3
        refine ⟨p, c, qa, _, rfl, hP19.same s13, .inl (.inl upd_same), (fun z => nomatch z), by show 4 < 1073741824; decide, fun H' hb => .inl (.inl (hb.1 _ _ upd_same (Ne.symm npa))), fun z H21 hz hP21 b21 => ?_⟩
        obtain ⟨kz, rfl, lkz⟩ : ∃ n : Nat, z = .int n ∧ n ≤ 60 := by
          simp only [List.mem_cons, List.not_mem_nil, or_false] at hz
          rcases hz with rfl | rfl | rfl | rfl
          · exact ⟨0, rfl, by decide⟩
          · exact ⟨1, rfl, by decide⟩
          · exact ⟨30, rfl, by decide⟩
          · exact ⟨60, rfl, by decide⟩
        have hl21 := b21.1 _ _ (s13 _ _ hl19) (Ne.symm npl)
        have e21 := b21.1 _ _ (s13 _ _ e19) (Ne.symm npsp)
        have g21 := b21.1 _ _ (s13 _ _ e2) (Ne.symm nplg)
        have z21 := b21.1 _ _ (s3 _ _ e1) (Ne.symm np9)
        have hO21 := (hO19.kept fun b o e _ => s13 b o e).kept b21.1
        clear hz s1 s3 s13 e1 e2 hP19 hl19 e19 hO19 b21
        refine ⟨q9, (kz : Int), _, rfl, rfl, z21, by omega, by omega, ?_, fun qb mb => ?_⟩
        · exact Nat.le_of_lt (small1000 (by show 1 * (kz : Int).toNat ≤ 1000; omega))
        rw [show (kz : Int).toNat = kz from rfl, flat_rep]
        have s1 : Same H21 (upd H21 qb (.lst ((List.replicate kz (0 : Int)).map V.int))) := same_upd mb
        have e1 : (upd H21 qb (.lst ((List.replicate kz (0 : Int)).map V.int))) qb = some (.lst ((List.replicate kz (0 : Int)).map V.int)) := upd_same
        generalize upd H21 qb (.lst ((List.replicate kz (0 : Int)).map V.int)) = H22 at s1 e1 ⊢
        refine ⟨l, qb, _, _, rfl, rfl, s1 _ _ hl21, e1, ?_, fun lt mlt => ?_⟩
        · rw [List.length_map, List.length_map, List.length_replicate]
          exact Nat.le_of_lt (small1000 (by omega))
        rw [← List.map_append]
        have s2 : Same H22 (upd H22 lt (.lst ((fs ++ List.replicate kz (0 : Int)).map V.int))) := same_upd mlt
        have e2 : (upd H22 lt (.lst ((fs ++ List.replicate kz (0 : Int)).map V.int))) lt = some (.lst ((fs ++ List.replicate kz (0 : Int)).map V.int)) := upd_same
        generalize upd H22 lt (.lst ((fs ++ List.replicate kz (0 : Int)).map V.int)) = H23 at s2 e2 ⊢
        have t50 : ∀ n ∈ fs ++ List.replicate kz (0 : Int), n.natAbs < 10 ^ 50 := by
          intro n hn
          rcases List.mem_append.mp hn with h | h
          · exact hfs50 n h
          · rw [List.eq_of_mem_replicate h]
            decide
        have tll : (fs ++ List.replicate kz (0 : Int)).length ≤ 72 := by
          rw [List.length_append, List.length_replicate]
          omega
        generalize fs ++ List.replicate kz (0 : Int) = us at e2 t50 tll ⊢
        have s12 := s1.trans s2
        have hP23 := hP21.same s12
        have hl23 := s12 _ _ hl21
        have e23 := s12 _ _ e21
        have g23 := s12 _ _ g21
        have hO23 := hO21.kept fun b o e _ => s12 b o e
        have e24 := e2
        clear s1 e1 s2 e2 s12 hP21 hl21 e21 g21 z21 hO21
        have hO24 := hO23.da
        have A50 : ∀ n ∈ A, n.natAbs < 10 ^ 50 := fun n h => hfs50 n (mA n h)
        have B50 : ∀ n ∈ B, n.natAbs < 10 ^ 50 := fun n h => hfs50 n (mB n h)
        refine ⟨_, _, rfl, ?_⟩
        refine ⟨_, rfl, _, rfl, _, rfl, sp, _, rfl, .inl ⟨.inl (.inl e23), fun k1 w1' => ?_⟩⟩
        have s1 : Same H23 (upd H23 k1 (.tup (A.map V.int ++ [x] ++ B.map V.int))) := same_upd w1'
        have e1 : (upd H23 k1 (.tup (A.map V.int ++ [x] ++ B.map V.int))) k1 = some (.tup (A.map V.int ++ [x] ++ B.map V.int)) := upd_same
        generalize upd H23 k1 (.tup (A.map V.int ++ [x] ++ B.map V.int)) = G1 at s1 e1 ⊢
        refine ⟨_, rfl, sp, _, rfl, .inl (.inl (s1 _ _ e23)), fun k2 w2' far2 => ?_⟩
        have s2 : Same G1 (upd G1 k2 (.lst (A.map V.int ++ [x] ++ B.map V.int).reverse)) := same_upd w2'
        have e2 : (upd G1 k2 (.lst (A.map V.int ++ [x] ++ B.map V.int).reverse)) k2 = some (.lst (A.map V.int ++ [x] ++ B.map V.int).reverse) := upd_same
        generalize upd G1 k2 (.lst (A.map V.int ++ [x] ++ B.map V.int).reverse) = G2 at s2 e2 ⊢
        have s02 := s1.trans s2
        refine ⟨_, rfl, _, rfl, lg, _, rfl, .inl ⟨.inl (.inl (s02 _ _ g23)), fun k3 w3' => ?_⟩⟩
        have s3 : Same G2 (upd G2 k3 (.tup (gs.map V.int))) := same_upd w3'
        have e3 : (upd G2 k3 (.tup (gs.map V.int))) k3 = some (.tup (gs.map V.int)) := upd_same
        generalize upd G2 k3 (.tup (gs.map V.int)) = G3 at s3 e3 ⊢
        refine ⟨_, rfl, _, rfl, by show 1 ≤ sizeLine; decide, fun k4 w4' => ?_⟩
        have s4 : Same G3 (upd G3 k4 (.lst [x])) := same_upd w4'
        have e4 : (upd G3 k4 (.lst [x])) k4 = some (.lst [x]) := upd_same
        generalize upd G3 k4 (.lst [x]) = G4 at s4 e4 ⊢
        have s04 := (s02.trans s3).trans s4
        refine ⟨lg, k4, _, _, rfl, rfl, s04 _ _ g23, e4, ?_, fun k5 w5' far3 => ?_⟩
        · rw [List.length_map]
          exact Nat.le_of_lt (small1000 (by show gs.length + 1 ≤ 1000; omega))
        have s5 : Same G4 (upd G4 k5 (.lst (gs.map V.int ++ [x]))) := same_upd w5'
        have e5 : (upd G4 k5 (.lst (gs.map V.int ++ [x]))) k5 = some (.lst (gs.map V.int ++ [x])) := upd_same
        generalize upd G4 k5 (.lst (gs.map V.int ++ [x])) = G5 at s5 e5 ⊢
        refine ⟨_, rfl, by show 1 ≤ sizeLine; decide, fun k6 w6' => ?_⟩
        have s6 : Same G5 (upd G5 k6 (.lst [x])) := same_upd w6'
        have e6 : (upd G5 k6 (.lst [x])) k6 = some (.lst [x]) := upd_same
        generalize upd G5 k6 (.lst [x]) = G6 at s6 e6 ⊢
        have s06 := (s04.trans s5).trans s6
        refine ⟨_, rfl, k6, lg, _, _, rfl, rfl, e6, s06 _ _ g23, ?_, fun k7 w7' far4 => ?_⟩
        · rw [List.length_map]
          exact Nat.le_of_lt (small1000 (by show 1 + gs.length ≤ 1000; omega))
        have s7 : Same G6 (upd G6 k7 (.lst ([x] ++ gs.map V.int))) := same_upd w7'
        have e7 : (upd G6 k7 (.lst ([x] ++ gs.map V.int))) k7 = some (.lst ([x] ++ gs.map V.int)) := upd_same
        generalize upd G6 k7 (.lst ([x] ++ gs.map V.int)) = G7 at s7 e7 ⊢
        have s07 := s06.trans s7
        refine ⟨_, rfl, by show 9 ≤ sizeLine; decide, fun L nL => ?_⟩
        have hx := hO24.same s07
        have dA := da_ints (H := G7) A
        have dB := da_ints (H := G7) B
        have dg := da_ints (H := G7) gs
        have dsp : DaAll G7 (A.map V.int ++ [x] ++ B.map V.int) (A.map PyData.int ++ [dO] ++ B.map PyData.int) := (dA.app (.cons hx .nil)).app dB
        have gsp : Good dO (A.map PyData.int ++ [dO] ++ B.map PyData.int) := ((Good.ints A50).app .odd).app (Good.ints B50)
        have lsp : (A.map PyData.int ++ [dO] ++ B.map PyData.int).length ≤ 90 := by
          rw [List.length_append, List.length_append, List.length_map, List.length_map, List.length_singleton]
          omega
        have lgs : (gs.map PyData.int ++ [dO]).length ≤ 90 := by
          rw [List.length_append, List.length_map, List.length_singleton]
          omega
        have lgr : ([dO] ++ gs.map PyData.int).length ≤ 90 := by
          rw [List.length_append, List.length_map, List.length_singleton]
          omega
        have sw : ∀ {G G' : Hp} {y : Addr} {o : HO}, Same G G' → G y = some o → G' y = some o := fun s e => s _ _ e
        have all : ∀ y ∈ ([.ref l, .ref sp, .ref k1, .ref k2, .ref lg, .ref k3, .ref k5, .ref k7, .ref lt] : List V), ∃ d, FineD G7 y d ∧ (itemsD d).length ≤ 300 := by
          intro y hy
          simp only [List.mem_cons, List.not_mem_nil, or_false] at hy
          rcases hy with rfl | rfl | rfl | rfl | rfl | rfl | rfl | rfl | rfl
          · exact ⟨_, fine_ints (s07 _ _ hl23) hfs50 (by omega), by show (fs.map PyData.int).length ≤ 300; rw [List.length_map]; omega⟩
          · exact ⟨_, fine_list far1 (s07 _ _ e23) dsp hOP gsp lsp, Nat.le_trans lsp (by decide)⟩
          · exact ⟨_, fine_tuple (.inl ((((((s2.trans s3).trans s4).trans s5).trans s6).trans s7) _ _ e1)) dsp hOP gsp lsp, Nat.le_trans lsp (by decide)⟩
          · exact ⟨_, fine_list far2 (((((s3.trans s4).trans s5).trans s6).trans s7) _ _ e2) dsp.rev hOP gsp.rev (by rw [List.length_reverse]; exact lsp), by show (List.reverse _).length ≤ 300; rw [List.length_reverse]; exact Nat.le_trans lsp (by decide)⟩
          · exact ⟨_, fine_ints (s07 _ _ g23) g50 (by omega), by show (gs.map PyData.int).length ≤ 300; rw [List.length_map]; omega⟩
          · exact ⟨_, fine_tuple (.inl ((((s4.trans s5).trans s6).trans s7) _ _ e3)) dg odd_int (Good.ints g50) (by rw [List.length_map]; omega), by show (gs.map PyData.int).length ≤ 300; rw [List.length_map]; omega⟩
          · exact ⟨_, fine_list far3 ((s6.trans s7) _ _ e5) (dg.app (.cons hx .nil)) hOP ((Good.ints g50).app .odd) lgs, Nat.le_trans lgs (by decide)⟩
          · exact ⟨_, fine_list far4 e7 (DaAll.app (.cons hx .nil) dg) hOP (Good.app .odd (Good.ints g50)) lgr, Nat.le_trans lgr (by decide)⟩
          · exact ⟨_, fine_ints (s07 _ _ e24) t50 (by omega), by show (us.map PyData.int).length ≤ 300; rw [List.length_map]; omega⟩
        have sL : Same G7 (upd G7 L (.lst [.ref l, .ref sp, .ref k1, .ref k2, .ref lg, .ref k3, .ref k5, .ref k7, .ref lt])) := same_upd nL
        have eL : (upd G7 L (.lst [.ref l, .ref sp, .ref k1, .ref k2, .ref lg, .ref k3, .ref k5, .ref k7, .ref lt])) L = some (.lst [.ref l, .ref sp, .ref k1, .ref k2, .ref lg, .ref k3, .ref k5, .ref k7, .ref lt]) := upd_same
        generalize upd G7 L (.lst [.ref l, .ref sp, .ref k1, .ref k2, .ref lg, .ref k3, .ref k5, .ref k7, .ref lt]) = G8 at sL eL ⊢
        replace all : ∀ y ∈ ([.ref l, .ref sp, .ref k1, .ref k2, .ref lg, .ref k3, .ref k5, .ref k7, .ref lt] : List V), ∃ d, FineD G8 y d ∧ (itemsD d).length ≤ 300 := fun y hy => by
          obtain ⟨d, h1, h2⟩ := all y hy
          exact ⟨d, h1.same sL, h2⟩
        have hP8' := hP23.same (s07.trans sL)
        generalize ([.ref l, .ref sp, .ref k1, .ref k2, .ref lg, .ref k3, .ref k5, .ref k7, .ref lt] : List V) = ys at all eL ⊢
        refine ⟨L, rfl, ⟨_, .inl (.inl eL)⟩, for_list (xs := ys) (fun j σ H => Same G8 H ∧ ∃ z2 zb : Option V, σ = [some (.ref a), some (.ref p), z2, some (.int (0 + i)), some (.ref l), some x, some (.int v), some (.ref sp), some (.int sz), some (.ref lg), some (.ref lt), zb]) ⟨same_rfl _, _, _, rfl⟩ (fun j σ H _ h => .inl (.inl (h.1 _ _ eL))) ?_ ?_⟩
        · rintro j y σ G9 hy ⟨s9, z2, zb, rfl⟩
          obtain ⟨d, fd9, few⟩ := all y (List.mem_of_getElem? hy)
          replace fd9 := fd9.same s9
          refine ⟨_, rfl, fd9.rp ?_⟩
          refine ⟨_, rfl, ⟨y, rfl, .inl ⟨d, fd9.da, by omega, fun v2 Ga sa du => (due_fine du fd9.sm).rp ?_⟩⟩⟩
          refine ⟨_, rfl, ⟨y, rfl, .inl ⟨d, (fd9.same sa).da, by omega, fun v3 Gb sb du2 => (due_fine du2 fd9.sm).rp ?_⟩⟩⟩
          refine ⟨rfl, false, ne_self _, iteF ?_⟩
          refine ⟨_, rfl, ((fd9.same sa).same sb).rp ?_⟩
          refine ⟨_, rfl, rfl, false, ne_self _, iteF ?_⟩
          exact ⟨(s9.trans sa).trans sb, _, _, rfl⟩
        · rintro σ G9 ⟨s9, z2, zb, rfl⟩
          exact ⟨hP8'.same s9, _, _, _, _, _, _, _, _, _, _, rfl⟩
      · rintro σ H17 ⟨hP17, u2, u3, u4, u5, u6, u7, u8, u9, ua, ub, rfl⟩
        exact q _
end
end My

namespace My
open PySem PySem.Spec PyProof.Rows L2
/-! ### the facts of the text -/
abbrev mroVE (C LE : Addr) : List Value := [.ref C, .ref LE, .type "ValueError", .type "Exception", .type "BaseException", .type "object"]
/-- what stands of each of the sixteen classes -/
structure CK (K : PySem.W.Frag) (C LE : Addr) : Prop where
  m : ∃ cd, PySem.W.clsIn K C = some cd ∧ cd.mro = mroVE C LE
  t : PySem.W.typeIn K (.ref C) = some (.type "type")
  k : PySem.W.keepIn K (.ref C) = true
  hg : PySem.W.findIn K (.ref C) "__getattribute__" = some (some (.builtin "BaseException.__getattribute__"))
  hk : PySem.W.findIn K (.ref C) "__getattr__" = some none
  hd : PySem.W.hasDictIn K C = true
  ha : PySem.W.findIn K (.ref C) "__class__" = some (some (.builtin "object.__class__"))
theorem ck_mk {K : PySem.W.Frag} {C LE : Addr} {cd : ClassData} (m : PySem.W.clsIn K C = some cd) (r : cd.mro = mroVE C LE) (t : PySem.W.typeIn K (.ref C) = some (.type "type")) (k : PySem.W.keepIn K (.ref C) = true)
    (hg : PySem.W.findIn K (.ref C) "__getattribute__" = some (some (.builtin "BaseException.__getattribute__"))) (hk : PySem.W.findIn K (.ref C) "__getattr__" = some none) (hd : PySem.W.hasDictIn K C = true) (ha : PySem.W.findIn K (.ref C) "__class__" = some (some (.builtin "object.__class__"))) : CK K C LE := ⟨⟨cd, m, r⟩, t, k, hg, hk, hd, ha⟩
theorem some_cls {K : PySem.W.Frag} {C : Addr} {cd : ClassData} (m : PySem.W.clsIn K C = some cd) : ∃ cd, PySem.W.clsIn K C = some cd := ⟨cd, m⟩
theorem CK.mro {K : PySem.W.Frag} {C LE : Addr} (h : CK K C LE) (v : Value) : PySem.W.mroIn K C v = some ((mroVE C LE).contains v) := by
  obtain ⟨cd, e, r⟩ := h.m
  unfold PySem.W.mroIn
  rw [e, Option.bind_some, r]
  rfl
theorem CK.exc {K : PySem.W.Frag} {C LE : Addr} (h : CK K C LE) (hn : PySem.W.specialIn K (.builtin "object.__class__") "__get__" = some (some (.builtin "getset_descriptor.__get__"))) (ht : PySem.W.takesIn K (.builtin "object.__class__") = some true) : ExcC K C :=
  ⟨h.hg, h.hk, (h.mro _).trans (by rw [show (mroVE C LE).contains (.type "BaseException") = true by simp]), h.hd, h.ha, hn, ht, (h.mro _).trans (by rw [show (mroVE C LE).contains (.type "object") = true by simp])⟩
theorem exm_to {K : PySem.W.Frag} {C D LE : Addr} (hC : CK K C LE) (hD : CK K D LE) : PySem.W.exmOne K (.ref C) (.ref D) = some ((mroVE C LE).contains (.ref D)) := by
  obtain ⟨cd, e, r⟩ := hD.m
  have b1 : (PySem.W.subIn K (.ref D) (.type "BaseException") == some true) = true := by
    rw [show PySem.W.subIn K (.ref D) (.type "BaseException") = PySem.W.mroIn K D (.type "BaseException") from rfl, hD.mro]
    simp
  have b2 : ((PySem.W.clsIn K D).isSome && PySem.W.typeIn K (.ref D) == some (.type "type")) = true := by
    rw [e, hD.t]
    exact (show (true && (some (Value.type "type") == some (Value.type "type"))) = true by decide +kernel)
  show (if (PySem.W.subIn K (.ref D) (.type "BaseException") == some true) = true then (if ((PySem.W.clsIn K D).isSome && PySem.W.typeIn K (.ref D) == some (.type "type")) = true then PySem.W.subIn K (.ref C) (.ref D) else none) else none) = _
  rw [if_pos b1, if_pos b2]
  exact hC.mro _
theorem CK.xf {K : PySem.W.Frag} {C LE : Addr} (h : CK K C LE) : XfC K C := ⟨h.hg, h.hk, (h.mro _).trans (by rw [show (mroVE C LE).contains (.type "BaseException") = true by simp]), h.hd⟩
section
variable {P : Program} {w : World} {K : PySem.W.Frag} {mg : Str → Option Value} {base : Heap}
theorem sup_mk {h : Heap} {x qual : Str} {st : Stmt} {C LE fI cc cda : Addr} {oc doc pm ct : Value} {od an : Option Addr} {osl : Array (Option Value)} {nm q : Str} {N : Addr} {bs bm : List Value} {sn : List Str} {sub : List Value} {ab : Bool} {col : Option Bool} {dd : Option Addr} {k0 k1 k2 k3 k5 : Option Value}
    {ccl : Value} {cdd : Option Addr} {vs : Array Value} {ccs : Array (Option Value)} {file : Str} {tf : Tok} {cl : Value} {cld : Option Addr} {csl : Array (Option Value)} (X : K.In h) (G : h.Ns mainGlobals mg) (c : CK K C LE)
    (gC : PySem.W.nsIn K mainGlobals x = some (some (.ref C))) (lC : K.lookup C = some (excClassObj nm q C N bs bm true sn sub ab col dd k0 k1 k2 k3 k5 "ValueError.__new__")) (rv : PySem.HandSPX.refsVE bm = true)
    (sa : PySem.W.findIn K (.ref C) "__setattr__" = some (some (.builtin "object.__setattr__"))) (iC : PySem.W.findIn K (.ref C) "__init__" = some (some (.ref fI))) (tI : PySem.W.typeIn K (.ref fI) = some (.type "function"))
    (lI : K.lookup fI = some ⟨oc, od, .func (PySem.W.ksFn "__init__" qual (defArgs st) (defBody st) (defScope st) .none .none doc pm an (.ref cda) ct cc), osl⟩) (cdq : PySem.W.codeIn K (.ref cda) qual = true) (lc : K.lookup cda = some ⟨ccl, cdd, .fields vs, ccs⟩) (hv : vs[2]? = some (.str file tf)) (hf : ((P.main.file : Str) == file) = true)
    (lcc : K.lookup cc = some ⟨cl, cld, .cell (some (.ref C)), csl⟩) (noS : PySem.W.nsIn K mainGlobals "super" = some none) (anyC : PySem.W.nsIn K cStatics "thirdparty.any" = some none) (supI : PySem.W.ks_superIn K C C "__init__" = some (some (.builtin "ValueError.__init__"))) (noTop : (P.main.scope.names.lookup ("super" : Str)).isSome = false) :
    SupCls P K mg x qual st C fI cc cda (PySem.W.ksFn "__init__" qual (defArgs st) (defBody st) (defScope st) .none .none doc pm an (.ref cda) ct cc) where
  gC := PySem.W.mg_of X G gC
  ox := ⟨⟨nm, q, N, bs, bm, sn, sub, ab, col, dd, k0, k1, k2, k3, k5, lC, rv⟩, sa, (c.mro _).trans (by rw [show (mroVE C LE).contains (.type "BaseException") = true by simp]), c.t, c.k⟩
  iC := iC
  tI := tI
  fn := ⟨oc, od, doc, pm, an, ct, osl, rfl, lI⟩
  cdq := cdq
  code := ⟨ccl, cdd, vs, ccs, file, tf, lc, hv, hf⟩
  cell := ⟨cl, cld, csl, lcc⟩
  sub := (c.mro _).trans (by rw [show (mroVE C LE).contains (.ref C) = true by simp])
  noS := PySem.W.mg_none_of X G noS
  anyC := anyC
  supI := supI
  subV := (c.mro _).trans (by rw [show (mroVE C LE).contains (.type "ValueError") = true by simp])
  noTop := noTop
theorem plain_mk {h : Heap} {x : Str} {C LE : Addr} (X : K.In h) (G : h.Ns mainGlobals mg) (c : CK K C LE) (gC : PySem.W.nsIn K mainGlobals x = some (some (.ref C))) (q : PySem.W.excIn K C [.type "ValueError", .type "Exception", .type "BaseException", .type "object"] "ValueError.__new__" = true) : PlainCls K mg x C := ⟨PySem.W.mg_of X G gC, q, c.k⟩
/-- a def as the top has written it -/
structure DefK (K : PySem.W.Frag) (mg : Str → Option Value) (x : Str) (st : Stmt) (f : Addr) (fd : FuncData) : Prop where
  g : mg x = some (.ref f)
  F : Fun K x x st f fd
theorem def_mk {h : Heap} {x : Str} {st : Stmt} {f : Addr} {oc : Value} {od an : Option Addr} {osl : Array (Option Value)} {kV doc pm cdv ct : Value} (X : K.In h) (G : h.Ns mainGlobals mg) (g : PySem.W.nsIn K mainGlobals x = some (some (.ref f)))
    (l : K.lookup f = some ⟨oc, od, .func (PySem.W.fnOf x x (defArgs st) (defBody st) (defScope st) .none kV doc pm an cdv ct), osl⟩) (c : PySem.W.codeIn K cdv x = true) (k : PySem.W.keepIn K (.ref f) = true) : DefK K mg x st f (PySem.W.fnOf x x (defArgs st) (defBody st) (defScope st) .none kV doc pm an cdv ct) := ⟨PySem.W.mg_of X G g, fun_mk l c k⟩
structure MethK (K : PySem.W.Frag) (C : Addr) (x qual : Str) (st : Stmt) (f : Addr) (fd : FuncData) : Prop where
  i : PySem.W.findIn K (.ref C) x = some (some (.ref f))
  fn : PySem.W.isFn K (.ref f) = true
  F : Fun K x qual st f fd
theorem meth_mk {x qual : Str} {st : Stmt} {C f : Addr} {oc : Value} {od an : Option Addr} {osl : Array (Option Value)} {kV doc pm cdv ct : Value} (i : PySem.W.findIn K (.ref C) x = some (some (.ref f))) (n : PySem.W.isFn K (.ref f) = true)
    (l : K.lookup f = some ⟨oc, od, .func (PySem.W.fnOf x qual (defArgs st) (defBody st) (defScope st) .none kV doc pm an cdv ct), osl⟩) (c : PySem.W.codeIn K cdv qual = true) (k : PySem.W.keepIn K (.ref f) = true) : MethK K C x qual st f (PySem.W.fnOf x qual (defArgs st) (defBody st) (defScope st) .none kV doc pm an cdv ct) := ⟨i, n, fun_mk l c k⟩
theorem all_mk {h : Heap} {C_TooMany fI cc cda C_No C_Lay LE f_Layoutinit f_law_kneaded f_law_pot_of f_law_below f_law_pick f_is_integer f_trimmed f_are_factors f_law_some_factors f_law_word f_law_due f_law : Addr} {fd_TooMany fd_Layoutinit fd_law_kneaded fd_law_pot_of fd_law_below fd_law_pick fd_is_integer fd_trimmed fd_are_factors fd_law_some_factors fd_law_word fd_law_due fd_law : FuncData} {tD : Tok} {fa : Addr} (X : K.In h) (G : h.Ns mainGlobals mg) (hfa : mg "law" = some (.ref fa))
    (k_TooMany : CK K C_TooMany LE) (k_No : CK K C_No LE) (s_TooMany : CK K C_TooMany LE → SupCls P K mg "TooMany" "TooMany.__init__" i_TooMany C_TooMany fI cc cda fd_TooMany) (no_limit : PySem.W.findIn K (.ref C_TooMany) "limit" = some none)
    (p_No : CK K C_No LE → PlainCls K mg "NoLayout" C_No) (nd : C_No ≠ C_TooMany ∧ C_No ≠ LE)
    (gLay : PySem.W.nsIn K mainGlobals "Layout" = some (some (.ref C_Lay))) (pg : PySem.W.plainGet K C_Lay Str.empty = true) (hd : PySem.W.hasDictIn K C_Lay = true) (po : PySem.W.plainOver K C_Lay = true) (sa : PySem.W.findIn K (.ref C_Lay) "__setattr__" = some (some (.builtin "object.__setattr__")))
    (naF : PySem.W.findIn K (.ref C_Lay) "factors" = some none) (naD : PySem.W.findIn K (.ref C_Lay) "degree" = some none) (mk : PySem.W.makesIn K C_Lay = true) (kp : PySem.W.keepIn K (.ref C_Lay) = true)
    (m_init : MethK K C_Lay "__init__" "Layout.__init__" s_Layoutinit f_Layoutinit fd_Layoutinit) (b_Layoutinit : Binds K fd_Layoutinit ["self", "factors"] [])
    (g_MOST : PySem.W.nsIn K mainGlobals "MOST_DEGREE" = some (some (.int 40 tD)))
    (d_law_kneaded : DefK K mg "_law_kneaded" s_law_kneaded f_law_kneaded fd_law_kneaded)
    (d_law_pot_of : DefK K mg "_law_pot_of" s_law_pot_of f_law_pot_of fd_law_pot_of)
    (d_law_below : DefK K mg "_law_below" s_law_below f_law_below fd_law_below)
    (d_law_pick : DefK K mg "_law_pick" s_law_pick f_law_pick fd_law_pick)
    (d_is_integer : DefK K mg "is_integer" s_is_integer f_is_integer fd_is_integer)
    (d_trimmed : DefK K mg "trimmed" s_trimmed f_trimmed fd_trimmed)
    (d_are_factors : DefK K mg "are_factors" s_are_factors f_are_factors fd_are_factors)
    (d_law_some_factors : DefK K mg "_law_some_factors" s_law_some_factors f_law_some_factors fd_law_some_factors)
    (d_law_word : DefK K mg "_law_word" s_law_word f_law_word fd_law_word)
    (d_law_due : DefK K mg "_law_due" s_law_due f_law_due fd_law_due)
    (d_law : DefK K mg "law" s_law f_law fd_law)
    (b_law_kneaded : Binds K fd_law_kneaded ["seed", "lap"] [])
    (b_law_pot_of : Binds K fd_law_pot_of ["script"] [])
    (b_law_below : Binds K fd_law_below ["pot", "bound"] [])
    (b_law_pick : Binds K fd_law_pick ["pot", "items"] [])
    (b_is_integer : Binds K fd_is_integer ["thing"] [])
    (b_trimmed : Binds K fd_trimmed ["factors"] [])
    (b_are_factors : Binds K fd_are_factors ["thing"] [])
    (b_law_some_factors : Binds K fd_law_some_factors ["pot", "many", "most"] [])
    (b_law_word : Binds K fd_law_word ["thing"] [])
    (b_law_due : Binds K fd_law_due ["thing"] [])
    (b_law : Binds K fd_law ["script"] [])
    (n_int : PySem.W.nsIn K mainGlobals "int" = some none)
    (n_range : PySem.W.nsIn K mainGlobals "range" = some none)
    (n_abs : PySem.W.nsIn K mainGlobals "abs" = some none)
    (n_enumerate : PySem.W.nsIn K mainGlobals "enumerate" = some none)
    (n_len : PySem.W.nsIn K mainGlobals "len" = some none)
    (n_isinstance : PySem.W.nsIn K mainGlobals "isinstance" = some none)
    (n_bool : PySem.W.nsIn K mainGlobals "bool" = some none)
    (n_list : PySem.W.nsIn K mainGlobals "list" = some none)
    (n_tuple : PySem.W.nsIn K mainGlobals "tuple" = some none)
    (n_all : PySem.W.nsIn K mainGlobals "all" = some none)
    (n_repr : PySem.W.nsIn K mainGlobals "repr" = some none)
    (bindL : ∀ (s : Shared) (v : Value), BindsTo s fd_law ⟨[v], []⟩ [("script", v)]) :
    ∃ fd : FuncData, (∀ (s : Shared) (v : Value), BindsTo s fd ⟨[v], []⟩ [("script", v)]) ∧ ∀ base : Heap, K.In base → base.Ns mainGlobals mg → FnG P w K mg base CX0 6 fa fd ["script"] (spLaw K) := by
  have e := hfa.symm.trans d_law.g
  cases e
  refine ⟨fd_law, bindL, fun base _ _ => ?_⟩
  have TD : TxtD mg := { n_int := PySem.W.mg_none_of X G n_int, n_range := PySem.W.mg_none_of X G n_range, n_abs := PySem.W.mg_none_of X G n_abs, n_enumerate := PySem.W.mg_none_of X G n_enumerate, n_len := PySem.W.mg_none_of X G n_len }
  have TF : TxtF mg := { n_isinstance := PySem.W.mg_none_of X G n_isinstance, n_int := PySem.W.mg_none_of X G n_int, n_bool := PySem.W.mg_none_of X G n_bool, n_len := PySem.W.mg_none_of X G n_len, n_list := PySem.W.mg_none_of X G n_list, n_tuple := PySem.W.mg_none_of X G n_tuple, n_all := PySem.W.mg_none_of X G n_all }
  have TM : TxtM mg := { n_range := PySem.W.mg_none_of X G n_range }
  have TI : TxtI mg := { n_repr := PySem.W.mg_none_of X G n_repr, n_range := PySem.W.mg_none_of X G n_range, n_len := PySem.W.mg_none_of X G n_len, n_tuple := PySem.W.mg_none_of X G n_tuple }
  have TY : TxtY mg tD := { n_len := PySem.W.mg_none_of X G n_len, g_MOST_DEGREE := PySem.W.mg_of X G g_MOST }
  let d : LayD := { too := ⟨C_TooMany, fI, cc, cda, fd_TooMany⟩, no := C_No, lay := C_Lay }
  have n1 : ∀ A B : Addr, A ≠ B → (Value.ref A == Value.ref B) = false := fun A B z => beq_eq_false_iff_ne.mpr fun q => z (by cases q; rfl)
  have D : LayF P K mg d := {
    too := s_TooMany k_TooMany
    noL := no_limit
    no := p_No k_No
    noB := (k_No.mro _).trans (by rw [show (mroVE C_No LE).contains (.type "BaseException") = true by simp])
    noT := k_No.t
    lay := ⟨pg, hd, po, sa⟩
    gLay := PySem.W.mg_of X G gLay
    exNN := (exm_to k_No k_No).trans (by rw [show (mroVE C_No LE).contains (.ref C_No) = true by simp])
    exTN := (exm_to k_TooMany k_No).trans (by rw [show (mroVE C_TooMany LE).contains (.ref C_No) = false by simp [mroVE, nd.1, nd.2]])
    exTT := (exm_to k_TooMany k_TooMany).trans (by rw [show (mroVE C_TooMany LE).contains (.ref C_TooMany) = true by simp])
    xf := k_TooMany.xf
    naF := naF
    naD := naD }
  have M : Mk K d.lay f_Layoutinit := ⟨mk, m_init.i, m_init.fn, kp⟩
  have G_law_pot_of := ok_pot_of (P := P) (w := w) (base := base) (k := 0) d_law_pot_of.F TD
  have G_law_below := ok_below (P := P) (w := w) (base := base) (k := 0) d_law_below.F TD d_law_kneaded.F b_law_kneaded d_law_kneaded.g
  have G_law_pick := ok_pick (P := P) (w := w) (base := base) (k := 0) d_law_pick.F TD d_law_below.F b_law_below d_law_below.g G_law_below
  have G_is_integer := ok_is_integer (P := P) (w := w) (base := base) (k := 0) d_is_integer.F TF
  have G_trimmed := ok_trimmed (P := P) (w := w) (base := base) (k := 0) d_trimmed.F TF
  have G_are_factors := ok_are_factors (P := P) (w := w) (base := base) (k := 0) d_are_factors.F TF d_is_integer.F b_is_integer d_is_integer.g G_is_integer
  have G_law_some_factors := ok_some_factors (P := P) (w := w) (base := base) (k := 0) d_law_some_factors.F TM d_law_below.F b_law_below d_law_below.g G_law_below d_law_pick.F b_law_pick d_law_pick.g G_law_pick
  have GI := ok_Layoutinit (P := P) (w := w) (base := base) (k := 0) m_init.F TY D d_are_factors.F b_are_factors d_are_factors.g G_are_factors d_trimmed.F b_trimmed d_trimmed.g G_trimmed
  have G_law_word := ok_law_word (P := P) (w := w) (base := base) (k := 0) d_law_word.F D M b_Layoutinit GI
  have G_law_due := ok_law_due (P := P) (w := w) (base := base) (k := 0) d_law_due.F TF
  exact go_law d_law.F TI ⟨d_law_pot_of.F, b_law_pot_of, d_law_pot_of.g, G_law_pot_of⟩ ⟨d_law_below.F, b_law_below, d_law_below.g, G_law_below⟩ ⟨d_law_pick.F, b_law_pick, d_law_pick.g, G_law_pick⟩ ⟨d_law_some_factors.F, b_law_some_factors, d_law_some_factors.g, G_law_some_factors⟩ ⟨d_law_word.F, b_law_word, d_law_word.g, G_law_word⟩ ⟨d_law_due.F, b_law_due, d_law_due.g, G_law_due⟩
end
end My

open PySem PySem.W PyProof.Rows
theorem PySem.Challenge.cw_layoutswap_k06_layouts_refused_holds : PySem.Challenge.rw_layoutswap_k06_layouts_refused.Holds := by
  w_on; o_law; k_head; (case hw => w_witness2)
  k_fill
  refine My.walk_ofG (l := PySem.Challenge.rw_layoutswap_k06_layouts_refused) (n := 63) (k := 6) (x := "script") (sp := My.spLaw) rfl (by decide) rfl ⟨rfl, by decide, by decide⟩ (fun w h Y => PySem.W.kIn_of Y) ?F (fun K H a ns hl hS => ⟨a, ns, rfl, hS, Nat.le_trans hl (by decide), fun _ => rfl⟩)
  case F =>
    intro w mg fa h KX G hmg
    refine' My.all_mk KX G hmg ?k_TooMany ?k_No ?s_TooMany ?no_limit ?p_No ?nd ?gLay ?pg ?hd ?po ?sa ?naF ?naD ?mk ?kp ?m_init ?b_Layoutinit ?g_MOST ?d_law_kneaded ?d_law_pot_of ?d_law_below ?d_law_pick ?d_is_integer ?d_trimmed ?d_are_factors ?d_law_some_factors ?d_law_word ?d_law_due ?d_law ?b_law_kneaded ?b_law_pot_of ?b_law_below ?b_law_pick ?b_is_integer ?b_trimmed ?b_are_factors ?b_law_some_factors ?b_law_word ?b_law_due ?b_law ?n_int ?n_range ?n_abs ?n_enumerate ?n_len ?n_isinstance ?n_bool ?n_list ?n_tuple ?n_all ?n_repr ?bindL
    (case gLay => k_is); (case g_MOST => k_is)
    (case s_TooMany => (intro c; refine' My.sup_mk KX G c ?zzgC ?zzlC ?zzrv ?zzsa ?zziC ?zztI ?zzlI ?zzcdq ?zzlc ?zzhv ?zzhf ?zzlcc ?zznoS ?zzanyC ?zzsupI ?zznoTop; (case zzgC => k_is); (case zzlC => k_is); (case zzrv => decide +kernel); (case zzsa => k_is); (case zziC => k_is); (case zztI => k_is); (case zzlI => k_is); (case zzcdq => k_is); (case zzlc => k_is); (case zzhv => exact rfl); (case zzhf => decide +kernel); (case zzlcc => k_is); (case zznoS => k_is); (case zzanyC => k_is); (case zzsupI => ks_is); (case zznoTop => decide +kernel)))
    (case p_No => (intro c; refine' My.plain_mk KX G c ?zzgC ?zzq; (case zzgC => k_is); (case zzq => k_exc)))
    (case k_TooMany => (refine' My.ck_mk ?zzm ?zzr ?zzt ?zzk ?zzhg ?zzhk ?zzhd ?zzha; (case zzm => k_is); (case zzr => exact rfl); (case zzt => k_is); (case zzk => k_is); (case zzhg => k_is); (case zzhk => k_is); (case zzhd => k_is); (case zzha => k_is)))
    (case k_No => (refine' My.ck_mk ?zzm ?zzr ?zzt ?zzk ?zzhg ?zzhk ?zzhd ?zzha; (case zzm => k_is); (case zzr => exact rfl); (case zzt => k_is); (case zzk => k_is); (case zzhg => k_is); (case zzhk => k_is); (case zzhd => k_is); (case zzha => k_is)))
    (case no_limit => k_is); (case nd => decide); (case pg => k_is); (case hd => k_is); (case po => k_is); (case sa => k_is); (case naF => k_is); (case naD => k_is); (case mk => k_is); (case kp => k_is)
    (case m_init => (refine' My.meth_mk ?zzi ?zzn ?zzl ?zzc ?zzk; (case zzi => k_is); (case zzn => k_is); (case zzl => k_is); (case zzc => k_is); (case zzk => k_is)))
    (case b_Layoutinit => exact .all fun us hl => match us, hl with | [_, _], _ => rfl)
    (case d_law_kneaded => (refine' My.def_mk KX G ?zzg ?zzl ?zzc ?zzk; (case zzg => k_is); (case zzl => k_is); (case zzc => k_is); (case zzk => k_is)))
    (case d_law_pot_of => (refine' My.def_mk KX G ?zzg ?zzl ?zzc ?zzk; (case zzg => k_is); (case zzl => k_is); (case zzc => k_is); (case zzk => k_is)))
    (case d_law_below => (refine' My.def_mk KX G ?zzg ?zzl ?zzc ?zzk; (case zzg => k_is); (case zzl => k_is); (case zzc => k_is); (case zzk => k_is)))
    (case d_law_pick => (refine' My.def_mk KX G ?zzg ?zzl ?zzc ?zzk; (case zzg => k_is); (case zzl => k_is); (case zzc => k_is); (case zzk => k_is)))
    (case d_is_integer => (refine' My.def_mk KX G ?zzg ?zzl ?zzc ?zzk; (case zzg => k_is); (case zzl => k_is); (case zzc => k_is); (case zzk => k_is)))
    (case d_trimmed => (refine' My.def_mk KX G ?zzg ?zzl ?zzc ?zzk; (case zzg => k_is); (case zzl => k_is); (case zzc => k_is); (case zzk => k_is)))
    (case d_are_factors => (refine' My.def_mk KX G ?zzg ?zzl ?zzc ?zzk; (case zzg => k_is); (case zzl => k_is); (case zzc => k_is); (case zzk => k_is)))
    (case d_law_some_factors => (refine' My.def_mk KX G ?zzg ?zzl ?zzc ?zzk; (case zzg => k_is); (case zzl => k_is); (case zzc => k_is); (case zzk => k_is)))
    (case d_law_word => (refine' My.def_mk KX G ?zzg ?zzl ?zzc ?zzk; (case zzg => k_is); (case zzl => k_is); (case zzc => k_is); (case zzk => k_is)))
    (case d_law_due => (refine' My.def_mk KX G ?zzg ?zzl ?zzc ?zzk; (case zzg => k_is); (case zzl => k_is); (case zzc => k_is); (case zzk => k_is)))
    (case d_law => (refine' My.def_mk KX G ?zzg ?zzl ?zzc ?zzk; (case zzg => k_is); (case zzl => k_is); (case zzc => k_is); (case zzk => k_is)))
    (case b_law_kneaded => exact .all fun us hl => match us, hl with | [_, _], _ => rfl)
    (case b_law_pot_of => exact .all fun us hl => match us, hl with | [_], _ => rfl)
    (case b_law_below => exact .all fun us hl => match us, hl with | [_, _], _ => rfl)
    (case b_law_pick => exact .all fun us hl => match us, hl with | [_, _], _ => rfl)
    (case b_is_integer => exact .all fun us hl => match us, hl with | [_], _ => rfl)
    (case b_trimmed => exact .all fun us hl => match us, hl with | [_], _ => rfl)
    (case b_are_factors => exact .all fun us hl => match us, hl with | [_], _ => rfl)
    (case b_law_some_factors => exact .all fun us hl => match us, hl with | [_, _, _], _ => rfl)
    (case b_law_word => exact .all fun us hl => match us, hl with | [_], _ => rfl)
    (case b_law_due => exact .all fun us hl => match us, hl with | [_], _ => rfl)
    (case b_law => exact .all fun us hl => match us, hl with | [_], _ => rfl)
    (case n_int => k_is); (case n_range => k_is); (case n_abs => k_is); (case n_enumerate => k_is); (case n_len => k_is); (case n_isinstance => k_is); (case n_bool => k_is); (case n_list => k_is); (case n_tuple => k_is); (case n_all => k_is); (case n_repr => k_is)
    (case bindL => exact fun s v => .of_eq rfl)
