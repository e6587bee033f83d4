import PyProof.Rows.All
import Wide.All
import OpenK.AllK
import Wide.FinOn
import HandS.ForMost
import HandS.Walk
import HandS.IsInst
import HandS.Codes
import HandS.Exc
import HandS.ExcInit
import HandS.ExcIs
import HandS.ExcOwn
import HandS.ExcValue
import HandS.FStr
import KE.KExcSuper
import HandS.TryMany
import HandS.Strs
import HandS.Dict
import KE.KDictPairs
import HandS.Style
import HandS.TupAny
import KE.KRevSl
import HandS.TupMul
import HandS.Deep
import PyProof.StrLawsRepr
import HandS.Star
import HandS.SlotsOwn
import HandS.Property
import HandS.ClsMeth
import HandS.Wide
import HandS.Flt
import KE.KTupSum
import KE.KTupTruth
import KE.KOpsOwn
import HandS.ForExc
import HandS.WordsExc
import HandS.ExcField
import HandS.Defaults
import PySem.Challenge.RW_layoutswap_k03_layouts
set_option Elab.async false
set_option linter.all false
set_option maxRecDepth 100000
set_option maxHeartbeats 0
namespace My
open PySem PySem.Spec PyProof.Rows L2
/-! ### defs whose run shows containers: nothing is being shown around them -/
structure FnG (P : Program) (w : World) (K : PySem.W.Frag) (mg : Str → Option Value) (base : Heap) (CX : CXT) (k : Nat) (f : Addr) (fd : FuncData) (ps : List Str) (sp : Sp) : Prop where
  many : ∀ vs H Q E, sp vs H Q E → vs.length = ps.length
  go : ∀ {A : Around} {outer : List Env} {s : Shared} {H : Hp} {args : Args} {us : List Value} {vs : List V} {Q : VK} {E : XK}, Room k A → A.guards = some [] → Env0 P w K mg base A outer s H → BindsTo s fd args (ps.zip us) → Vals vs us →
    sp vs H Q E → codeAny (model P w) A (.call (.ref f) args) (CR CX outer P w H s Q E) s
theorem guards_deeper {A : Around} {env : Env} (h : A.guards = some []) : (A.deeper env).guards = some [] := by
  first | exact h | (simp [Around.deeper, h]; done)
section
variable {P : Program} {w : World} {K : PySem.W.Frag} {mg : Str → Option Value} {base : Heap} {CX : CXT} {k : Nat} {f : Addr} {fd : FuncData} {ps : List Str} {sp : Sp}
theorem FnG.of (F : FnOk P w K mg base CX k f fd ps sp) : FnG P w K mg base CX k f fd ps sp :=
  ⟨F.len, fun r _ e b v h => F.run _ _ _ _ _ _ _ _ _ r e b v h⟩
/-- a def by its body, where nothing is being shown -/
theorem go_of {x qual : Str} {st : Stmt} {N : List Str} (F : Fun K x qual st f fd) (S : FnScope N ps (defScope st)) (many : ∀ vs H Q E, sp vs H Q E → vs.length = ps.length)
    (hb : ∀ (cdv : Value) (A : Around) (outer : List Env) (s : Shared) (H : Hp) (vs : List V) (Q : VK) (E : XK), Room k (A.deeper (envOfC qual (defScope st) s.heap.objs.size f cdv)) → (A.deeper (envOfC qual (defScope st) s.heap.objs.size f cdv)).guards = some [] →
      sp vs H Q E → ∃ t, PSs (cxOf CX P w K mg base N qual (defScope st) f cdv A outer s H E) (defBody st) t ∧ t { nx := fun _ H' => Q .non H', rt := Q } (start N vs) H) : FnG P w K mg base CX (k + 1) f fd ps sp := by
  obtain ⟨oc, od, kV, doc, pm, an, cdv, ct, osl, e1, lk, hcd⟩ := F.ex
  subst e1
  refine ⟨many, ?_⟩
  intro A outer s H args us vs Q E room quiet e0 bind rel want
  have inK := e0.mod.kin.keeps (h' := s.heap) (fun b o z => (e0.bs b o z).1)
  have nolim := e0.mod.nolimit.keeps (h' := s.heap) (fun b o z => (e0.bs b o z).1)
  have kinds : ∀ y ∈ ps.zip us, (defScope st).names.lookup y.1 = some .local ∨ ((defScope st).names.lookup y.1 = some .cell ∧ ((cellsFrom (s.heap.objs.size + 1) (defScope st).names []).lookup y.1).isSome = true) := by
    rintro ⟨n, v⟩ hy
    have hn := (List.of_mem_zip hy).1
    cases S.par n hn with
    | inl z => exact Or.inl z
    | inr z => exact Or.inr ⟨z, PySem.W.cellsFrom_some _ _ _ (Or.inl z)⟩
  refine codeAny_call_function room.depth (inK _ _ lk) rfl S.co S.gen rfl (PySem.W.codeRec_of inK hcd) (bind _ _ _ _ (wpAny_newFunctionEnv_cells S.kind kinds ?_))
  rintro env rfl s1 ic
  obtain ⟨t, ht, ready⟩ := hb cdv A outer s H vs Q E (room.deeper _) (guards_deeper quiet) want
  have J : Inv (cxOf CX P w K mg base N qual (defScope st) f cdv A outer s H E) [] (start N vs) H s1 := inv_start S room.hd e0 (many _ _ _ _ want) rel ic
  refine ⟨nolim.keeps ic.toInCall.keep, codeAny_func (wpAny_mono (ht.run [] s1 _ H _ J ready) ?_ (fun _ _ z => z))⟩
  intro fl s' hs
  cases fl with
  | next =>
    obtain ⟨σ', H', J', q⟩ := hs
    exact ⟨V.non, H', J'.os, J'.bare, J'.base, J'.hok, rfl, q⟩
  | ret u =>
    obtain ⟨v, σ', H', J', rv, q⟩ := hs
    exact ⟨v, H', J'.os, J'.bare, J'.base, J'.hok, rv, q⟩
  | brk =>
    obtain ⟨_, _, _, z⟩ := hs
    exact (z : False).elim
  | cont =>
    obtain ⟨_, _, _, z⟩ := hs
    exact (z : False).elim
end
section
variable {X : Cx} {CX : CXT} {k : Nat} {f : Addr} {fd : FuncData} {ps : List Str} {sp : Sp} {dvs : List V} {ds : List Value} {E : XK} {x : Str} {p pos : Pos} {e : Expr} {es : List Expr} {t : TA}
/-- a call of such a def from where nothing is being shown -/
theorem pe_callG (F : FnG X.prog X.w X.K X.mg X.base CX k f fd ps sp) (hr : Room k X.A) (quiet : X.A.guards = some []) (hg : Gl X x) (hm : X.mg x = some (.ref f)) (hk : PySem.W.keepIn X.K (.ref f) = true) (hb : Binds X.K fd ps ds) (hd : Vals dvs ds) (hx : Passes CX X E)
    (ha : PA X (e :: es) t) (hdb : (x == ("__debug__" : Str)) = false := by decide) (he : starEach (e :: es) X.env = (false, eval e X.env) :: starEach es X.env := by rfl) (hpl : (backTo pos (starEach es X.env)).any (·.1) = false := by rfl) :
    PE X (.Call (.Name x p) (e :: es) [] pos) (tCall sp dvs E t) := by
  constructor
  intro pins s σ H Q I h
  have args := ha.run pos pins s σ H _ I h
  refine wpAny_Call_Name_kw (ld_glob I hg hm (PySem.W.callWith_K (h₀ := X.base) I.ok.mod.kin hk (thn args ?_) he hpl) hdb)
  rintro us s1 ⟨vs, H1, J, r, want⟩
  have rel := r.append hd
  refine ⟨J.kIn, wpAny_call (codeAny_mono (F.go (A := X.A) hr quiet J.env0 (hb s1 us J.kIn ?_) rel want) ?_)⟩
  · have z := rel.length
    rw [← z]
    exact F.many _ _ _ _ want
  · intro res s' hq
    match res, hq with
    | .error _, hq => exact hx pins σ H1 s1 _ s' J hq
    | .ok (.ret _), hq => exact J.after hq
    | .ok .next, hq => exact False.elim hq
    | .ok .brk, hq => exact False.elim hq
    | .ok .cont, hq => exact False.elim hq
end
/-! ### repr of data -/
structure rRepr (K : PySem.W.Frag) (xs : List V) (H : Hp) (Q : VK) : Prop where
  ex : ∃ x d, xs = [x] ∧ Dp K H x d ∧ d.showable = true ∧ d.canLay0 = true ∧ d.depth ≤ 60 ∧ d.shown.length ≤ sizeLine ∧ Q (.str d.shown) H
theorem call_repr {X : Cx} (quiet : X.A.guards = some []) (hu : X.A.units + 64 < cLine) : CallR X (.builtin "repr") (rRepr X.K) := by
  intro pins s σ H xs us Q I r h
  obtain ⟨x, d, rfl, hd, h1, h2, h3, h4, q⟩ := h
  obtain ⟨u, rfl, ru⟩ := vals1 r
  cases hd with
  | non =>
    cases (show u = Value.none from ru)
    exact PySem.P.repr_of_none ⟨.str "None", H, I.tok _, ⟨_, rfl⟩, by simpa only [PyData.shown] using q⟩
  | bl b =>
    cases (show u = Value.bool b from ru)
    exact PySem.P.repr_of_bool ⟨.str (if b then "True" else "False"), H, I.tok _, ⟨_, rfl⟩, by simpa only [PyData.shown] using q⟩
  | int i =>
    obtain ⟨tk, rfl⟩ := (show ∃ t, u = Value.int i t from ru)
    exact PySem.P.repr_of_int (by simpa only [PyData.showable, decide_eq_true_eq] using h1) ⟨V.str (Str.ofString (toString i)), H, I.tok _, ⟨_, rfl⟩, by simpa only [PyData.shown] using q⟩
  | str z =>
    obtain ⟨tk, rfl⟩ := (show ∃ t, u = Value.str z t from ru)
    exact PySem.P.repr_of_str ⟨.str (reprText z), H, I.tok _, ⟨_, rfl⟩, by simpa only [PyData.shown] using q⟩ (by simpa only [PyData.shown] using h4)
  | @lst a ys ds hs ha =>
    cases (show u = Value.ref a from ru)
    obtain ⟨as, rd⟩ := Dp.reads I (.list ds) (.ref a) (.ref a) (.lst hs ha) rfl
    exact PySem.repr_of_reads' rd h1 (PyData.noDict_hsm (PyData.hasDict_of_canLay _ h2)) quiet (by omega) (fun _ _ z => z) (fun h' v tk k => ⟨.str (PyData.list ds).shown, H, I.kept k, ⟨_, rfl⟩, q⟩) h4
  | @tup a ys ds hs ha =>
    cases (show u = Value.ref a from ru)
    obtain ⟨as, rd⟩ := Dp.reads I (.tuple ds) (.ref a) (.ref a) (.tup hs ha) rfl
    exact PySem.repr_of_reads' rd h1 (PyData.noDict_hsm (PyData.hasDict_of_canLay _ h2)) quiet (by omega) (fun _ _ z => z) (fun h' v tk k => ⟨.str (PyData.tuple ds).shown, H, I.kept k, ⟨_, rfl⟩, q⟩) h4
/-! ### the law's own call -/
/-- only the script may be tracked -/
def One (H : Hp) (a : Addr) : Prop := ∀ b, H b = none ∨ (b = a ∧ ∃ o xs, H b = some (.frz o (.lst xs)))
section
variable {P : Program} {w : World} {K : PySem.W.Frag} {mg mb : Str → Option Value} {k : Nat} {fa a : Addr} {fd : FuncData} {x : Str} {sp : Sp} {s₁ : Shared} {vs : List Value} {ns : List Int}
/-- a law's def run at its call, from an abstract heap that tracks the script or nothing -/
theorem top_run {H : Hp} (KX : K.In s₁.heap) (hns : s₁.heap.Ns mainGlobals mg) (hb : s₁.heap.Ns builtinsNs mb) (hbb : ∀ y : Str, y ≠ "__name__" → mb y = bootBuiltins y) (hlim : s₁.heap.NoLimit) (hg : s₁.gens = #[])
    (ha : s₁.heap.get? a = some { cls := .type "list", data := .seq vs.toArray }) (hr : Room k callerA) (hbind : ∀ (s : Shared) (u : Value), BindsTo s fd ⟨[u], []⟩ [(x, u)])
    (F : ∀ base : Heap, K.In base → base.Ns mainGlobals mg → FnG P w K mg base CX0 k fa fd [x] sp)
    (one : One H a) (free : H a ≠ none → K.lookup a = none) (ok : HOk P w H s₁.heap) (want : sp [.ref a] H (fun v _ => v = .bl true) fun _ _ _ => False) :
    codeAny (model P w) callerA (.call (.ref fa) ⟨[.ref a], []⟩) (fun r s' => r = .ok (.ret (.bool true)) ∧ OldK s₁.heap s'.heap ∧ s'.os = s₁.os ∧ AllBare s'.gens) s₁ := by
  have not_a : ∀ {b : Addr}, b ≠ a → H b = none := fun {b} n => (one b).elim id fun z => (n z.1).elim
  have seen : ∀ {b : Addr} {o : Obj}, s₁.heap.get? b = some o → H b = none → (hidT s₁.heap H).get? b = some o := hidT_get
  have dict_free : ∀ {b : Addr} {o : Obj} {es : Array DictEntry} {ep : Nat}, s₁.heap.get? b = some o → o.data = .dict es ep → H b = none := by
    intro b o es ep e1 e2
    refine not_a fun z => ?_
    subst z
    cases ha.symm.trans e1
    cases e2
  have keepNs : ∀ {b : Addr} {m : Str → Option Value}, s₁.heap.Ns b m → (hidT s₁.heap H).Ns b m := by
    rintro b m ⟨o, es, ep, e1, e2, e3⟩
    exact ⟨o, es, ep, seen e1 (dict_free e1 e2), e2, e3⟩
  have KB : K.In (hidT s₁.heap H) := by
    intro b o e
    refine seen (KX b o e) ?_
    by_cases z : b = a
    · subst z
      cases q : H b with
      | none => rfl
      | some u =>
        have z2 := free (by rw [q]; exact fun z => nomatch z)
        cases z2.symm.trans e
    · exact not_a z
  obtain ⟨ml, l1, l2⟩ := hlim
  have e0 : Env0 P w K mg (hidT s₁.heap H) callerA [] s₁ H := {
    frames := rfl
    mod := ⟨KB, keepNs hns, ⟨mb, keepNs hb, hbb⟩, ⟨ml, keepNs l1, l2⟩⟩
    bs := fun b o e => of_hidT e
    bsz := Nat.le_of_eq (hidT_size _ _)
    funs := trivial
    frf := fun b z => nomatch z
    hok := ok
    bare := .of_eq hg }
  refine codeAny_mono ((F _ KB (keepNs hns)).go (us := [.ref a]) (vs := [.ref a]) hr rfl e0 (hbind s₁ (.ref a)) (.cons rfl .nil) want) ?_
  intro r s' hq
  match r, hq with
  | .ok (.ret u), hq =>
    obtain ⟨v, H', os, bare, un, ok', rv, q⟩ := hq
    subst q
    cases (show u = Value.bool true from rv)
    refine ⟨rfl, OldK.of_keep ?_, os, bare⟩
    intro b o e
    rcases one b with z | ⟨_, ob, xs, z⟩
    · exact un.keep b o e z (fun z => nomatch z) (fun z => nomatch z)
    · have h1 : s₁.heap.get? b = some ob := (ok b _ z).1
      have h2 : s'.heap.get? b = some ob := (ok' b _ (un.frzs b ob _ z)).1
      rw [← h1.symm.trans e]
      exact h2
  | .ok .next, hq => exact False.elim hq
  | .ok .brk, hq => exact False.elim hq
  | .ok .cont, hq => exact False.elim hq
  | .error _, hq => exact False.elim hq
/-- .. from whatever the script is -/
theorem top_call (KX : K.In s₁.heap) (hns : s₁.heap.Ns mainGlobals mg) (hb : s₁.heap.Ns builtinsNs mb) (hbb : ∀ y : Str, y ≠ "__name__" → mb y = bootBuiltins y) (hlim : s₁.heap.NoLimit) (hg : s₁.gens = #[])
    (ha : s₁.heap.get? a = some { cls := .type "list", data := .seq vs.toArray }) (hi : IntsAre vs ns) (hl : ns.length ≤ sizeLine) (hr : Room k callerA) (hbind : ∀ (s : Shared) (u : Value), BindsTo s fd ⟨[u], []⟩ [(x, u)])
    (F : ∀ base : Heap, K.In base → base.Ns mainGlobals mg → FnG P w K mg base CX0 k fa fd [x] sp)
    (want : ∀ H : Hp, One H a → SqL K H a (ns.map V.int) → sp [.ref a] H (fun v _ => v = .bl true) fun _ _ _ => False) :
    codeAny (model P w) callerA (.call (.ref fa) ⟨[.ref a], []⟩) (fun r s' => r = .ok (.ret (.bool true)) ∧ OldK s₁.heap s'.heap ∧ s'.os = s₁.os ∧ AllBare s'.gens) s₁ := by
  have rv := vals_ints hi
  have len := hi.length
  cases hk : K.lookup a with
  | none =>
    let O : Obj := { cls := .type "list", data := .seq vs.toArray }
    let H : Hp := fun b => if b = a then some (.frz O (.lst (ns.map V.int))) else none
    have Ha : H a = some (.frz O (.lst (ns.map V.int))) := if_pos rfl
    have one : One H a := fun b => by
      by_cases z : b = a
      · exact .inr ⟨z, O, ns.map V.int, if_pos z⟩
      · exact .inl (if_neg z)
    refine top_run KX hns hb hbb hlim hg ha hr hbind F one (fun _ => hk) ?_ (want H one (.inl (.inr ⟨O, Ha⟩)))
    intro b u e
    rcases one b with z | ⟨z, _⟩
    · cases z.symm.trans e
    · subst z
      cases Ha.symm.trans e
      exact ⟨ha, by rw [List.length_map]; exact hl, vs, _, rv, ha⟩
  | some o =>
    cases (KX a o hk).symm.trans ha
    have one : One (fun _ => none) a := fun _ => .inl rfl
    refine top_run KX hns hb hbb hlim hg ha hr hbind F one (fun z => absurd rfl z) (fun _ _ z => nomatch z) (want _ one (.inr ⟨_, vs.toArray, _, hk, rfl, rfl, rfl, ?_, ?_⟩))
    · rw [List.size_toArray, len]
      exact hl
    · simpa using rv
end
/-- the end of a law whose def is FnG -/
theorem walk_ofG {l : PySem.W.OpenLaw} {n k : Nat} {q : Program} {loose : List Str} {XP : (Str → Option Value) → Heap → Prop} {YP : World → Heap → Prop} {d : DefRec} {K : Params → PySem.W.Frag} {sp : PySem.W.Frag → Sp} {x : Str}
    (hn : l.most = some n) (hn2 : n ≤ sizeLine) (hdf : d.params.defaults = []) (hr : Room k callerA) (hY : ∀ (w : World) (h : Heap), YP w h → (K w.params).In h)
    (F : ∀ (w : World) (mg : Str → Option Value) (fa : Addr) (h : Heap), (K w.params).In h → h.Ns mainGlobals mg → mg d.name = some (.ref fa) →
      ∃ fd : FuncData, (∀ (s : Shared) (u : Value), BindsTo s fd ⟨[u], []⟩ [(x, u)]) ∧ ∀ base : Heap, (K w.params).In base → base.Ns mainGlobals mg → FnG l.prog w (K w.params) mg base CX0 k fa fd [x] (sp (K w.params)))
    (want : ∀ (K : PySem.W.Frag) (H : Hp) (a : Addr) (ns : List Int), ns.length ≤ n → SqL K H a (ns.map V.int) → sp K [.ref a] H (fun v _ => v = .bl true) fun _ _ _ => False) :
    PySem.W.WalkO q loose XP YP l.row.toRowW d [] (fun f vs => PySem.call f vs) := by
  refine Att.attach_call hn hdf ?_
  intro w s₀ s₁ mg mb fa o pm cd doc a vs ns G Y ho hd hcd hmg hobj hints hlen hg
  obtain ⟨fd, hbind, hF⟩ := F w mg fa _ (hY w _ Y) G.T.g hmg
  exact top_call (hY w _ Y) G.T.g G.T.b G.T.builtins G.T.nolimit hg hobj hints (Nat.le_trans hlen hn2) hr hbind hF fun H _ hS => want _ H a ns hlen hS
/-! ### list(text), text * int -/
abbrev oneS (c : Nat) : Str := ⟨#[c]⟩
def rListS : List V → Hp → VK → Prop := fun xs H Q => ∃ z : Str, xs = [.str z] ∧ z.length ≤ sizeLine ∧ ∀ p, H p = none → Q (.ref p) (upd H p (.lst (z.cps.toList.map fun c => V.str (oneS c))))
theorem call_listS {X : Cx} (calm : X.calm = true) : CallR X (.type "list") rListS := by
  intro pins s σ H xs us Q I r h
  obtain ⟨z, rfl, hz, q⟩ := h
  obtain ⟨u, rfl, tk, rfl⟩ := vals1 r
  refine PySem.call_list_str (I.ok.hd calm) z tk (fun h' t acc c keep new items => ?_) hz
  refine ⟨.ref s.heap.objs.size, upd H s.heap.objs.size (.lst (z.cps.toList.map fun c => V.str (oneS c))), I.laid (t' := t) keep (Nat.le_refl _) ?_, rfl, q _ (I.hok.fresh (Nat.le_refl _))⟩
  refine ⟨?_, acc.toList, c, ?_, by rw [Array.toArray_toList]; exact new⟩
  · rw [List.length_map, Array.length_toList]
    exact hz
  · have len : acc.toList.length = z.cps.toList.length := by rw [Array.length_toList, Array.length_toList]; exact items.1
    have all : ∀ (cs : List Nat) (vs : List Value), vs.length = cs.length → (∀ (j : Nat) (v : Value), vs[j]? = some v → ∃ c u, cs[j]? = some c ∧ v = .str (oneS c) u) → Vals (cs.map fun c => V.str (oneS c)) vs := by
      intro cs
      induction cs with
      | nil =>
        intro vs hl _
        cases vs with
        | nil => exact .nil
        | cons => cases hl
      | cons a r ih =>
        intro vs hl hv
        cases vs with
        | nil => cases hl
        | cons v t =>
          obtain ⟨c, u, e1, e2⟩ := hv 0 v rfl
          cases e1
          exact .cons ⟨u, e2⟩ (ih t (Nat.succ.inj hl) fun j x e => hv (j + 1) x e)
    refine all _ _ len fun j v e => ?_
    rw [Array.getElem?_toList] at e
    obtain ⟨c, u, e1, e2⟩ := items.2 j v e
    exact ⟨c, u, by rw [Array.getElem?_toList]; exact e1, e2⟩
def rRepS : R2 := fun x y H Q => ∃ z n, x = .str z ∧ y = .int n ∧ MulOk z n ∧ Q (.str (Txt.mul z n)) H
theorem op_repS {X : Cx} : OpR X (binaryOp .Mult) rRepS := by
  intro pins s σ H x y v u Q I rx ry h
  obtain ⟨z, n, rfl, rfl, ok, q⟩ := h
  obtain ⟨tx, rfl⟩ := rx
  obtain ⟨ty, rfl⟩ := ry
  exact PySem.SB.mul ok fun t' k => ⟨.str (Txt.mul z n), H, I.tok _, ⟨_, rfl⟩, q⟩
/-- texts joined by nothing -/
theorem joinL_nil : ∀ l : List (List Nat), TL.joinL [] l = l.flatten
  | [] => rfl
  | [p] => by simp [TL.joinL]
  | p :: q :: r => by
    have h := joinL_nil (q :: r)
    show p ++ ([] ++ TL.joinL [] (q :: r)) = _
    rw [h]
    simp
theorem tl_join0 (ys : List Str) : (Txt.join "" ys).cps.toList = (ys.map fun y => y.cps.toList).flatten := by
  rw [TL.join_eq]
  have h := TL.tl_join "" ys
  have h2 : TL.tl ("" : Str) = [] := by decide +kernel
  rw [h2, joinL_nil] at h
  exact h
end My

namespace My
open PySem PySem.Spec PyProof.Rows L2
/-! ### own errors whose __init__ says super().__init__(text) -/
structure SupScope (N ps : List Str) (sc : Scope) : Prop where
  kind : sc.kind = .function
  co : sc.isCoroutine = false
  gen : sc.isGenerator = false
  nd : N.Nodup
  pre : N.take ps.length = ps
  par : ∀ x ∈ ps, sc.names.lookup x = some .local
  nocell : ∀ y ∈ sc.names, y.2 ≠ .cell
  sup : sc.names.lookup ("super" : Str) = some .globalImplicit
  cls : sc.names.lookup ("__class__" : Str) = some .free
  free : ∀ y ∈ sc.names, y.2 = .free → y.1 = ("__class__" : Str)
abbrev supEnv (qual : Str) (sc : Scope) (L f cda cc : Addr) : Env := PySem.W.ksEnv qual sc L f (.ref cda) cc
/-- such an __init__'s body running -/
def cxS (P : Program) (w : World) (K : PySem.W.Frag) (mg : Str → Option Value) (base : Heap) (N : List Str) (qual : Str) (sc : Scope) (f cda cc : Addr) (A : Around) (outer : List Env) (s : Shared) (H : Hp) : Cx where
  prog := P
  w := w
  K := K
  mg := mg
  base := base
  A := A.deeper (supEnv qual sc s.heap.objs.size f cda cc)
  N := N
  s_0 := s
  H_0 := H
  env := supEnv qual sc s.heap.objs.size f cda cc
  outer := outer
  stack := supEnv qual sc s.heap.objs.size f cda cc :: outer
  ex := []
  calm := true
  fn := fun x => !(x == ("__class__" : Str))
  pn := []
  xe := fun _ _ => False
theorem cells_one {cc c : Addr} {x : Str} (h : List.lookup x [(("__class__" : Str), cc)] = some c) : x = "__class__" ∧ c = cc := by
  rw [List.lookup_cons] at h
  split at h
  · rename_i e
    exact ⟨beq_iff_eq.mp e, (Option.some.inj h).symm⟩
  · cases h
theorem lookup_mem {y : Str} {u : Value} : ∀ {l : List (Str × Value)}, (l.map (·.1)).Nodup → (y, u) ∈ l → l.lookup y = some u
  | [], _, h => nomatch h
  | (z, v) :: r, hn, h => by
    rw [List.map_cons, List.nodup_cons] at hn
    rw [List.lookup_cons]
    rcases List.mem_cons.mp h with e | h
    · cases e
      simp
    · have ne : (y == z) = false := by
        refine beq_eq_false_iff_ne.mpr fun e => hn.1 ?_
        rw [← e]
        exact List.mem_map.mpr ⟨(y, u), h, rfl⟩
      rw [ne]
      exact lookup_mem hn.2 h
theorem zip_sub : ∀ (ps : List Str) (us : List Value), ((ps.zip us).map fun q : Str × Value => q.1).Sublist ps
  | [], _ => List.Sublist.refl _
  | _ :: _, [] => List.nil_sublist _
  | p :: ps, u :: us => List.Sublist.cons_cons _ (zip_sub ps us)
theorem zip_lookup {ps : List Str} {us : List Value} {i : Nat} {y : Str} {u : Value} (hn : ps.Nodup) (h1 : ps[i]? = some y) (h2 : us[i]? = some u) : (ps.zip us).reverse.lookup y = some u := by
  refine lookup_mem ?_ ?_
  · rw [List.map_reverse]
    refine List.pairwise_reverse.mpr (List.Pairwise.imp (R := fun a b => a ≠ b) (fun z => Ne.symm z) ?_)
    refine List.Pairwise.sublist ?_ hn
    exact zip_sub ps us
  · rw [List.mem_reverse]
    refine List.mem_of_getElem? (i := i) ?_
    rw [List.getElem?_zip_eq_some]
    exact ⟨h1, h2⟩
section
variable {P : Program} {w : World} {K : PySem.W.Frag} {mg : Str → Option Value} {base : Heap} {N ps : List Str} {qual : Str} {sc : Scope} {f cda cc : Addr} {A : Around} {outer : List Env} {s : Shared} {H : Hp} {us : List Value} {vs : List V}
theorem sup_start {oc : Obj} {v0 : Value} (S : SupScope N ps sc) (hd : A.handled = none) (e0 : Env0 P w K mg base A outer s H) (hl : vs.length = ps.length) (r : Vals vs us) (hc : K.lookup cc = some oc) (hcd : oc.data = .cell (some v0))
    {h : Heap} {t : Nat} (ns : h.Ns s.heap.objs.size (fun x => (ps.zip us).reverse.lookup x)) (keep : ∀ b o, s.heap.get? b = some o → h.get? b = some o) :
    Inv (cxS P w K mg base N qual sc f cda cc A outer s H) [] (L2.start N vs) H { s with heap := h, toks := t } := by
  have noA : ∀ b : Addr, b ∉ (cxS P w K mg base N qual sc f cda cc A outer s H).ex := fun b z => nomatch z
  have cB : base.get? cc = some oc := e0.mod.kin _ _ hc
  have cS := e0.bs _ _ cB
  have pl : ps.length ≤ N.length := by
    have z := congrArg List.length S.pre
    rw [List.length_take] at z
    omega
  constructor
  · constructor
    · exact e0.mod
    · exact S.kind
    · rfl
    · rfl
    · exact Nat.le_refl _
    · intro x y c h1 h2
      exact (cells_one h1).1.trans (cells_one h2).1.symm
    · intro x hx
      have hx : sc.names.lookup x = some .cell ∨ sc.names.lookup x = some .free := hx
      rcases hx with z | z
      · exact absurd rfl (S.nocell _ (PySem.mem_of_lookup z))
      · have e := S.free _ (PySem.mem_of_lookup z) rfl
        exact ⟨cc, by show List.lookup x [(("__class__" : Str), cc)] = some cc; rw [show x = "__class__" from e]; rfl⟩
    · intro x c h1 h2
      have e := (cells_one h2).1
      subst e
      exact absurd (show (!((("__class__" : Str)) == ("__class__" : Str))) = true from h1) (by decide)
    · exact fun _ => hd
    · exact Around.frames_deeper e0.frames
    · exact .inr ⟨rfl, rfl⟩
    · exact fun b z => absurd z (noA b)
    · exact e0.bs
    · exact e0.bsz
    · exact fun b _ _ => noA b
    · exact fun b z => absurd z (noA b)
    · exact e0.funs
    · exact e0.frf
  · rfl
  · exact e0.bare
  · exact Un.kept keep
  · refine ⟨_, ns, fun i y v h1 h2 h3 => ?_⟩
    have hi : i < vs.length := by
      by_cases z : i < vs.length
      · exact z
      · unfold L2.start at h2
        rw [List.getElem?_append_right (by simpa using z), List.getElem?_replicate] at h2
        split at h2 <;> cases h2
    have ha : vs[i]? = some v := by
      unfold L2.start at h2
      rw [List.getElem?_append_left (by simpa using hi), List.getElem?_map, List.getElem?_eq_getElem hi] at h2
      rw [List.getElem?_eq_getElem hi]
      exact Option.some.inj h2
    obtain ⟨u, hu, rv⟩ := r.get ha
    have hp : ps[i]? = some y := by
      rw [← S.pre, List.getElem?_take_of_lt (by omega)]
      exact h1
    have ndp : ps.Nodup := by
      rw [← S.pre]
      exact S.nd.sublist (List.take_sublist _ _)
    refine ⟨u, rv, .inl ⟨S.par y (List.mem_of_getElem? hp), ?_⟩⟩
    exact zip_lookup ndp hp hu
  · intro x c h1
    obtain ⟨_, rfl⟩ := cells_one h1
    exact ⟨_, oc, keep _ _ cS.1, hcd⟩
  · exact e0.hok.fresh (Nat.le_refl _)
  · intro x c h1
    obtain ⟨_, rfl⟩ := cells_one h1
    exact cS.2
  · exact fun p z => nomatch z
  · exact e0.hok.kept keep
  · show (L2.start N vs).length = N.length
    unfold L2.start
    rw [List.length_append, List.length_map, List.length_replicate]
    omega
end
/-- the built-in __init__ bound to an exception, called: its args are laid anew -/
theorem mw_call {prog : Program} {w : World} {A : Around} {E : Value → Shared → Prop} {h : Heap} {g : Array GenState} {d : Drawn} {t : Nat} {os : OsState} {nm q : Str} {C N u x t0 : Addr} {bs bm : List Value} {hdct : Bool} {sn : List Str} {sub : List Value} {ab : Bool} {col : Option Bool}
    {dd : Option Addr} {k0 k1 k2 k3 k5 : Option Value} {rest : List Value} {Q : Value → Shared → Prop} (hC : h.get? C = some (excClassObj nm q C N bs bm hdct sn sub ab col dd k0 k1 k2 k3 k5 "ValueError.__new__")) (hu : h.get? u = some (PySem.W.kxs_mw "ValueError.__init__" x))
    (he : h.get? x = some (PySem.HandSPX.excO C t0)) (hz : rest.length ≤ sizeLine)
    (hq : ∀ h' t1, (∀ b o, b ≠ x → h.get? b = some o → h'.get? b = some o) → h'.get? x = some (PySem.HandSPX.excO C t1) → Q .none ⟨h', g, d, t, os⟩) :
    wpAny (model prog w) A (call (.ref u) rest) Q E ⟨h, g, d, t, os⟩ := by
  refine wpAny_call (codeAny_of_tree ?_)
  show wpAny _ A.in1 (callAny (.ref u) ⟨rest, []⟩) _ _ _
  unfold callAny
  refine wpAny_bind (wpAny_load hu ?_)
  have k : (Value.type "method-wrapper" == Value.type "method" || Value.type "method-wrapper" == Value.type "builtin_function_or_method" || Value.type "method-wrapper" == Value.type "method-wrapper") = true := by decide
  simp only [PySem.W.kxs_mw, k, if_true]
  refine PySem.W.KFB.if_so (by decide) ?_
  refine wpAny_bind (PySem.W.check_bound_init F.excBase_ValueError.toExcCallFacts hC he rfl ?_)
  refine wpAny_bind (wpAny_pure (wpAny_pure ⟨plainId_quiet F.excBase_ValueError.init.plain _, codeAny_builtin F.excBase_ValueError.initEntry ?_⟩))
  exact PySem.W.exc_init_tree (cls := .ref C) (t0 := t0) (dv := none) (c2 := .none) (c3 := .none) (b4 := .bool false) he hz fun h' k1 k2 _ => hq h' h.objs.size k1 k2
/-- what the text and the top say of such a class -/
structure SupCls (P : Program) (K : PySem.W.Frag) (mg : Str → Option Value) (x qual : Str) (st : Stmt) (C fI cc cda : Addr) (fd : FuncData) : Prop where
  gC : mg x = some (.ref C)
  ox : OexC K C
  iC : PySem.W.findIn K (.ref C) "__init__" = some (some (.ref fI))
  tI : PySem.W.typeIn K (.ref fI) = some (.type "function")
  fn : ∃ (oc : Value) (od : Option Addr) (doc pm : Value) (an : Option Addr) (ct : Value) (osl : Array (Option Value)), fd = PySem.W.ksFn "__init__" qual (defArgs st) (defBody st) (defScope st) .none .none doc pm an (.ref cda) ct cc ∧ K.lookup fI = some ⟨oc, od, .func fd, osl⟩
  cdq : PySem.W.codeIn K (.ref cda) qual = true
  code : ∃ (ccl : Value) (cdd : Option Addr) (vs : Array Value) (ccs : Array (Option Value)) (file : Str) (tf : Tok), K.lookup cda = some ⟨ccl, cdd, .fields vs, ccs⟩ ∧ vs[2]? = some (.str file tf) ∧ ((P.main.file : Str) == file) = true
  cell : ∃ (cl : Value) (cld : Option Addr) (csl : Array (Option Value)), K.lookup cc = some ⟨cl, cld, .cell (some (.ref C)), csl⟩
  sub : PySem.W.mroIn K C (.ref C) = some true
  noS : mg "super" = none
  anyC : PySem.W.nsIn K cStatics "thirdparty.any" = some none
  supI : PySem.W.ks_superIn K C C "__init__" = some (some (.builtin "ValueError.__init__"))
  subV : PySem.W.subIn K (.ref C) (.type "ValueError") = some true
  noTop : (P.main.scope.names.lookup ("super" : Str)).isSome = false
theorem boot_super : bootBuiltins "super" = some (.type "super") := by decide +kernel
section
variable {P : Program} {w : World} {K : PySem.W.Frag} {mg : Str → Option Value} {base : Heap}
theorem ok_sup {x qual : Str} {st : Stmt} {C fI cc cda : Addr} {fd : FuncData} {N ps : List Str} {ar : Arg} {k : Nat} {sp : Sp} {p0 p1 p2 p3 p4 : Pos} {msg : Expr} {rest : List Stmt} (T : SupCls P K mg x qual st C fI cc cda fd) (S : SupScope N ps (defScope st))
    (hp : ((defArgs st).posonlyargs ++ (defArgs st).args).head? = some ar) (hps : ps[0]? = some ar.arg) (hbody : defBody st = .Expr (.Call (.Attribute (.Call (.Name "super" p0) [] [] p1) "__init__" p2) [msg] [] p3) p4 :: rest)
    {pl : Sem Bool} (hev : ∀ L : Addr, eval (.Call (.Attribute (.Call (.Name "super" p0) [] [] p1) "__init__" p2) [msg] [] p3) (supEnv qual (defScope st) L fI cda cc) = (do
      let ov ← attributeBase (.Call (.Name "super" p0) [] [] p1) "__init__" (supEnv qual (defScope st) L fI cda cc) (eval (.Call (.Name "super" p0) [] [] p1) (supEnv qual (defScope st) L fI cda cc))
      standAt p2.atName
      let (f, first) ← holding [ov] (getMethod ov "__init__" pl)
      callWith p3 f first (backTo p3 (starEach [msg] (supEnv qual (defScope st) L fI cda cc))) []))
    (hst : ∀ L : Addr, starEach [msg] (supEnv qual (defScope st) L fI cda cc) = [(false, eval msg (supEnv qual (defScope st) L fI cda cc))])
    (len : ∀ vs H Q E, sp vs H Q E → vs.length = ps.length)
    (hb : ∀ (A : Around) (outer : List Env) (s : Shared) (H : Hp) (vs : List V) (Q : VK) (E : XK), Room k (A.deeper (supEnv qual (defScope st) s.heap.objs.size fI cda cc)) → sp vs H Q E →
      ∃ (a : Addr) (tm : TE) (t : TS), vs[0]? = some (.ref a) ∧ H a = some (exo a C none) ∧ PE (cxS P w K mg base N qual (defScope st) fI cda cc A outer s H) msg tm ∧ PSs (cxS P w K mg base N qual (defScope st) fI cda cc A outer s H) rest t ∧
        tm (L2.start N vs) H fun _ H1 => H1 a = some (exo a C none) ∧ t { nx := fun _ H' => Q .non H', rt := Q } (L2.start N vs) H1) :
    FnOk P w K mg base CX0 (k + 1) fI fd ps sp := by
  refine ⟨len, fun A outer s H args us vs Q E hr e0 bind r want => ?_⟩
  obtain ⟨oc, od, doc, pm, an, ct, osl, rfl, lk⟩ := T.fn
  obtain ⟨ccl, cdd, cvs, ccs, file, tf, lkc, hv2, hfile⟩ := T.code
  obtain ⟨cl, cld, csl, lcc⟩ := T.cell
  obtain ⟨nm, qn, NS, bs, bm, sn, sub, ab, col, dd, k0, k1, k2, k3, k5, hC, hbm⟩ := T.ox.cls
  have hl := len _ _ _ _ want
  have KX : K.In s.heap := e0.mod.kin.keeps fun b o z => (e0.bs b o z).1
  have lim : s.heap.NoLimit := e0.mod.nolimit.keeps fun b o z => (e0.bs b o z).1
  obtain ⟨a, tm, t, h0, hexo, pm1, prest, ready⟩ := hb A outer s H vs Q E (hr.deeper _) want
  refine PySem.ks_codeAny_call_defAt (body := defBody st) hr.depth (KX _ _ lk) rfl lim (PySem.W.codeRec_of KX T.cdq) rfl bind S.nocell (fun y hy => ?_) (fun hh hns hk => ?_) S.co S.gen S.kind
  · exact S.par _ (List.of_mem_zip (a := y.1) (b := y.2) hy).1
  have I0 : Inv (cxS P w K mg base N qual (defScope st) fI cda cc A outer s H) [] (L2.start N vs) H { s with heap := hh, toks := s.toks + (ps.zip us).length } := sup_start S hr.hd e0 hl r lcc rfl hns hk
  have KH : K.In hh := KX.keeps hk
  have v0 : us[0]? = some (.ref a) := by
    obtain ⟨u, hu, ru⟩ := r.get h0
    cases (show u = Value.ref a from ru)
    exact hu
  obtain ⟨t0, hea⟩ := exo_at I0.hok hexo
  have hea : hh.get? a = some (PySem.HandSPX.excO C t0) := hea
  -- super().__init__(msg)
  show PySem.wpAt (model P w) (A.deeper (supEnv qual (defScope st) s.heap.objs.size fI cda cc)) (.func (defBody st) (supEnv qual (defScope st) s.heap.objs.size fI cda cc)) (execs (defBody st) (supEnv qual (defScope st) s.heap.objs.size fI cda cc)) _ _ _
  rw [show execs (defBody st) (supEnv qual (defScope st) s.heap.objs.size fI cda cc) = execs (.Expr (.Call (.Attribute (.Call (.Name "super" p0) [] [] p1) "__init__" p2) [msg] [] p3) p4 :: rest) (supEnv qual (defScope st) s.heap.objs.size fI cda cc) from congrArg (fun b => execs b _) hbody]
  obtain ⟨mL, glob, blt⟩ : (∃ m, (⟨hh, s.gens, s.drawn, s.toks + (ps.zip us).length, s.os⟩ : Shared).heap.Ns s.heap.objs.size m) ∧ hh.Ns mainGlobals mg ∧ ∃ mb, hh.Ns builtinsNs mb ∧ ∀ y : Str, y ≠ "__name__" → mb y = bootBuiltins y := by
    refine ⟨⟨_, hns⟩, e0.mod.glob.keeps I0.bk, ?_⟩
    obtain ⟨mb, b1, b2⟩ := e0.mod.blt
    exact ⟨mb, b1.keeps I0.bk, b2⟩
  obtain ⟨mb, b1, b2⟩ := blt
  obtain ⟨cdD, hcdD, oD, hoD, hoD2⟩ : ∃ cdD, PySem.W.clsIn K C = some cdD ∧ ∃ oD, hh.get? C = some oD ∧ oD.data = .cls cdD := by
    refine ⟨{ name := nm, bases := bs, mro := .ref C :: bm, ns := NS, qualname := qn, hasDict := true, slotNames := sn, subclasses := sub, abstract := ab, collection := col, hasDel := false }, ?_, _, KH _ _ hC, rfl⟩
    unfold PySem.W.clsIn
    rw [hC] <;> rfl
  refine PySem.ks_wpAt_execs_cons (PySem.ks_wpAt_Expr_any (PySem.ks_wpAt_MethodCall (pl := pl) ?_ (hev _)) (by unfold interactive; rw [show (supEnv qual (defScope st) s.heap.objs.size fI cda cc).scope.kind = .function from S.kind]; rfl) (by rfl))
  refine PySem.ks_wpAt_super_base (env := supEnv qual (defScope st) s.heap.objs.size fI cda cc) S.sup S.cls (by decide) rfl (KH _ _ lk) rfl hp rfl (KH _ _ lkc) rfl hv2 hfile T.noTop ?_
  refine PySem.W.ks_loadName_global S.kind S.sup (PySem.Calls.loadGlobal_builtin (env := supEnv qual (defScope st) s.heap.objs.size fI cda cc) glob T.noS b1 ((b2 _ (by decide)).trans boot_super) ⟨rfl, ?_⟩)
  refine wpAny_loadName_free S.kind S.cls rfl ⟨_, KH _ _ lcc, rfl⟩ ?_
  refine wpAny_loadName_local S.kind (S.par _ (List.mem_of_getElem? hps)) hns (zip_lookup (i := 0) (by rw [← S.pre]; exact S.nd.sublist (List.take_sublist _ _)) hps v0) ?_
  refine PySem.ks_wpAny_isType_cls hoD hoD2 ⟨rfl, ?_⟩
  refine PySem.ks_wpAny_call_super hoD hoD2 hea rfl (fun c e => nomatch e) (PySem.W.looks_mroIn KH T.sub) (fun h1 hso k1 => ?_)
  have KH1 : K.In h1 := KH.keeps k1
  have hea1 := k1 _ _ hea
  have inst : PySem.W.InstAt h1 a (PySem.HandSPX.excO C t0) C none := ⟨hea1, rfl, rfl, trivial⟩
  have along : PySem.W.alongIn K "__init__" ((cdD.mro.dropWhile (· != .ref C)).drop 1) = some (some (.builtin "ValueError.__init__")) := by
    have z := T.supI
    unfold PySem.W.ks_superIn at z
    rw [hcdD] at z
    exact z
  refine PySem.W.kxs_getMethod PySem.W.kxs_ValueError hso (PySem.W.looks_opaque KH1 T.anyC) (l₀ := cdD.mro) (fun A Q E s k q => wpAny_bind ((PySem.W.looks_clsIn KH1 hcdD) A _ E s k (wpAny_pure q))) rfl KH1 along
    (inst.type.andThen (PySem.W.looks_subIn KH1 T.subV)) (PySem.W.ks_ne KH1 inst hcdD) (by decide) ?_
  show wpAny _ _ (callWith p3 (.ref h1.objs.size) [] (backTo p3 (starEach [msg] (supEnv qual (defScope st) s.heap.objs.size fI cda cc))) []) _ _ _
  rw [hst]
  generalize hu : h1.objs.size = u
  have k2 : ∀ b o, h1.get? b = some o → (h1.push (PySem.W.kxs_mw "ValueError.__init__" a)).get? b = some o := fun b o z => Heap.get?_push_of_some _ z
  have hmw : (h1.push (PySem.W.kxs_mw "ValueError.__init__" a)).get? u = some (PySem.W.kxs_mw "ValueError.__init__" a) := by rw [← hu]; exact Heap.get?_push_size _ rfl
  have I2 := I0.kept (h' := h1.push (PySem.W.kxs_mw "ValueError.__init__" a)) (t' := s.toks + (ps.zip us).length + 1) (fun b o z => k2 b o (k1 b o z))
  have uH : H u = none := by
    rw [← hu]
    exact I0.hok.fresh (Nat.le_of_lt (Heap.lt_size hso))
  have I3 : Inv (cxS P w K mg base N qual (defScope st) fI cda cc A outer s H) [(u, PySem.W.kxs_mw "ValueError.__init__" a)] (L2.start N vs) H _ := I2.pins_of (by
    intro p hp
    rw [List.mem_singleton.mp hp]
    refine ⟨hmw, uH, ?_, ?_, fun v z => nomatch z⟩
    · have z1 : s.heap.objs.size < hh.objs.size := hns.lt
      have z2 := Heap.lt_size hso
      rw [hu] at z2
      exact Nat.ne_of_gt (Nat.lt_trans z1 z2)
    · refine I0.nofs ?_
      rw [← hu]
      exact Nat.le_of_lt (Heap.lt_size hso))
  refine PySem.W.kxs_callWith (i := "ValueError.__init__") (x := a) rfl (PySem.Calls.evalArgs_plain ?_)
  refine PySem.Calls.spliced_cons (wpAny_mono (pm1.run _ _ _ _ _ I3 ready) ?_ (fun _ _ z => z.elim))
  rintro v s1 ⟨y, H1, I4, ry, hexo1, ready1⟩
  refine PySem.Calls.spliced_nil ⟨(I4.pin (u, _) (List.mem_append_right _ List.mem_cons_self)).1, ?_⟩
  obtain ⟨t1, he1⟩ := exo_at I4.hok hexo1
  have hmw1 := (I4.pin (u, _) (List.mem_append_right _ List.mem_cons_self)).1
  have KH4 := I4.kIn
  obtain ⟨hp4, g4, d4, tk4, os4⟩ := s1
  refine mw_call (KH4 _ _ hC) hmw1 he1 (by show 1 ≤ sizeLine; decide) (fun h5 t5 keep5 he5 => ?_)
  have I5 := I4.write (t' := tk4) (x := a) (e := a) (o := exo a C none) (by rw [hexo1]; exact True.intro) (.inl rfl) keep5 ⟨_, he5⟩ (exo_ok he5)
  have eH : upd H1 a (exo a C none) = H1 := by
    funext b
    by_cases hb : b = a
    · rw [hb, upd_same, hexo1]
    · rw [upd_ne hb]
  rw [eH] at I5
  refine PySem.wpAt_of_wpAny (wpAny_mono (prest.run _ _ _ _ _ I5 ready1) ?_ (fun _ _ z => z.elim))
  intro fl s' hs
  cases fl with
  | next =>
    obtain ⟨σ', H', J, q⟩ := hs
    exact ⟨V.non, H', J.os, J.bare, J.base, J.hok, rfl, q⟩
  | ret z =>
    obtain ⟨v', σ', H', J, rv, q⟩ := hs
    exact ⟨v', H', J.os, J.bare, J.base, J.hok, rv, q⟩
  | brk =>
    obtain ⟨_, _, _, z⟩ := hs
    exact (z : False).elim
  | cont =>
    obtain ⟨_, _, _, z⟩ := hs
    exact (z : False).elim
end
/-! ### such an error as a value -/
/-- C(e, ..) as a value: a new error at a, its dict at d -/
def tNewE (C : Addr) (sp : Sp) (ta : TA) : TE := fun σ H Q => ta σ H fun vs H1 => vs.length ≤ 1000 ∧ ∀ a, H1 a = none → sp (.ref a :: vs) (upd H1 a (exo a C none)) (fun v H2 => v = .non ∧ H1 a = none ∧ Q (.ref a) H2) fun _ _ _ => False
theorem pe_oex {X : Cx} {x : Str} {C fI : Addr} {k : Nat} {fd : FuncData} {ps : List Str} {sp : Sp} {e : Expr} {es : List Expr} {ta : TA} {p pos : Pos} (T : OexC X.K C) (iC : PySem.W.findIn X.K (.ref C) "__init__" = some (some (.ref fI))) (tI : PySem.W.typeIn X.K (.ref fI) = some (.type "function"))
    (F1 : FnOk X.prog X.w X.K X.mg X.base CX0 k fI fd ps sp) (hr : Room (k + 1) X.A) (hb : Binds X.K fd ps []) (hg : Gl X x) (hm : X.mg x = some (.ref C)) (ha : PA X (e :: es) ta)
    (hdb : (x == ("__debug__" : Str)) = false := by decide) (he : starEach (e :: es) X.env = (false, eval e X.env) :: starEach es X.env := by rfl) (hpl : (backTo pos (starEach es X.env)).any (·.1) = false := by rfl) :
    PE X (.Call (.Name x p) (e :: es) [] pos) (tNewE C sp ta) := by
  constructor
  intro pins s σ H Q I h
  obtain ⟨nm, q, N, bs, bm, sn, sub, ab, col, dd, k0, k1, k2, k3, k5, hC, hbm⟩ := T.cls
  have args := ha.run pos pins s σ H _ I h
  refine wpAny_Call_Name_kw (ld_glob I hg hm (PySem.W.callWith_K (h₀ := X.base) I.ok.mod.kin T.kC (thn args ?_) he hpl) hdb)
  rintro us s1 ⟨vs, H1, J, r1, hz, want⟩
  refine ⟨J.kIn, ?_⟩
  show wpAny _ _ (call (.ref C) us) _ _ _
  obtain ⟨hp, g, dr, tk, os⟩ := s1
  let a := hp.objs.size + 1
  let h2 : Heap := (hp.push (PySem.W.kdv_tup us)).push (PySem.HandSPX.excO C hp.objs.size)
  have big : hp.objs.size ≤ a := Nat.le_succ _
  have na : H1 a = none := J.hok.fresh big
  have keep : ∀ b o, hp.get? b = some o → h2.get? b = some o := fun b o z => Heap.get?_push_of_some _ (Heap.get?_push_of_some _ z)
  have at2 : h2.get? a = some (PySem.HandSPX.excO C hp.objs.size) := by
    show ((hp.push (PySem.W.kdv_tup us)).push (PySem.HandSPX.excO C hp.objs.size)).get? (hp.objs.size + 1) = _
    heap_get
  have J2 : Inv X pins σ (upd H1 a (exo a C none)) ⟨h2, g, dr, tk, os⟩ := J.laid (t' := tk) (a := a) (o := exo a C none) (h' := h2) keep big (exo_ok at2)
  have rel : Vals (V.ref a :: vs) (Value.ref a :: us) := .cons rfl r1
  have ready := want a na
  have len : (Value.ref a :: us).length = ps.length := by
    rw [← rel.length]
    exact F1.len _ _ _ _ ready
  have lus : us.length ≤ sizeLine := by
    rw [← r1.length, sizeLine_eq]
    omega
  have rel0 : Vals (V.ref a :: vs) (Value.ref a :: us ++ []) := by
    rw [List.append_nil]
    exact rel
  refine wpAny_call (PySem.HandSPX.call_own F.excBase_ValueError (fun Y => PySem.HandSPX.refsVE_contains Y bm hbm) (J.kIn _ _ hC) (PySem.W.looks_findIn J.kIn iC) (fun self => PySem.W.bind_fn J.kIn self tI) lus
    (codeAny_mono (F1.run _ X.stack _ _ ⟨Value.ref a :: us, []⟩ (Value.ref a :: us ++ []) (V.ref a :: vs) _ (fun _ _ _ => False) (hr.make C us []) (J2.env0.make C us []) (hb _ (Value.ref a :: us) J2.kIn (by rw [List.append_nil]; exact len)) rel0 ready) ?_))
  intro r s' hq
  match r, hq with
  | .error _, hq => exact (hq : False).elim
  | .ok .next, hq => exact False.elim hq
  | .ok .brk, hq => exact False.elim hq
  | .ok .cont, hq => exact False.elim hq
  | .ok (.ret u), hq =>
    obtain ⟨v, H2, os2, bare2, un2, ok2, rv, ev, _, q2⟩ := hq
    subst ev
    obtain ⟨hh2, g2, d2, t2, os'⟩ := s'
    exact ⟨rv, .ref a, H2, J2.call' (ch := []) os2 un2 ok2 bare2 (fun b z => nomatch z), rfl, q2⟩
/-! ### e.f of such an error that is tracked -/
def tExf (K : PySem.W.Frag) (f : Str) (te : TE) : TE := fun σ H Q => te σ H fun x H1 => ∃ (a C d : Addr) (fs : List (Str × V)) (v : V), x = .ref a ∧ ExcC K C ∧ PySem.W.findIn K (.ref C) f = some none ∧ H1 a = some (exo a C (some d)) ∧ H1 d = some (exd d fs) ∧ fs.lookup f = some v ∧ Q v H1
theorem pe_exf {X : Cx} {e : Expr} {te : TE} {pos : Pos} {n : Str} (he : PE X e te) (hb : attributeBase e n X.env (eval e X.env) = eval e X.env := by rfl) : PE X (.Attribute e n pos) (tExf X.K n te) := by
  constructor
  intro pins s σ H Q I h
  refine attr_of hb (thn (he.run pins s σ H _ I h) ?_)
  rintro u s1 ⟨x, H1, J, rx, a, C, d, fs, v, rfl, T, hno, ea, ed, hl, q⟩
  cases (show u = Value.ref a from rx)
  obtain ⟨t1, ho⟩ := exo_at J.hok ea
  obtain ⟨mA, hns, hr⟩ := exd_at J.hok ed
  obtain ⟨od, hod, hlk⟩ := lookIn_ns hns
  obtain ⟨w', hw, rw'⟩ := RelO.some_of (v := v) (o := mA n) (by rw [← hl]; exact hr n)
  have inst : PySem.W.InstAt s1.heap a { cls := .ref C, dict := some d, data := .fields #[.ref t1, .none, .none, .none, .bool false, .none] } C (some od) := ⟨ho, rfl, rfl, hod⟩
  exact HandSPX.exc_get J.kIn inst T.hg T.hk T.hs (PySem.W.findObj_own T.hd hno rfl (by rw [hlk, hw])) (handed_of rw') ⟨v, H1, J.tok _, rw', q⟩
/-! ### isinstance of an error that is tracked -/
theorem found_cls {K : PySem.W.Frag} {D : Addr} (T : ExcC K D) (od : Option Obj) : PySem.W.findObj K D od "__class__" = some (.bind (.builtin "getset_descriptor.__get__") (.builtin "object.__class__")) := by
  cases od with
  | none =>
    refine PySem.W.findObj_dataN ?_ T.ha T.hn T.ht
    obtain ⟨cd, e, _⟩ := PySem.W.any_some T.hd
    rw [e] <;> rfl
  | some o =>
    refine PySem.W.findObj_data ?_ T.ha T.hn T.ht
    obtain ⟨cd, e, _⟩ := PySem.W.any_some T.hd
    rw [e] <;> rfl
/-- e.__class__ of an error, with a dict of its own or without -/
theorem err_class {prog : Program} {w : World} {A : Around} {E : Value → Shared → Prop} {s : Shared} {K : PySem.W.Frag} {x D : Addr} {ox : Obj} {od : Option Obj} {Q : Option Value → Shared → Prop} (T : ExcC K D) (X : K.In s.heap) (I : PySem.W.InstAt s.heap x ox D od)
    (h : Q (some (.ref D)) { s with toks := s.toks + 1 }) : wpAny (model prog w) A (getAttr? (.ref x) "__class__") Q E s := by
  obtain ⟨hp, g, d, t, os⟩ := s
  have isD := I.type (M := model prog w)
  have noGo : (Value.builtin "BaseException.__getattribute__" == Value.builtin "object.__getattribute__") = false := by decide +kernel
  have plain : (onTheHeap (Value.ref D) && Value.builtin "BaseException.__getattribute__" == Value.builtin "object.__getattribute__") = false := by
    rw [noGo]
    exact Bool.and_false _
  unfold getAttr? getAttrBy? getAttrBy
  refine wpAny_bind (wpAny_mkText (wpAny_bind (wpAny_attempt (wpAny_holding (wpAny_bind (isD.at (wpAny_bind ((PySem.W.looks_findIn (M := model prog w) X T.hg).at ?_))))))))
  show wpAny _ _ (if (onTheHeap (Value.ref D) && Value.builtin "BaseException.__getattribute__" == Value.builtin "object.__getattribute__") = true then _ else _) _ _ _
  rw [if_neg (by rw [plain]; exact Bool.false_ne_true)]
  unfold getAttrByItsOwn hookBefore
  refine wpAny_bind ?_
  have onHeap : onTheHeap (Value.ref D) = true := rfl
  rw [if_pos onHeap]
  refine (PySem.W.looks_findIn (M := model prog w) X T.hk).at (wpAny_bind (wpAny_attempt (wpAny_holding ?_)))
  unfold callGetattribute boundAndCalled
  rw [if_neg (by exact Bool.false_ne_true), PySem.F.excAttr_ValueError.ga.bind (.ref x)]
  refine wpAny_bind (wpAny_pure ?_)
  show wpAny _ _ (call (.builtin "BaseException.__getattribute__") [.ref x, .str "__class__" t]) _ _ _
  refine wpAny_call (codeAny_call_builtin PySem.F.excAttr_ValueError.ga.plain PySem.F.entry_bexc_ga ?_)
  have sub : PySem.W.Looks (model prog w) hp (isInstance (.ref x) (.type "BaseException")) true := isD.andThen (PySem.W.looks_subIn X T.hs)
  refine @PySem.W.check_slot (model prog w) _ _ ⟨hp, g, d, t + 1, os⟩ "BaseException.__getattribute__" "BaseException" "__getattribute__" (.ref x) [.str "__class__" t] [] _ (by decide +kernel) (by decide +kernel) sub (PySem.F.args_bexc_ga (.ref x) (.str "__class__" t)) ?_
  unfold Builtin.«object.__getattribute__»
  refine wpAny_bind (wpAny_of_eq (a := ((Value.ref x : Value), [Value.str "__class__" t])) (by first | rfl | (simp only [slotArgs]; rfl)) (wpAny_bind (wpAny_pure (wpAny_bind (isD.at (wpAny_bind ((PySem.W.looks_find (M := model prog w) X I (found_cls T od)).at ?_)))))))
  show wpAny _ _ (holding [Value.builtin "object.__class__"] (call (.builtin "getset_descriptor.__get__") [.builtin "object.__class__", .ref x, .ref D]) >>= ret) _ _ _
  refine wpAny_bind (wpAny_holding (wpAny_call (PySem.W.class_get (s := ⟨hp, g, d, t + 1, os⟩) (ox := ox) (od := od) X I T.hm (wpAny_pure ?_))))
  show wpAny _ _ (handedOut (.ref D)) _ _ _
  rw [PySem.W.handedOut_of (v := .ref D) rfl]
  first
    | exact wpAny_pure (wpAny_pure h)
    | exact wpAny_pure h
    | exact wpAny_pure (wpAny_bind (wpAny_pure (wpAny_pure h)))
theorem kitx_err {K : PySem.W.Frag} {x D : Addr} {ox : Obj} {od : Option Obj} (T : ExcC K D) : PySem.W.KitX K (.ref x) (.ref D) (fun h => PySem.W.InstAt h x ox D od) := by
  have Z := PySem.W.handS_kitx_exc (x := x) (ox := ox) T.hg T.hk T.hs T.hd T.ha T.hn T.ht T.hm
  refine ⟨fun _ _ _ I => I.type, fun M h X _ => ?_, Z.ne, fun X I k => err_class T X I k⟩
  obtain ⟨cdD, e, _⟩ := PySem.W.any_some T.hd
  unfold PySem.W.clsIn at e
  split at e
  · rename_i c' d' cd' sl' ho
    intro A' Q' E' s' k q
    unfold isType loadHead
    exact wpAny_bind (wpAny_loadPart (k _ _ (X _ _ ho)) (wpAny_pure q))
  · cases e
/-- an error of the class at C stands at a -/
def ErrAt (H : Hp) (a C : Addr) : Prop := H a = some (ExO (.ref C) a) ∨ ∃ d fs, H a = some (exo a C (some d)) ∧ H d = some (exd d fs)
def rIsX (K : PySem.W.Frag) : List V → Hp → VK → Prop := fun xs H Q => ∃ (a C : Addr) (c : V) (u : Value) (b : Bool), xs = [.ref a, c] ∧ ErrAt H a C ∧ ExcC K C ∧ ClsV c u ∧ PySem.W.kitOne K (.ref C) u = some b ∧ Q (.bl b) H
theorem call_isX {X : Cx} : CallR X (.builtin "isinstance") (rIsX X.K) := by
  intro pins s σ H xs us Q I r h
  obtain ⟨a, C, c, cv, b, rfl, err, T, hc, e, q⟩ := h
  obtain ⟨u1, u2, rfl, r1, r2⟩ := vals2 r
  cases (show u1 = Value.ref a from r1)
  have e2 := hc.eq r2
  subst e2
  rcases err with ea | ⟨d, fs, ea, ed⟩
  · obtain ⟨⟨oe, vs, ho, hz, hd, _⟩, _, _⟩ := I.hok a _ ea
    obtain ⟨oc, od, oda, osl⟩ := oe
    obtain ⟨h1, h2⟩ := hz
    dsimp only at h1 h2 hd
    subst h1 h2 hd
    exact PySem.W.kia_one (PySem.W.handS_kitx_exc T.hg T.hk T.hs T.hd T.ha T.hn T.ht T.hm) I.kIn (show PySem.W.InstAt s.heap a _ C none from ⟨ho, rfl, rfl, trivial⟩) e (fun z => nomatch z) fun tk => ⟨.bl b, H, I.tok tk, rfl, q⟩
  · obtain ⟨t1, ho⟩ := exo_at I.hok ea
    obtain ⟨mA, hns, _⟩ := exd_at I.hok ed
    obtain ⟨od, hod, _⟩ := lookIn_ns hns
    exact PySem.W.kia_one (kitx_err T) I.kIn (show PySem.W.InstAt s.heap a _ C (some od) from ⟨ho, rfl, rfl, hod⟩) e (fun z => nomatch z) fun tk => ⟨.bl b, H, I.tok tk, rfl, q⟩
end My

namespace My
open PySem PySem.Spec PyProof.Rows L2
/-! ### try with several clauses, each with a name -/
/-- what a clause names, where its name stands, what its suite does -/
structure Clause where
  c : Value
  at_ : Nat
  ts : Addr → Value → Option Addr → TS
/-- the ways out of a suite: the clause's name is gone -/
def gone (i : Nat) (D : Ends) : Ends where
  nx := fun σ H => D.nx (σ.set i none) H
  rt := D.rt
  bk := fun σ H => D.bk (σ.set i none) H
  ct := fun σ H => D.ct (σ.set i none) H
/-- what the clauses wish of the body's exception -/
def wEach (K : PySem.W.Frag) (W0 : WX) (D : Ends) : List Clause → WX
  | [] => W0
  | q :: r => fun cls d σ H => ∃ b, PySem.W.exmOne K cls q.c = some b ∧ (b = true → ∀ a, H a = none → q.ts a cls d (gone q.at_ D) (σ.set q.at_ (some (.ref a))) H) ∧ (b = false → wEach K W0 D r cls d σ H)
inductive Clauses (X : Cx) : List ExceptHandler → List Clause → Prop
  | nil : Clauses X [] []
  | cons {x n : Str} {q : Clause} {st : Stmt} {sts : List Stmt} {p1 p2 : Pos} {more : List ExceptHandler} {r : List Clause} (nm : Names X x q.c) (slot : X.N[q.at_]? = some n) (loc : X.env.kindOf n = some .local)
      (body : ∀ (a : Addr) (oe : Obj) (cls : Value) (d : Option Addr) (pn : List (Addr × Obj)), Zc cls d oe → (∃ vs, oe.data = .fields vs) → PSs (X.suite a ((a, oe) :: pn)) (st :: sts) (q.ts a cls d)) (rest : Clauses X more r) :
      Clauses X (.ExceptHandler (some (.Name x p1)) (some n) (st :: sts) p2 :: more) (q :: r)
/-- the place where the clauses are asked -/
structure Landed (X : Cx) (a : Addr) (B : Heap) (sI s : Shared) (pins : List (Addr × Obj)) (σ : L2.St) (H : Hp) (cls : Value) (d : Option Addr) : Prop where
  J : Inv X pins σ H sI
  nb : ∀ b o, sI.heap.get? b = some o → b ∉ frs X.stack → B.get? b = some o
  up : sI.heap.UpToSlots s.heap
  os : s.os = sI.os
  ag : AllBare s.gens
  na : H a = none
  fl : HandSPX.FlyingZ B (X.env :: X.outer) a (Zc cls d) s.heap
section
variable {X : Cx} {a : Addr} {B : Heap} {sI s : Shared} {pins : List (Addr × Obj)} {σ : L2.St} {H : Hp} {cls : Value} {d : Option Addr}
theorem Landed.off (L : Landed X a B sI s pins σ H cls d) (hf : X.env.frame = some X.env.locals) : a ≠ X.env.locals ∧ a ∉ X.fs := by
  obtain ⟨o, vs, e, _, dt⟩ := L.fl.there
  have out : a ∉ frs (X.env :: X.outer) := by
    intro m
    obtain ⟨_, o', e', k⟩ := L.fl.2.2.1.mem m
    cases e.symm.trans e'
    exact k _ dt
  constructor
  · intro z
    refine out (List.mem_filterMap.mpr ⟨_, .head _, ?_⟩)
    rw [hf, z]
  · intro m
    obtain ⟨v, hv, q⟩ := List.mem_filterMap.mp m
    exact out (List.mem_filterMap.mpr ⟨v, .tail _ hv, q⟩)
theorem Landed.here (L : Landed X a B sI s pins σ H cls d) : Inv X pins σ H s := by
  have z := L.J.landed (s' := s) L.nb L.fl.1 L.up L.os L.ag
  exact z
theorem Landed.moved {h : Heap} (L : Landed X a B sI s pins σ H cls d) (f : HandSPX.FlyingZ B (X.env :: X.outer) a (Zc cls d) h) (u : s.heap.UpToSlots h) : Landed X a B sI { s with heap := h } pins σ H cls d :=
  ⟨L.J, L.nb, L.up.trans u, L.os, L.ag, L.na, f⟩
theorem Landed.asked {D : Ends} {W0 : WX} (hs : X.stack = X.env :: X.outer) (hf : X.env.frame = some X.env.locals) (hN : X.N.Nodup) (tk : Takes X W0) (L : Landed X a B sI s pins σ H cls d) :
    ∀ {hds : List ExceptHandler} {l : List Clause}, Clauses X hds l → wEach X.K W0 D l cls d σ H → wpAny (model X.prog X.w) X.A (handleBy (.ref a) X.env hds) (SP X pins D) X.xe s := by
  intro hds l cl
  have ok := L.J.ok
  obtain ⟨offL, offF⟩ := L.off hf
  obtain ⟨o, vs, ho, hz, hd⟩ := L.fl.there
  have S := L.here.suite ho hd L.na offL offF
  induction cl with
  | nil =>
    intro w
    refine wpAny_handleBy_nil ?_
    obtain ⟨_, _, _, o', vs', T, _, _, e', _, d', tb, _⟩ := id L.fl
    unfold PySem.passOn
    refine wpAny_bind (wpAny_field e' d' tb ?_)
    have nn : ¬ ((Value.ref T == Value.none) = true) := by simp
    rw [if_neg nn]
    have out : wpAny (model X.prog X.w) X.A (setFlight (.ref a) X.env.frame) (fun _ t => wpAny (model X.prog X.w) X.A (throw (.ref a) : Sem Flow) (SP X pins D) X.xe t) X.xe s := by
      rw [hf]
      refine HandSPX.setFlight_upZ L.fl fun g hg ug => wpAny_throw (tk _ _ ?_)
      have sky : Sky B X.stack a (Zc cls d) X.env.locals g := by
        rw [hs]
        exact .inr (.inr hg)
      exact ⟨_, _, _, _, _, _, _, _, rfl, L.J, L.nb, L.up.trans ug, sky, L.na, L.os, L.ag, w⟩
    first
      | exact wpAny_bind (wpAny_pure (wpAny_bind out))
      | exact wpAny_bind out
  | @cons x n q st sts p1 p2 more r nm slot loc body rest ih =>
    rintro ⟨b, eb, yes, no⟩
    refine wpAny_handleBy_cons (codeAny_handlers_test ?_) (by intro z; cases z)
    have ty : PySem.W.Looks (model X.prog X.w) s.heap (typeOf (.ref a)) cls := by
      intro A Q E t k z
      refine wpAny_typeOf_ref (k _ _ ho) ?_
      rw [hz.1]
      exact z
    have fits := PySem.W.exm_one (M := model X.prog X.w) L.here.kIn ty eb
    have named : ∀ {Q E : Value → Shared → Prop}, Q q.c s → wpAny (model X.prog X.w) (X.A.mark (some (.ref a))) (eval (.Name x p1) X.env) Q E s := by
      intro Q E z
      obtain ⟨g1, g2, g3⟩ := nm
      rcases g3 with g3 | ⟨g3, g4, g5⟩
      · exact ld_glob (X := X.suite a ((a, o) :: (X.pn ++ pins))) S g1 g3 z g2
      · exact ld_blt (X := X.suite a ((a, o) :: (X.pn ++ pins))) S g1 g3 g4 z g5 g2
    refine named (fits.here ?_)
    cases b with
    | false =>
      show wpAny _ X.A (handleBy (.ref a) X.env more) _ _ _
      exact ih (no rfl)
    | true =>
      refine codeAny_handlers_suite_as ?_
      refine HandSPX.lands_againZ L.fl fun g fg ug => ?_
      have Lm := L.moved fg ug
      obtain ⟨o2, _, e2, z2, d2⟩ := fg.there
      have S2 := Lm.here.suite e2 d2 L.na offL offF
      refine store_ok (X := X.suite a ((a, o2) :: (X.pn ++ pins))) (v := .ref a) S2 hN slot (.inl loc) rfl (fun t St => ?_) (.inr loc)
      have run := (body a o2 cls d (X.pn ++ pins) z2 ⟨_, d2⟩).run [] t _ H (gone q.at_ D) St (yes rfl a L.na)
      refine wpAny_mono run (fun f t6 post => ?_) (fun _ _ z => False.elim z)
      have close : ∀ {σ6 : L2.St} {H6 : Hp} {R : Shared → Prop}, Inv (X.suite a ((a, o2) :: (X.pn ++ pins))) [] σ6 H6 t6 → (∀ t7, Inv X pins (σ6.set q.at_ none) H6 t7 → R t7) →
          wpAny (model X.prog X.w) X.A (do bindName X.env n .none; unbindBehindTheSuite X.env n p2) (fun _ t7 => R t7) X.xe t6 := by
        intro σ6 H6 R I6 k
        exact gone_ok (I6.unsuite ok) hN slot loc k
      match f, post with
      | .next, ⟨_, _, I6, w6⟩ => exact close I6 fun t7 J7 => ⟨_, _, J7, w6⟩
      | .brk, ⟨_, _, I6, w6⟩ => exact close I6 fun t7 J7 => ⟨_, _, J7, w6⟩
      | .cont, ⟨_, _, I6, w6⟩ => exact close I6 fun t7 J7 => ⟨_, _, J7, w6⟩
      | .ret u, ⟨_, _, _, I6, r6, w6⟩ => exact close I6 fun t7 J7 => ⟨_, _, _, J7, r6, w6⟩
end
theorem ps_try_each {X : Cx} {body : List Stmt} {h0 : ExceptHandler} {hds : List ExceptHandler} {l : List Clause} {pos : Pos} {tb : WX → TS} {W0 : WX} (hs : X.stack = X.env :: X.outer) (hf : X.env.frame = some X.env.locals) (hN : X.N.Nodup) (tk : Takes X W0)
    (hb : ∀ (W : WX) (pn : List (Addr × Obj)) (xe : Value → Shared → Prop), Takes (X.tr pn xe) W → PassesOwn (model X.prog X.w) X.A X.env xe → PSs (X.tr pn xe) body (tb W)) (cl : Clauses X (h0 :: hds) l) :
    PS X (.Try body (h0 :: hds) [] [] pos) (fun D σ H => tb (wEach X.K W0 D l) D σ H) := by
  constructor
  intro pins s σ H D I h
  have ok := I.ok
  have fr : X.A.frames = some (X.env :: X.outer) := ok.frames.trans (congrArg some hs)
  refine wpAny_Try_except ?_
  refine wpAny_mono ((hb (wEach X.K W0 D l) (X.pn ++ pins)
    (fun e s1 => wpAny (model X.prog X.w) X.A (noteFrame e X.env) (fun _ s2 => wpAny (model X.prog X.w) X.A (setFlight e none) (fun _ s3 =>
      wpAny (model X.prog X.w) X.A (handleBy e X.env (h0 :: hds)) (SP X pins D) X.xe s3) X.xe s2) X.xe s1) ?_ PassesOwn.looking).run [] s σ H D (I.toTry _) h) ?_ (fun _ _ z => z)
  · rintro u s1 ⟨a, B, sI, pins1, σ1, H1, cls, d, rfl, J, nb, up, sky, na, os, ag, w⟩
    show wpAny (model X.prog X.w) X.A (noteFrame (.ref a) X.env) _ _ _
    have sky1 : Sky B (X.env :: X.outer) a (Zc cls d) X.env.locals s1.heap := by
      rw [← hs]
      exact sky
    refine Sky.land Zc.steady fr hf sky1 fun g fg ug => ?_
    have L : Landed X a B sI { s1 with heap := g } pins σ1 H1 cls d := ⟨J.ofTry ok, nb, up.trans ug, os, ag, na, fg⟩
    exact L.asked hs hf hN tk cl w
  · intro f s1 post
    match f, post with
    | .next, ⟨_, _, I6, w6⟩ => exact wpAny_execs_nil ⟨_, _, I6.ofTry ok, w6⟩
    | .brk, ⟨_, _, I6, w6⟩ => exact ⟨_, _, I6.ofTry ok, w6⟩
    | .cont, ⟨_, _, I6, w6⟩ => exact ⟨_, _, I6.ofTry ok, w6⟩
    | .ret u, ⟨_, _, _, I6, r6, w6⟩ => exact ⟨_, _, _, I6.ofTry ok, r6, w6⟩
end My

namespace My
open PySem PySem.Spec PyProof.Rows L2
/-! ### a set of texts, made of a list -/
def addU (us : List Str) (x : Str) : List Str := if us.any (· == x) then us else us ++ [x]
/-- each text once, in the order of the first ones -/
def uniq (xs : List Str) : List Str := xs.foldl addU []
theorem uniq_take {xs : List Str} {i : Nat} (h : i < xs.length) : uniq (xs.take (i + 1)) = addU (uniq (xs.take i)) (xs.getD i Str.empty) := by
  unfold uniq
  rw [List.take_succ, List.getElem?_eq_getElem h, Option.toList_some, List.foldl_append, List.getD_eq_getElem?_getD, List.getElem?_eq_getElem h]
  rfl
theorem addU_any (us : List Str) (x y : Str) : (addU us x).any (· == y) = (us.any (· == y) || decide (y = x)) := by
  unfold addU
  split
  · rename_i h
    by_cases e : y = x
    · rw [e, h]
      rfl
    · rw [decide_eq_false e, Bool.or_false]
  · rw [List.any_append]
    congr 1
    by_cases e : y = x
    · subst e
      simp
    · have n : (x == y) = false := beq_eq_false_iff_ne.mpr fun z => e z.symm
      simp [n, e]
theorem addU_len (us : List Str) (x : Str) : (addU us x).length = if us.any (· == x) then us.length else us.length + 1 := by
  unfold addU
  split
  · rfl
  · rw [List.length_append]
    rfl
theorem addU_le (us : List Str) (x : Str) : (addU us x).length ≤ us.length + 1 := by
  rw [addU_len]
  split <;> omega
theorem uniq_le (xs : List Str) : ∀ i, i ≤ xs.length → (uniq (xs.take i)).length ≤ i := by
  intro i
  induction i with
  | zero =>
    intro _
    rw [List.take_zero]
    exact Nat.le_refl 0
  | succ i ih =>
    intro h
    rw [uniq_take h]
    have z := ih (by omega)
    have y := addU_le (uniq (xs.take i)) (xs.getD i Str.empty)
    omega
theorem fold_len : ∀ (xs us : List Str), us.Nodup → (xs.foldl addU us).length ≤ us.length + xs.length ∧ ((xs.foldl addU us).length = us.length + xs.length ↔ (us ++ xs).Nodup)
  | [], us, hn => by simp [hn]
  | x :: r, us, hn => by
    by_cases h : us.any (· == x) = true
    · have e : addU us x = us := if_pos h
      obtain ⟨a, b⟩ := fold_len r us hn
      rw [List.foldl_cons, e, List.length_cons]
      refine ⟨by omega, ⟨fun z => by omega, fun z => ?_⟩⟩
      obtain ⟨y, hy, ey⟩ := List.any_eq_true.mp h
      have ey : y = x := beq_iff_eq.mp ey
      subst ey
      exact absurd rfl ((List.nodup_append.mp z).2.2 y hy y List.mem_cons_self)
    · have e : addU us x = us ++ [x] := if_neg h
      have nx : x ∉ us := fun z => h (List.any_eq_true.mpr ⟨x, z, beq_self_eq_true x⟩)
      have hn2 : (us ++ [x]).Nodup := by
        refine List.nodup_append.mpr ⟨hn, List.nodup_cons.mpr ⟨(fun z => nomatch z), List.nodup_nil⟩, fun a ha b hb => ?_⟩
        rw [List.mem_singleton.mp hb]
        exact fun z => nx (z ▸ ha)
      obtain ⟨a, b⟩ := fold_len r (us ++ [x]) hn2
      rw [List.foldl_cons, e, List.length_cons]
      rw [List.length_append, List.length_cons, List.length_nil] at a b
      refine ⟨by omega, ?_⟩
      rw [show us.length + (r.length + 1) = us.length + (0 + 1) + r.length by omega, b, List.append_assoc]
      rfl
theorem uniq_len (xs : List Str) : (uniq xs).length ≤ xs.length ∧ ((uniq xs).length = xs.length ↔ xs.Nodup) := by
  obtain ⟨a, b⟩ := fold_len xs [] List.nodup_nil
  rw [List.length_nil, Nat.zero_add, List.nil_append] at *
  exact ⟨a, b⟩
section
variable {P : Program} {w : World} {A : Around} {R : Result → Shared → Prop} {it : Addr} {fp wr : List Addr} {G : Array GenState → Array GenState → Prop} {n : Nat} {V1 : Nat → Value → Prop} {St1 : Nat → Shared → Prop}
theorem setOf_moved {a : Addr} {us : List Str} {st st' : Shared} {wr : List Addr} {G : Array GenState → Array GenState → Prop} (h : st.heap.SetOf (PySem.strKind P w) a (fun y => us.any (· == y)) us.length) (m : Moved wr G st st') (ha : a ∉ wr) : st'.heap.SetOf (PySem.strKind P w) a (fun y => us.any (· == y)) us.length := by
  obtain ⟨ob, e1, e2, e3, hob, more⟩ := h
  exact ⟨ob, e1, e2, e3, m.heap a _ ha hob, more⟩
theorem loop_texts (W : WalksS P w A.in1 it fp wr G n V1 St1) (a : Addr) (ha : a ∉ fp) {xs : List Str} (hn : n = xs.length) (hval : ∀ i v, V1 i v → ∃ t, v = .str (xs.getD i Str.empty) t) (hb : n + 1 < scanBound) :
    ∀ (m i : Nat) (st : Shared), i + m = n → St1 i st → st.heap.SetOf (PySem.strKind P w) a (fun y => (uniq (xs.take i)).any (· == y)) (uniq (xs.take i)).length →
      (∀ st', Moved (a :: wr) G st st' → st'.heap.SetOf (PySem.strKind P w) a (fun y => (uniq (xs.take n)).any (· == y)) (uniq (xs.take n)).length → R (.ok (.ret .none)) st') →
      codeAny (model P w) A (.builtin "set.update.loop" ⟨[.ref a, .ref it], []⟩) R st := by
  have ha2 : a ∉ wr := fun z => ha (W.sub _ z)
  intro m
  induction m with
  | zero =>
    intro i st him hst hS hR
    obtain rfl : i = n := him
    refine codeAny_builtin PyProof.Rows.F.entry_set_update_loop ?_
    rw [Around.under_plainId PyProof.Rows.F.plain_set_update_loop _]
    show wpAny _ A.in1 (pyNext (.ref it) >>= _) _ _ st
    refine wpAny_bind (W.done st _ _ hst fun st' mv => ?_)
    show wpAny _ A.in1 (ret Value.none) _ _ st'
    exact wpAny_pure (hR st' (mv.mono fun b hb => List.mem_cons_of_mem _ hb) (setOf_moved hS mv ha2))
  | succ m ih =>
    intro i st him hst hS hR
    have hi : i < n := by omega
    refine codeAny_builtin PyProof.Rows.F.entry_set_update_loop ?_
    rw [Around.under_plainId PyProof.Rows.F.plain_set_update_loop _]
    show wpAny _ A.in1 (pyNext (.ref it) >>= _) _ _ st
    refine wpAny_bind (W.item i st _ _ hi hst fun v st1 hv hst1 mv => ?_)
    obtain ⟨tk, rfl⟩ := hval i v hv
    have hS1 := setOf_moved hS mv ha2
    show wpAny _ A.in1 (holding [Value.str (xs.getD i Str.empty) tk] (setAdd a (.str (xs.getD i Str.empty) tk)) >>= _) _ _ st1
    refine wpAny_bind (wpAny_holding ?_)
    unfold setAdd
    refine wpAny_holding (wpAny_bind ((PySem.strKind P w).pyHash (k := xs.getD i Str.empty) (strKind_is _ _ _ _) ?_))
    have few := uniq_le xs i (by omega)
    refine wpAny_setAddHashed_of (knd := PySem.strKind P w) (s := { st1 with toks := st1.toks + 1 }) (strKind_is _ _ _ _) rfl hS1 (by omega) fun h2 only hS2 => ?_
    have hS3 : h2.SetOf (PySem.strKind P w) a (fun y => (uniq (xs.take (i + 1))).any (· == y)) (uniq (xs.take (i + 1))).length := by
      refine SetOf_congr hS2 (fun y => ?_) ?_
      · rw [uniq_take (by omega), addU_any]
      · rw [uniq_take (by omega), addU_len]
    refine wpAny_pure ⟨plainId_quiet PyProof.Rows.F.plain_set_update_loop _, ih (i + 1) _ (by omega) (W.frame _ st1 _ _ hst1 (Nat.le_succ _) fun b hb o e => ?_) hS3 fun st2 mv2 hS4 => hR st2 (Moved.trans W.gtrans ((mv.mono fun b hb => List.mem_cons_of_mem _ hb).then_heap (Nat.le_succ _) fun b o hb e => ?_) mv2) hS4⟩
    · rw [only.2 b fun z => ha (z ▸ hb)]
      exact e
    · rw [only.2 b fun z => hb (z ▸ List.mem_cons_self)]
      exact e
end
/-- what a new set looks like ahead of its first item -/
abbrev bareSet (led : Bool) : Obj := { cls := .type "set", dict := none, data := .set #[] 0 (.fresh 0 0 led) }
section
variable {P : Program} {w : World} {A : Around} {E : Value → Shared → Prop} {st : Shared}
/-- .. the heap behind the call: old things stay, the texts stand in the set at a, once each -/
def Made (P : Program) (w : World) (h0 : Heap) (a : Addr) (xs : List Str) (h1 : Heap) : Prop := h1.SetOf (PySem.strKind P w) a (fun y => (uniq xs).any (· == y)) (uniq xs).length ∧ ∀ b ob, b < h0.objs.size → h0.get? b = some ob → h1.get? b = some ob
theorem set_texts {l : Addr} {its : Array Value} {xs : List Str} {Q : Value → Shared → Prop} (hh : A.handled = none) (hl : st.heap.IsList l its) (hx : PyProof.Rows.StrsAre its.toList xs) (few : xs.length + 1 < scanBound)
    (done : ∀ h1 tk, Made P w st.heap st.heap.objs.size xs h1 → Q (.ref st.heap.objs.size) { st with heap := h1, toks := tk }) : wpAny (model P w) A (call (.type "set") [.ref l]) Q E st := by
  obtain ⟨c1, c2, order⟩ := PySem.F.called_set.mro
  have f1 := PySem.F.called_set.made
  have f2 := PySem.F.called_set.sub
  refine wpAny_call (codeAny_of_tree ?_)
  show wpAny _ _ (callAny (.type "set") _) _ _ _
  refine wpAny_pure ⟨Code.quiet_builtin _ (by decide +kernel), codeAny_builtin PySem.F.entry_type_call ?_⟩
  rw [Around.under_plain (weight_type_call_type "set" [.ref l] []) rfl]
  have f3 := PySem.F.called_set.notType
  have f4 := PySem.F.called_set.canCreate
  have f5 := PySem.F.typeCall_set_1 (.ref l)
  repeat (any_goals (first | assumption | wp_step))
  refine codeAny_mono (code_set_new_1 (.ref l) (E := E) (Q₁ := fun v s1 => ∃ led : Bool, v = .ref st.heap.objs.size ∧ s1 = { st with heap := st.heap.push (bareSet led) }) fun led => ⟨led, rfl, rfl⟩) fun r s1 hr => ?_
  cases r with
  | error e => exact hr
  | ok fl =>
    cases fl with
    | ret obj =>
      obtain ⟨led, rfl, rfl⟩ := hr
      have here : (st.heap.push (bareSet led)).get? st.heap.objs.size = some (bareSet led) := Heap.get?_push_size _ rfl
      have isSet : Shared.TypeIs { st with heap := st.heap.push (bareSet led) } (.ref st.heap.objs.size) "set" := ⟨_, here, rfl⟩
      have f6 := PySem.F.called_set.init.lookup
      have f7 := PySem.F.called_set.init.bind (.ref st.heap.objs.size)
      repeat (any_goals (first | assumption | wp_step))
      refine codeAny_mono (codeAny_call_builtin (R := wants (fun v s2 => v = .none ∧ ∃ h1 tk, s2 = { st with heap := h1, toks := tk } ∧ Made P w st.heap st.heap.objs.size xs h1) E) PySem.F.called_set.init.plain PySem.F.entry_set_init (check_set_init_1 isSet ?_)) fun r2 s2 hr2 => ?_
      · obtain ⟨⟨k1, k2, k3, k4⟩, lat, lc, nl, ld⟩ := hl
        dsimp only at lc ld
        subst lc ld
        have lat1 : (st.heap.push (bareSet led)).get? l = some { cls := .type "list", dict := k2, data := .seq its nl, slots := k4 } := Heap.get?_push_of_some _ lat
        have g1 := PySem.F.sub_list_set
        have g2 := PySem.F.sub_list_frozenset
        have g3 : (Value.type "list" == Value.type "dict") = false := by decide
        have isL : (st.heap.push (bareSet led)).IsList l its := ⟨_, lat1, rfl, nl, rfl⟩
        have low : l < st.heap.objs.size := Heap.lt_size lat
        unfold Builtin.«set.__init__» noKeywords Builtin.Frozenset.updateFrom
        generalize again : pyIter = PI
        wp_walk
        subst again
        refine wpAny_pyIter_list isL (wpAny_bind (wpAny_runValue ?_))
        have top : (st.heap.push (bareSet led)).objs.size = st.heap.objs.size + 1 := Heap.size_push ..
        have size : its.size = xs.length := by rw [← Array.length_toList, ← StrsAre.len_eq hx]
        refine loop_texts ((Walks.list (by simp [hh]) _ l (by rw [top]; exact Nat.ne_of_lt (Nat.lt_succ_of_lt low)) its).toS) st.heap.objs.size ?_ size (fun i v hv => SS.strs_at hx i v (by rw [Array.getElem?_toList]; exact hv)) (by rw [size]; exact few) its.size 0 _ (Nat.zero_add _) ⟨⟨_, Heap.get?_push_size _ rfl, rfl, rfl⟩, isL.push _⟩ ?_ ?_
        · rw [top]
          simp only [List.mem_cons, List.mem_singleton, List.not_mem_nil, or_false, not_or]
          exact ⟨Nat.ne_of_lt (Nat.lt_succ_self _), Nat.ne_of_gt low⟩
        · exact PyProof.Rows.SetOf_congr ((PyProof.Rows.setObjOf_fresh (knd := PySem.strKind P w) led).setOf (Heap.get?_push_of_some _ here) (by unfold scanBound; omega)) (fun _ => rfl) rfl
        · intro s3 mv hS
          rw [size, List.take_length] at hS
          obtain ⟨h3, g3, d3, t3, o3⟩ := s3
          obtain rfl : g3 = st.gens := mv.gens
          obtain rfl : d3 = st.drawn := mv.drawn
          obtain rfl : o3 = st.os := mv.os
          show wpAny _ _ _ _ _ _
          refine wpAny_pure ?_
          show wpAny _ _ (ret Value.none) _ _ _
          refine wpAny_pure ⟨rfl, h3, t3, rfl, hS, fun b ob hb e => mv.heap b ob ?_ (Heap.get?_push_of_some _ (Heap.get?_push_of_some _ e))⟩
          rw [top]
          simp only [List.mem_cons, List.mem_singleton, List.not_mem_nil, or_false, not_or]
          exact ⟨Nat.ne_of_lt hb, Nat.ne_of_lt (Nat.lt_succ_of_lt hb)⟩
      · cases r2 with
        | error e => exact hr2
        | ok fl2 =>
          cases fl2 with
          | ret v =>
            obtain ⟨rfl, h1, tk, rfl, made⟩ := hr2
            repeat (any_goals (first | assumption | wp_step))
            exact done _ _ made
          | _ => exact hr2.elim
    | _ => exact hr.elim
end
end My

namespace My
open PySem PySem.Spec PyProof.Rows L2
/-- len(set(xs)), xs a list of texts -/
def tLenSetT (K : PySem.W.Frag) (ta : TE) : TE := fun σ H Q => ta σ H fun x H1 => ∃ (l : Addr) (xs : List Str), x = .ref l ∧ SqL K H1 l (xs.map V.str) ∧ xs.length ≤ 30 ∧ Q (.int (uniq xs).length) H1
theorem pe_lenSetT {X : Cx} {a : Expr} {ta : TE} {p p2 q pos : Pos} (hc : X.calm = true) (hg : Gl X "len") (hm : X.mg "len" = none) (hg2 : Gl X "set") (hm2 : X.mg "set" = none) (ha : PE X a ta)
    (na : starEach [a] X.env = (false, eval a X.env) :: starEach [] X.env := by rfl) : PE X (.Call (.Name "len" p) [.Call (.Name "set" p2) [a] [] q] [] pos) (tLenSetT X.K ta) := by
  refine ⟨fun pins s σ H Q I h => ?_⟩
  refine Call_ (ld_blt I hg hm boot_len (PyProof.Rows.callWith_builtin1 (PyProof.Rows.args_cons ?_ rfl) rfl rfl))
  refine Call_ (ld_blt I hg2 hm2 boot_set (PyProof.Rows.callWith_type1 (PyProof.Rows.args_cons (thn (ha.run pins s σ H _ I h) fun v s1 hv => PyProof.Rows.args_nil ?_) na) na rfl))
  obtain ⟨x, H1, I1, r1, l, xs, rfl, hq, few, q1⟩ := hv
  cases r1
  obtain ⟨its, r, pl, hz⟩ := I1.list hq
  refine set_texts (I1.ok.hd hc) pl.isList (by simpa using strsAre_of r) (by unfold scanBound; omega) fun h1 tk made => PyProof.Rows.args_nil ?_
  obtain ⟨⟨ob, es, ep, t, ho, hex, hd, _, _, _, hf, hn⟩, old⟩ := made
  have I2 : Inv X pins σ H1 { s1 with heap := h1, toks := tk } := I1.kept fun b o e => old b o (Heap.lt_size e) e
  have z := (uniq_len xs).1
  exact call_len_set ho hex hd hf (by rw [hn]; omega) ⟨.int (uniq xs).length, H1, I2.tok _, ⟨_, by rw [hn]⟩, q1⟩
/-! ### a list != [] , whatever stands in it -/
def rNeNil : R2 := fun x y H Q => ∃ (a b : Addr) (xs : List V), x = .ref a ∧ y = .ref b ∧ H a = some (.lst xs) ∧ H b = some (.lst []) ∧ Q (.bl (!xs.isEmpty)) H
theorem op_neNil {X : Cx} (hu : X.A.units + 64 < cLine) : OpR X (compareOp .NotEq) rNeNil := by
  intro pins s σ H x y v u Q I rx ry h
  obtain ⟨a, b, xs, rfl, rfl, ha, hb, q⟩ := h
  cases rx
  cases ry
  obtain ⟨z, its, n, r, hl, e⟩ := I.lstM ha
  obtain ⟨z2, its2, n2, r2, hl2, e2⟩ := I.lstM hb
  have l1 : s.heap.IsList a its.toArray := ⟨_, e, rfl, n, rfl⟩
  have l2 : s.heap.IsList b its2.toArray := ⟨_, e2, rfl, n2, rfl⟩
  have l0 : its2 = [] := by
    cases its2 with
    | nil => rfl
    | cons => cases hl2
  subst l0
  cases xs with
  | nil =>
    have l3 : its = [] := by
      cases its with
      | nil => rfl
      | cons => cases hl
    subst l3
    exact SeqAt.RcNeAt.lists l1 l2 rfl (by omega) (e := fun _ => true) (fun j h1 h2 => absurd h1 (Nat.not_lt_zero j)) _ _ _ _ ⟨.bl false, H, I, rfl, q⟩
  | cons x0 r0 =>
    have big : its.length = r0.length + 1 := hl.symm
    exact SeqAt.RcNeAt.lists_lengths l1 l2 (by simp only [List.size_toArray, big, List.length_nil]; rfl) (by omega) _ _ _ _ ⟨.bl true, H, I, rfl, q⟩
end My

namespace My
open PySem PySem.Spec PyProof.Rows L2
/-! ### tuple(list), the new object told; dict of such a tuple of pairs -/
def rTupleF (K : PySem.W.Frag) : List V → Hp → VK → Prop := fun xs H Q => ∃ p ys, xs = [.ref p] ∧ SqL K H p ys ∧ ∀ l o, H l = none → o.dict = none → Q (.ref l) (upd H l (.frz o (.tup ys)))
theorem call_tupleF {X : Cx} : CallR X (.type "tuple") (rTupleF X.K) := by
  intro pins s σ H xs us Q I r h
  obtain ⟨p, ys, rfl, hq, q⟩ := h
  obtain ⟨u, rfl, rx⟩ := vals1 r
  cases rx
  obtain ⟨its, r', pl, hz⟩ := I.list hq
  have hlen := r'.length
  refine call_tuple_list pl.isList (fun h' kp => ?_) (by simp only [List.size_toArray] <;> omega)
  have I1 : Inv X pins σ H { s with heap := h' } := I.kept (t' := s.toks) kp
  have I2 : Inv X pins σ (upd H h'.objs.size (.frz { cls := .type "tuple", data := .seq its.toArray } (.tup ys))) { s with heap := h'.push { cls := .type "tuple", data := .seq its.toArray } } :=
    I1.laid (t' := s.toks) (fun b o e => Heap.get?_push_of_some _ e) (Nat.le_refl _) (show ObjOk X.prog X.w _ _ _ (.frz _ (.tup ys)) from ⟨Heap.get?_push_size _ rfl, hz, its, r', IsTup.new _ _⟩)
  exact ⟨.ref h'.objs.size, _, I2, rfl, q _ _ (I1.hok.fresh (Nat.le_refl _)) rfl⟩
/-- the pairs at ps as values -/
theorem pairs_at {X : Cx} {pins : List (Addr × Obj)} {σ : L2.St} {H : Hp} {s : Shared} (I : Inv X pins σ H s) : ∀ {ps : List Addr} {kvs : List (Key × V)}, Paired (fun p kv => SqT X.K H p [kV kv.1, kv.2]) ps kvs →
    ∃ (prs : List (Key × Value)) (raw : List (Value × Value)), KV kvs prs ∧ prs.length = ps.length ∧ raw.length = ps.length ∧ ∀ (j : Nat) (k v : Value), raw[j]? = some (k, v) → ∃ (b : Addr) (x : Key), ps[j]? = some b ∧ PySem.PairAt s.heap b k v ∧ prs[j]? = some (x, v) ∧ keyIs x k = true
  | _, _, .nil => ⟨[], [], .nil, rfl, rfl, fun j k v e => by simp at e⟩
  | _, _, .cons (a := p) (b := kv) h t => by
    obtain ⟨prs, raw, r, l1, l2, hp⟩ := pairs_at I t
    obtain ⟨its, rv, ht, _⟩ := I.tuple h
    obtain ⟨u, y, rfl, ru, ry⟩ := vals2 rv
    refine ⟨(kv.1, y) :: prs, (u, y) :: raw, .cons ⟨rfl, ry⟩ r, by rw [List.length_cons, List.length_cons, l1], by rw [List.length_cons, List.length_cons, l2], fun j k v e => ?_⟩
    cases j with
    | zero =>
      cases e
      exact ⟨p, kv.1, rfl, .inl ht, rfl, kV_is (P := X.prog) (w := X.w) ru⟩
    | succ j => exact hp j k v e
def rDictT (K : PySem.W.Frag) : List V → Hp → VK → Prop := fun xs H Q => ∃ (a : Addr) (ps : List Addr) (kvs : List (Key × V)) (o : Obj), xs = [.ref a] ∧ H a = some (.frz o (.tup (ps.map V.ref))) ∧ o.dict = none ∧ Paired (fun p kv => SqT K H p [kV kv.1, kv.2]) ps kvs ∧ ∀ q, H q = none → Q (.ref q) (upd H q (.dK (mergeK [] kvs)))
theorem call_dictT {X : Cx} (calm : X.calm = true) : CallR X (.type "dict") (rDictT X.K) := by
  intro pins s σ H xs us Q I r h
  obtain ⟨a, ps, kvs, o, rfl, ha, hd, hp, q⟩ := h
  obtain ⟨u, rfl, rx⟩ := vals1 r
  cases rx
  obtain ⟨ho, hz, its, rv, o2, ho2, hc, n, hdat⟩ := I.hok a _ ha
  cases ho.symm.trans ho2
  have ei := refs_at rv
  subst ei
  obtain ⟨prs, raw, rel, l1, l2, hpr⟩ := pairs_at I hp
  rw [List.length_map] at hz
  refine PySem.call_dict_pairs (knd := mixKind X.prog X.w) (kvs := prs) (PySem.PairArg.tuple a (ps.map Value.ref).toArray (fun j => ps.getD j 0) raw) (I.ok.hd calm) ⟨⟨o, n, ho, hc, hd, hdat⟩, ?_, fun j k v e => ?_⟩ ⟨by rw [l1, l2], fun j k v e => ?_⟩ (by rw [l2]; exact hz) fun h' tk hd' keep => ?_
  · rw [List.size_toArray, List.length_map, l2]
  · obtain ⟨b, x, e1, e2, e3, e4⟩ := hpr j k v e
    have eb : ps.getD j 0 = b := by rw [List.getD_eq_getElem?_getD, e1]; rfl
    show (ps.map Value.ref).toArray[j]? = some (.ref (ps.getD j 0)) ∧ PySem.PairAt s.heap (ps.getD j 0) k v
    rw [eb]
    exact ⟨by simp [e1], e2⟩
  · obtain ⟨b, x, e1, e2, e3, e4⟩ := hpr j k v e
    exact ⟨x, e3, e4⟩
  · have hm : (s.heap.objs.size == sysModules) = false := beq_eq_false_iff_ne.mpr (Nat.ne_of_gt I.big)
    have hlen : (mergeK [] kvs).length ≤ sizeLine := by
      have z := length_mergeK kvs []
      rw [List.length_nil, Nat.zero_add, rel.length, l1] at z
      omega
    have k : ∀ b u, s.heap.get? b = some u → h'.get? b = some u := fun b u e => keep b u (fun z => nomatch z) e
    exact ⟨.ref s.heap.objs.size, upd H s.heap.objs.size (.dK (mergeK [] kvs)), I.laid (t' := tk) k (Nat.le_refl _) (show ObjOk X.prog X.w _ _ _ (.dK (mergeK [] kvs)) from ⟨hlen, hm, merged [] prs, KV.merge rel .nil, hd'⟩), rfl, q _ (I.hok.fresh (Nat.le_refl _))⟩
end My

namespace My
open PySem PySem.Spec PyProof.Rows L2
/-! ### weaker words for + and slices of tuples: some tuple with these items, all else the same -/
def rCatX : R2 := fun x y H Q => ∃ a b xs ys, x = .ref a ∧ y = .ref b ∧ Rd H a (.tup xs) ∧ Rd H b (.tup ys) ∧ xs.length + ys.length ≤ sizeLine ∧ ∀ r H', Same H H' → Rd H' r (.tup (xs ++ ys)) → Q (.ref r) H'
theorem op_catX {X : Cx} : OpR X (binaryOp .Add) rCatX := by
  intro pins s σ H x y v u Q I rx ry h
  obtain ⟨a, b, xs, ys, rfl, rfl, ha, hb, hz, q⟩ := h
  refine op_catA pins s σ H _ _ v u Q I rx ry ⟨a, b, xs, ys, rfl, rfl, .inl ha, .inl hb, hz, fun e => ?_, fun _ e => ?_, fun _ _ p hp => ?_⟩
  · subst e
    exact q b H (L2.Same.refl H) hb
  · subst e
    exact q a H (L2.Same.refl H) (by rw [List.append_nil]; exact ha)
  · refine q p _ (fun c o e => ?_) (.inl upd_same)
    rw [upd_ne (ne_of_none e hp)]
    exact e
def rSlX : V → Option Int → Option Int → Hp → VK → Prop := fun x lo hi H Q => ∃ a xs, x = .ref a ∧ Rd H a (.tup xs) ∧ ∀ r H', Same H H' → Rd H' r (.tup (cutV xs lo hi)) → Q (.ref r) H'
theorem sl_X {X : Cx} : SlR X rSlX := by
  intro pins s σ H x v vl vu lo hi sl Q I rx hs pl pu h
  obtain ⟨a, xs, rfl, hx, q⟩ := h
  refine sl_tupA pins s σ H _ v vl vu lo hi sl Q I rx hs pl pu ⟨a, xs, rfl, .inl hx, fun w => ?_, fun _ p hp => ?_⟩
  · refine q a H (L2.Same.refl H) ?_
    unfold cutV
    rw [w.1, w.2, List.drop_zero, Nat.sub_zero, List.take_length]
    exact hx
  · refine q p _ (fun c o e => ?_) (.inl upd_same)
    rw [upd_ne (ne_of_none e hp)]
    exact e
/-! ### t[::-1] of a tuple -/
section
open MeetsSeq MeetsSeq2 MeetsSeq3 SeqRoads2
variable {P : Program} {w : World} {A : Around} {E : Value → Shared → Prop} {st : Shared}
theorem applied_back {sl : Addr} {v1 v2 v3 : Value} {n : Nat} {Q : Int × Int × Nat → Shared → Prop} (hs : st.heap.IsSliceOf sl v1 v2 v3) (p1 : IsPart v1 none) (p2 : IsPart v2 none) (p3 : IsPart v3 (some (-1)))
    (h : Q ((n : Int) - 1, -1, n) st) : wpAny (model P w) A (Builtin.Slice.sliceApplied (.ref sl) (pure (n : Int))) Q E st := by
  obtain ⟨ob, at1, cl1, da1⟩ := id hs
  unfold Builtin.Slice.sliceApplied Builtin.Slice.sliceFields
  refine wpAny_bind (wpAny_bind (wpAny_field at1 da1 (x := v1) rfl (wpAny_bind (wpAny_field at1 da1 (x := v2) rfl (wpAny_bind (wpAny_field at1 da1 (x := v3) rfl (wpAny_pure ?_)))))))
  refine wpAny_bind (HT.slicePart_ p3 ?_)
  show wpAny _ _ (if ((-1 : Int) == 0) = true then _ else _) _ _ st
  rw [if_neg (by decide)]
  refine wpAny_bind (HT.slicePart_ p1 (wpAny_bind (HT.slicePart_ p2 (wpAny_bind (wpAny_pure ?_)))))
  have adj : Builtin.Slice.sliceAdjust none none (-1) (n : Int) = ((n : Int) - 1, -1) := rfl
  have pla : Builtin.Slice.slicePlaces ((n : Int) - 1) (-1) (-1) = n := by
    unfold Builtin.Slice.slicePlaces
    rw [if_neg (by decide)]
    by_cases z : (n : Int) - 1 > -1
    · rw [if_pos z, show (- -1 : Int) = 1 by decide, Int.ediv_one]
      omega
    · rw [if_neg z]
      omega
  show wpAny _ _ (match Builtin.Slice.sliceAdjust none none (-1) (n : Int) with | (lo, hi) => pure (lo, (-1 : Int), Builtin.Slice.slicePlaces lo hi (-1))) _ _ st
  rw [adj]
  show wpAny _ _ (pure ((n : Int) - 1, (-1 : Int), Builtin.Slice.slicePlaces ((n : Int) - 1) (-1) (-1))) _ _ st
  rw [pla]
  exact wpAny_pure h
theorem fm_congr {α β : Type} {f g : α → Option β} : ∀ {l : List α}, (∀ a ∈ l, f a = g a) → l.filterMap f = l.filterMap g
  | [], _ => rfl
  | a :: r, h => by
    rw [List.filterMap_cons, List.filterMap_cons, h a List.mem_cons_self, fm_congr fun b hb => h b (List.mem_cons_of_mem _ hb)]
theorem pick_back (its : Array Value) : ((List.range its.size).filterMap fun (m : Nat) => its[(((its.size : Int) - 1) + (m : Int) * (-1)).toNat]?).toArray = its.toList.reverse.toArray := by
  have e : (List.range its.size).filterMap (fun (m : Nat) => its[(((its.size : Int) - 1) + (m : Int) * (-1)).toNat]?) = ((List.range its.size).map fun k => its.size - 1 - k).filterMap (its[·]?) := by
    rw [List.filterMap_map]
    refine fm_congr fun m hm => ?_
    have z := List.mem_range.mp hm
    have y : (((its.size : Int) - 1) + (m : Int) * (-1)).toNat = its.size - 1 - m := by omega
    show its[(((its.size : Int) - 1) + (m : Int) * (-1)).toNat]? = its[its.size - 1 - m]?
    rw [y]
  rw [e, PySem.W.krv_range, List.filterMap_reverse, PySem.W.krv_all]
theorem tuple_back {a sl : Addr} {its : Array Value} {v1 v2 v3 : Value} {Q : Value → Shared → Prop} (ht : IsTup st.heap a its) (hs : st.heap.IsSliceOf sl v1 v2 v3) (p1 : IsPart v1 none) (p2 : IsPart v2 none) (p3 : IsPart v3 (some (-1)))
    (h : Q (.ref st.heap.objs.size) { st with heap := st.heap.push { cls := .type "tuple", data := .seq its.toList.reverse.toArray } }) (few : its.size ≤ sizeLine) : wpAny (model P w) A (getItem (.ref a) (.ref sl)) Q E st := by
  have ok : sizeOk (.seq its.toList.reverse.toArray) := by
    show its.toList.reverse.toArray.size ≤ sizeLine
    rw [List.size_toArray, List.length_reverse, Array.length_toList]
    exact few
  obtain ⟨ob, at1, cl1, da1⟩ := id hs
  have isS : st.TypeIs (.ref sl) "slice" := ⟨ob, at1, cl1⟩
  unfold getItem
  try with_reducible refine wpAny_holding ?_
  first | refine wpAny_bind (wpAny_pure ?_) | skip
  refine wpAny_bind (wpAny_sequenceKey ht.typeIs (by decide) ?_)
  refine wpAny_bind (wpAny_callSpecial?_slot (name := Str.ofString "__getitem__") ht.typeIs PyProof.Rows.slot_tuple_getitem
    (wpAny_call_entry PyProof.Rows.slot_tuple_getitem ht.typeIs PyProof.Rows.entry_tuple_getitem ?_ (PyProof.Rows.args_tuple_getitem _ _)))
  show wpAny _ _ (Builtin.Tuple.tupleItemsOf (.ref a) >>= _) _ _ st
  refine wpAny_bind (PyProof.Rows.tupleItemsOf_ ht (wpAny_bind (wpAny_typeOf isS ?_)))
  rw [if_pos (by decide)]
  refine wpAny_bind (applied_back hs p1 p2 p3 ?_)
  have no : ¬ (((((its.size : Nat) : Int) - 1) == 0 && (-1 : Int) == 1 && its.size == its.size) = true) := by
    rw [show ((-1 : Int) == 1) = false by decide, Bool.and_false, Bool.false_and]
    decide
  show wpAny _ _ (if ((((its.size : Nat) : Int) - 1) == 0 && (-1 : Int) == 1 && its.size == its.size) = true then _ else _) _ _ st
  rw [if_neg no, pick_back]
  first
    | exact wpAny_bind (m := Builtin.Tuple.tupleExact _) (wpAny_newObj_type (wpAny_pure ⟨_, rfl, wpAny_pure h⟩) ok)
    | exact wpAny_bind (m := Builtin.Tuple.tupleExact _) (wpAny_newObj_type (wpAny_bind (wpAny_pure (wpAny_pure ⟨_, rfl, wpAny_pure h⟩))) ok)
    | exact wpAny_bind (wpAny_bind (m := Builtin.Tuple.tupleExact _) (wpAny_newObj_type (wpAny_pure (wpAny_pure ⟨_, rfl, wpAny_pure h⟩)) ok))
    | exact wpAny_bind (wpAny_bind (m := Builtin.Tuple.tupleExact _) (wpAny_newObj_type (wpAny_pure ⟨_, rfl, wpAny_pure h⟩) ok))
end
/-- t[::-1] -/
def tRevT (K : PySem.W.Frag) (te : TE) : TE := fun σ H Q => te σ H fun x H1 => ∃ a xs, x = .ref a ∧ SqT K H1 a xs ∧ ∀ p, H1 p = none → Q (.ref p) (upd H1 p (.tup xs.reverse))
theorem pe_revT {X : Cx} {e : Expr} {te : TE} {k : Nat} {p1 p2 p3 pos : Pos} (he : PE X e te) : PE X (.Subscript e (.Slice none none (some (.UnaryOp .USub (.Constant (.int 1) k p1) p2)) p3) pos) (tRevT X.K te) := by
  refine ⟨fun pins s σ H Q I h => Subscript_ (thn (he.run pins s σ H _ I h) fun v s1 hv => ?_)⟩
  obtain ⟨x, H1, I1, r1, a, xs, rfl, hx, q⟩ := hv
  cases r1
  have part : PO X (some (.UnaryOp .USub (.Constant (.int 1) k p1) p2)) (tPart (tUn (rU fun i => .int (-i)) (tC (.int 1)))) := po_some (pe_un un_neg pe_int)
  refine wpAny_Slice (thn (po_none.run pins s1 σ H1 (fun o H2 => o = none ∧ H2 = H1) I1 ⟨rfl, rfl⟩) fun vl s2 h2 => ?_)
  obtain ⟨_, H2, I2, pl, rfl, rfl⟩ := h2
  refine thn (po_none.run pins s2 σ H2 (fun o H3 => o = none ∧ H3 = H2) I2 ⟨rfl, rfl⟩) fun vu s3 h3 => ?_
  obtain ⟨_, H3, I3, pu, rfl, rfl⟩ := h3
  refine thn (part.run pins s3 σ H3 (fun o H4 => o = some (-1) ∧ H4 = H3) I3 ⟨1, rfl, -1, rfl, rfl, rfl⟩) fun vs s4 h4 => ?_
  obtain ⟨_, H4, I4, ps, rfl, rfl⟩ := h4
  have I5 : Inv X pins σ H4 { s4 with heap := s4.heap.push { cls := .type "slice", data := .fields #[vl, vu, vs] } } := I4.kept (t' := s4.toks) fun b ob q => Heap.get?_push_of_some _ q
  obtain ⟨its, r, ht, hz⟩ := I5.tuple hx
  have hlen := r.length
  show wpAny (model X.prog X.w) X.A (subscriptTail e (.Slice none none (some (.UnaryOp .USub (.Constant (.int 1) k p1) p2)) p3) (.ref a) (.ref s4.heap.objs.size)) (EP X pins σ Q) X.xe { s4 with heap := s4.heap.push { cls := .type "slice", data := .fields #[vl, vu, vs] } }
  refine tail_any (ops := [.ref a, .ref s4.heap.objs.size]) ht.typeIs (PyProof.Rows.slot_tuple_getitem.lookup) ?_ (by with_unfolding_all rfl)
  refine tuple_back ht (Heap.IsSliceOf.new _ vl vu vs) pl pu ps ?_ (by rw [List.size_toArray]; omega)
  exact ⟨.ref _, _, I5.laid (t' := s4.toks) (o := .tup xs.reverse) (fun b ob q => Heap.get?_push_of_some _ q) (Nat.le_refl _) ⟨by rw [List.length_reverse]; exact hz, _, r.reverse, IsTup.new _ _⟩, rfl, q _ (I5.hok.fresh (Nat.le_refl _))⟩
end My

namespace My
open PySem PySem.Spec PyProof.Rows L2
/-! ### xs.extend(t) -/
theorem ext_tup (l : Addr) (items : Array Value) (n : Nat) (b : Addr) (dd : Option Addr) (sl : Array (Option Value)) (items2 : Array Value) (n2 : Nat) (hs0 : ¬(!items.isEmpty && Builtin.List.listTooLong (items.size + items2.size)) = true) (hs1 : items.size ≤ sizeLine) (hs2 : items.size + items2.size ≤ sizeLine + 1) :
    Meets (Builtin.«list.extend» ⟨[.ref l, .ref b], []⟩) (fun _ R s => s.heap.get? l = some { cls := .type "list", dict := none, data := .seq items n, slots := #[] } ∧ s.heap.get? b = some { cls := .type "tuple", dict := dd, data := .seq items2 n2, slots := sl } ∧ R (.ok (.ret Value.none)) { s with heap := s.heap.update l (Obj.mapSeq fun x => x ++ items2), toks := s.toks }) :=
  .of_wp fun prog w A R s h => by
    obtain ⟨hp, g, d, tk, os⟩ := s
    obtain ⟨hl, hb, h⟩ := h
    have f1 := AutoSeq1.idx_int
    have f2 := AutoSeq1.sub_tuple_tuple
    have f3 := AutoSeq1.sub_list_list
    have f4 := AutoSeq1.sub_tuple_list
    have f5 := AutoSeq1.sub_list_tuple
    have hz' : (items ++ items2).size ≤ sizeLine + 1 := by rw [Array.size_append]; exact hs2
    wp_walk using (wpAny_updateSeq hl rfl (hz := hs1) (_hz' := hz')), AutoSeq1.wpAny_loadPart' hl, AutoSeq1.wpAny_loadPart' hb
    exact ⟨_, rfl, h⟩
def rExtendT (K : PySem.W.Frag) : V → List V → Hp → VK → Prop := fun x vs H Q => ∃ l b xs zs, x = .ref l ∧ vs = [.ref b] ∧ H l = some (.lst xs) ∧ SqT K H b zs ∧ xs.length + zs.length ≤ sizeLine ∧ Q .non (upd H l (.lst (xs ++ zs)))
theorem mt_extendT {X : Cx} : MtR X "list.extend" (rExtendT X.K) := by
  intro pins s σ H x vs v us Q I rx rv h
  obtain ⟨l, b, xs, zs, rfl, rfl, hH, hB, hz, q⟩ := h
  cases rx
  obtain ⟨u, rfl, ru⟩ := rv.one
  cases ru
  obtain ⟨z, its, n, r, hl, e⟩ := I.lstM hH
  obtain ⟨its2, r2, ⟨⟨cls, dd, data, sl⟩, ho, hc, n2, hd⟩, hz2⟩ := I.tuple hB
  simp only at hc hd
  subst hc hd
  have hl2 := r2.length
  have hsz : its.toArray.size + its2.toArray.size ≤ sizeLine := by rw [List.size_toArray, List.size_toArray]; omega
  have hlong : ¬ (!its.toArray.isEmpty && Builtin.List.listTooLong (its.toArray.size + its2.toArray.size)) = true := by
    rw [notLongL hsz, Bool.and_false]
    exact Bool.false_ne_true
  refine call_meets F.slot_list_extend ⟨_, e, rfl⟩ F.entry_list_extend (F.args_list_extend_2 _ _)
    (ext_tup l its.toArray n b dd sl its2.toArray n2 hlong (by rw [List.size_toArray]; omega) (by omega)) ⟨e, ho, ?_⟩
  refine ⟨.non, _, I.lset (its' := its ++ its2) hH e (by simp) (r.append r2) ?_, rfl, q⟩
  rw [List.length_append]
  omega
/-! ### t * n, some tuple with these items -/
theorem tuple_mulSame (l : Addr) (items : Array Value) (n : Nat) (dd : Option Addr) (sl : Array (Option Value)) (u : Tok) :
    Meets (Builtin.«tuple.__mul__» ⟨[.ref l, .int 1 u], []⟩) (fun _ R s => s.heap.get? l = some { cls := .type "tuple", dict := dd, data := .seq items n, slots := sl } ∧ R (.ok (.ret (Value.ref l))) s) :=
  .of_wp fun prog w A R s h => by
    obtain ⟨hp, g, d, tk, os⟩ := s
    obtain ⟨hl, h⟩ := h
    have f1 := AutoSeq1.idx_int
    have c1 : (items.isEmpty || (1 : Int) == 1) = true := by rw [show ((1 : Int) == 1) = true by decide, Bool.or_true]
    wp_walk using AutoSeq1.wpAny_loadPart' hl
    repeat (first
      | (refine wpAny_ite_true c1 ?_; wp_walk using AutoSeq1.wpAny_loadPart' hl)
      | (refine wpAny_ite_false (by decide) ?_; wp_walk using AutoSeq1.wpAny_loadPart' hl))
    exact ⟨_, rfl, h⟩
theorem tuple_mulZero (l : Addr) (items : Array Value) (n : Nat) (dd : Option Addr) (sl : Array (Option Value)) (u : Tok) (he : items.isEmpty = false) :
    Meets (Builtin.«tuple.__mul__» ⟨[.ref l, .int 0 u], []⟩) (fun _ R s => s.heap.get? l = some { cls := .type "tuple", dict := dd, data := .seq items n, slots := sl } ∧ R (.ok (.ret (Value.ref s.heap.objs.size))) { s with heap := s.heap.push { cls := Value.type "tuple", data := Data.seq #[] }, toks := s.toks }) :=
  .of_wp fun prog w A R s h => by
    obtain ⟨hp, g, d, tk, os⟩ := s
    obtain ⟨hl, h⟩ := h
    have f1 := AutoSeq1.idx_int
    have c1 : (items.isEmpty || (0 : Int) == 1) = false := by rw [he]; decide
    have c2 : (decide ((0 : Int) ≤ 0) || items.isEmpty) = true := by rw [he]; decide
    wp_walk using AutoSeq1.wpAny_loadPart' hl
    repeat (first
      | (refine wpAny_ite_false (decide_eq_false (by rw [c1]; exact Bool.false_ne_true)) ?_; wp_walk using AutoSeq1.wpAny_loadPart' hl)
      | (refine wpAny_ite_true (decide_eq_true c2) ?_; wp_walk using AutoSeq1.wpAny_loadPart' hl)
      | (refine wpAny_ite_true c2 ?_; wp_walk using AutoSeq1.wpAny_loadPart' hl)
      | (refine wpAny_ite_false (by decide) ?_; wp_walk using AutoSeq1.wpAny_loadPart' hl))
    exact ⟨_, rfl, h⟩
def rRepX : R2 := fun x y H Q => ∃ l k xs, x = .ref l ∧ y = .int k ∧ Rd H l (.tup xs) ∧ xs ≠ [] ∧ 0 ≤ k ∧ k ≤ 1000 ∧ xs.length ≤ 1000 ∧ ∀ r H', Same H H' → Rd H' r (.tup (List.replicate k.toNat xs).flatten) → Q (.ref r) H'
theorem op_repX {X : Cx} : OpR X (binaryOp .Mult) rRepX := by
  intro pins s σ H x y v u Q I rx ry h
  obtain ⟨l, k, xs, rfl, rfl, hT, hne, h1, h2, hz, q⟩ := h
  have new : ∀ (p : Addr) (zs : List V), H p = none → zs = (List.replicate k.toNat xs).flatten → Q (.ref p) (upd H p (.tup zs)) := fun p zs hp e => q p _ (fun c o z => by rw [upd_ne (ne_of_none z hp)]; exact z) (.inl (by rw [upd_same, e]))
  by_cases k2 : 2 ≤ k
  · exact op_repT pins s σ H _ _ v u Q I rx ry ⟨l, k, xs, rfl, rfl, .inl hT, hne, k2, h2, hz, fun p hp => new p _ hp rfl⟩
  · cases rx
    obtain ⟨t, rfl⟩ := ry
    obtain ⟨its, r, ⟨⟨cls, dd, data, sl⟩, ho, hc, n, hd⟩, hs⟩ := I.tuple (show SqT X.K H l xs from .inl hT)
    simp only at hc hd
    subst hc hd
    have hle : its.length = xs.length := r.length.symm
    have hi : its.toArray.isEmpty = false := by
      cases its with
      | nil => exact absurd (List.eq_nil_of_length_eq_zero hle.symm) hne
      | cons a b => rfl
    have k01 : k = 0 ∨ k = 1 := by omega
    rcases k01 with rfl | rfl
    · refine wpAny_binaryOp_repeat_ref (T := "tuple") (U := "int") (by decide) ⟨_, ho, rfl⟩ (fun s' => typeIs_int s' 0 t) noFill_tuple_mul F.fills_int_mul F.slot_int_rmul repeat_tuple F.slot_int_index.lookup
        (call_meets F.slot_int_rmul (typeIs_int s 0 t) F.entry_int_rmul (F.args_int_rmul_2 _ _) (int_rmul_tuple 0 t l its.toArray n dd sl)
          ⟨ho, rfl, ⟨_, ho, rfl⟩, call_meets F.slot_tuple_mul ⟨_, ho, rfl⟩ F.entry_tuple_mul (F.args_tuple_mul_2 _ _) (tuple_mulZero l its.toArray n dd sl t hi) ⟨ho, ?_⟩⟩)
      refine ⟨.ref s.heap.objs.size, _, I.laid (t' := s.toks) (o := .tup []) (fun b ob q => Heap.get?_push_of_some _ q) (Nat.le_refl _) ?_, rfl, new _ _ (I.hok.fresh (Nat.le_refl _)) rfl⟩
      exact ⟨Nat.zero_le _, [], .nil, IsTup.new _ _⟩
    · refine wpAny_binaryOp_repeat_ref (T := "tuple") (U := "int") (by decide) ⟨_, ho, rfl⟩ (fun s' => typeIs_int s' 1 t) noFill_tuple_mul F.fills_int_mul F.slot_int_rmul repeat_tuple F.slot_int_index.lookup
        (call_meets F.slot_int_rmul (typeIs_int s 1 t) F.entry_int_rmul (F.args_int_rmul_2 _ _) (int_rmul_tuple 1 t l its.toArray n dd sl)
          ⟨ho, rfl, ⟨_, ho, rfl⟩, call_meets F.slot_tuple_mul ⟨_, ho, rfl⟩ F.entry_tuple_mul (F.args_tuple_mul_2 _ _) (tuple_mulSame l its.toArray n dd sl t) ⟨ho, ?_⟩⟩)
      refine ⟨.ref l, H, I, rfl, q l H (L2.Same.refl H) ?_⟩
      have e : (List.replicate (1 : Int).toNat xs).flatten = xs := by simp
      rw [e]
      exact hT
end My

namespace My
open PySem PySem.Spec PyProof.Rows L2
/-! ### t[:0:-1] of a tuple -/
section
open MeetsSeq MeetsSeq2 MeetsSeq3 SeqRoads2
variable {P : Program} {w : World} {A : Around} {E : Value → Shared → Prop} {st : Shared}
theorem applied_tail {sl : Addr} {v1 v2 v3 : Value} {n : Nat} {Q : Int × Int × Nat → Shared → Prop} (hn : 0 < n) (hs : st.heap.IsSliceOf sl v1 v2 v3) (p1 : IsPart v1 none) (p2 : IsPart v2 (some 0)) (p3 : IsPart v3 (some (-1)))
    (h : Q ((n : Int) - 1, -1, n - 1) st) : wpAny (model P w) A (Builtin.Slice.sliceApplied (.ref sl) (pure (n : Int))) Q E st := by
  obtain ⟨ob, at1, cl1, da1⟩ := id hs
  unfold Builtin.Slice.sliceApplied Builtin.Slice.sliceFields
  refine wpAny_bind (wpAny_bind (wpAny_field at1 da1 (x := v1) rfl (wpAny_bind (wpAny_field at1 da1 (x := v2) rfl (wpAny_bind (wpAny_field at1 da1 (x := v3) rfl (wpAny_pure ?_)))))))
  refine wpAny_bind (HT.slicePart_ p3 ?_)
  show wpAny _ _ (if ((-1 : Int) == 0) = true then _ else _) _ _ st
  rw [if_neg (by decide)]
  refine wpAny_bind (HT.slicePart_ p1 (wpAny_bind (HT.slicePart_ p2 (wpAny_bind (wpAny_pure ?_)))))
  have adj : Builtin.Slice.sliceAdjust none (some 0) (-1) (n : Int) = ((n : Int) - 1, 0) := by
    show ((n : Int) - 1, min (0 : Int) ((n : Int) - 1)) = _
    rw [Int.min_eq_left (by omega)]
  have pla : Builtin.Slice.slicePlaces ((n : Int) - 1) 0 (-1) = n - 1 := by
    unfold Builtin.Slice.slicePlaces
    rw [if_neg (by decide)]
    by_cases z : (n : Int) - 1 > 0
    · rw [if_pos z, show (- -1 : Int) = 1 by decide, Int.ediv_one]
      omega
    · rw [if_neg z]
      omega
  show wpAny _ _ (match Builtin.Slice.sliceAdjust none (some 0) (-1) (n : Int) with | (lo, hi) => pure (lo, (-1 : Int), Builtin.Slice.slicePlaces lo hi (-1))) _ _ st
  rw [adj]
  show wpAny _ _ (pure ((n : Int) - 1, (-1 : Int), Builtin.Slice.slicePlaces ((n : Int) - 1) 0 (-1))) _ _ st
  rw [pla]
  exact wpAny_pure h
theorem pick_tailL : ∀ L : List Value, L ≠ [] → (List.range (L.length - 1)).filterMap (fun (m : Nat) => L[L.length - 1 - m]?) = (L.drop 1).reverse := by
  intro L hL
  cases L with
  | nil => exact absurd rfl hL
  | cons x r =>
    have full : (List.range (r.length + 1)).filterMap (fun (m : Nat) => (x :: r)[r.length - m]?) = (x :: r).reverse := by
      have e : (List.range (r.length + 1)).filterMap (fun (m : Nat) => (x :: r)[r.length - m]?) = ((List.range (x :: r).length).map fun k => (x :: r).length - 1 - k).filterMap ((x :: r)[·]?) := by
        rw [List.filterMap_map]
        refine fm_congr fun m hm => ?_
        have z := List.mem_range.mp hm
        show (x :: r)[r.length - m]? = (x :: r)[(x :: r).length - 1 - m]?
        rw [List.length_cons, Nat.add_sub_cancel]
      have a := PySem.W.krv_range (x :: r).length
      have b := PySem.W.krv_all (x :: r).toArray
      rw [e, a, List.filterMap_reverse]
      simpa using b
    rw [List.range_succ, List.filterMap_append, List.reverse_cons] at full
    have last : (List.filterMap (fun (m : Nat) => (x :: r)[r.length - m]?) [r.length]) = [x] := by simp
    rw [last] at full
    show (List.range ((x :: r).length - 1)).filterMap (fun (m : Nat) => (x :: r)[(x :: r).length - 1 - m]?) = r.reverse
    rw [List.length_cons, Nat.add_sub_cancel]
    exact List.append_cancel_right full
theorem pick_tail (its : Array Value) (h : 0 < its.size) : ((List.range (its.size - 1)).filterMap fun (m : Nat) => its[(((its.size : Int) - 1) + (m : Int) * (-1)).toNat]?).toArray = (its.toList.drop 1).reverse.toArray := by
  have e : (List.range (its.size - 1)).filterMap (fun (m : Nat) => its[(((its.size : Int) - 1) + (m : Int) * (-1)).toNat]?) = (List.range (its.toList.length - 1)).filterMap (fun (m : Nat) => its.toList[its.toList.length - 1 - m]?) := by
    rw [Array.length_toList]
    refine fm_congr fun m hm => ?_
    have z := List.mem_range.mp hm
    have y : (((its.size : Int) - 1) + (m : Int) * (-1)).toNat = its.size - 1 - m := by omega
    rw [y, Array.getElem?_toList]
  rw [e, pick_tailL _ (fun z => by
    have y := congrArg List.length z
    rw [Array.length_toList, List.length_nil] at y
    omega)]
theorem tuple_tail {a sl : Addr} {its : Array Value} {v1 v2 v3 : Value} {Q : Value → Shared → Prop} (hn : 0 < its.size) (ht : IsTup st.heap a its) (hs : st.heap.IsSliceOf sl v1 v2 v3) (p1 : IsPart v1 none) (p2 : IsPart v2 (some 0)) (p3 : IsPart v3 (some (-1)))
    (h : Q (.ref st.heap.objs.size) { st with heap := st.heap.push { cls := .type "tuple", data := .seq (its.toList.drop 1).reverse.toArray } }) (few : its.size ≤ sizeLine) : wpAny (model P w) A (getItem (.ref a) (.ref sl)) Q E st := by
  have ok : sizeOk (.seq (its.toList.drop 1).reverse.toArray) := by
    show (its.toList.drop 1).reverse.toArray.size ≤ sizeLine
    rw [List.size_toArray, List.length_reverse, List.length_drop, Array.length_toList]
    omega
  obtain ⟨ob, at1, cl1, da1⟩ := id hs
  have isS : st.TypeIs (.ref sl) "slice" := ⟨ob, at1, cl1⟩
  unfold getItem
  try with_reducible refine wpAny_holding ?_
  first | refine wpAny_bind (wpAny_pure ?_) | skip
  refine wpAny_bind (wpAny_sequenceKey ht.typeIs (by decide) ?_)
  refine wpAny_bind (wpAny_callSpecial?_slot (name := Str.ofString "__getitem__") ht.typeIs PyProof.Rows.slot_tuple_getitem
    (wpAny_call_entry PyProof.Rows.slot_tuple_getitem ht.typeIs PyProof.Rows.entry_tuple_getitem ?_ (PyProof.Rows.args_tuple_getitem _ _)))
  show wpAny _ _ (Builtin.Tuple.tupleItemsOf (.ref a) >>= _) _ _ st
  refine wpAny_bind (PyProof.Rows.tupleItemsOf_ ht (wpAny_bind (wpAny_typeOf isS ?_)))
  rw [if_pos (by decide)]
  refine wpAny_bind (applied_tail hn hs p1 p2 p3 ?_)
  have no : ¬ (((((its.size : Nat) : Int) - 1) == 0 && (-1 : Int) == 1 && its.size - 1 == its.size) = true) := by
    rw [show ((-1 : Int) == 1) = false by decide, Bool.and_false, Bool.false_and]
    decide
  show wpAny _ _ (if ((((its.size : Nat) : Int) - 1) == 0 && (-1 : Int) == 1 && its.size - 1 == its.size) = true then _ else _) _ _ st
  rw [if_neg no, pick_tail its hn]
  first
    | exact wpAny_bind (m := Builtin.Tuple.tupleExact _) (wpAny_newObj_type (wpAny_pure ⟨_, rfl, wpAny_pure h⟩) ok)
    | exact wpAny_bind (m := Builtin.Tuple.tupleExact _) (wpAny_newObj_type (wpAny_bind (wpAny_pure (wpAny_pure ⟨_, rfl, wpAny_pure h⟩))) ok)
    | exact wpAny_bind (wpAny_bind (m := Builtin.Tuple.tupleExact _) (wpAny_newObj_type (wpAny_pure (wpAny_pure ⟨_, rfl, wpAny_pure h⟩)) ok))
    | exact wpAny_bind (wpAny_bind (m := Builtin.Tuple.tupleExact _) (wpAny_newObj_type (wpAny_pure ⟨_, rfl, wpAny_pure h⟩) ok))
end
/-- t[:0:-1] -/
def tTailT (K : PySem.W.Frag) (te : TE) : TE := fun σ H Q => te σ H fun x H1 => ∃ a xs, x = .ref a ∧ SqT K H1 a xs ∧ 0 < xs.length ∧ ∀ p, H1 p = none → Q (.ref p) (upd H1 p (.tup (xs.drop 1).reverse))
theorem vals_drop {xs : List V} {its : List Value} (r : Vals xs its) : Vals (xs.drop 1) (its.drop 1) := by
  cases r with
  | nil => exact .nil
  | cons _ t => exact t
theorem pe_tailT {X : Cx} {e : Expr} {te : TE} {k k0 : Nat} {p0 p1 p2 p3 pos : Pos} (he : PE X e te) : PE X (.Subscript e (.Slice none (some (.Constant (.int 0) k0 p0)) (some (.UnaryOp .USub (.Constant (.int 1) k p1) p2)) p3) pos) (tTailT X.K te) := by
  refine ⟨fun pins s σ H Q I h => Subscript_ (thn (he.run pins s σ H _ I h) fun v s1 hv => ?_)⟩
  obtain ⟨x, H1, I1, r1, a, xs, rfl, hx, hn, q⟩ := hv
  cases r1
  have part : PO X (some (.UnaryOp .USub (.Constant (.int 1) k p1) p2)) (tPart (tUn (rU fun i => .int (-i)) (tC (.int 1)))) := po_some (pe_un un_neg pe_int)
  have part0 : PO X (some (.Constant (.int 0) k0 p0)) (tPart (tC (.int 0))) := po_some pe_int
  refine wpAny_Slice (thn (po_none.run pins s1 σ H1 (fun o H2 => o = none ∧ H2 = H1) I1 ⟨rfl, rfl⟩) fun vl s2 h2 => ?_)
  obtain ⟨_, H2, I2, pl, rfl, rfl⟩ := h2
  refine thn (part0.run pins s2 σ H2 (fun o H3 => o = some 0 ∧ H3 = H2) I2 ⟨0, rfl, rfl, rfl⟩) fun vu s3 h3 => ?_
  obtain ⟨_, H3, I3, pu, rfl, rfl⟩ := h3
  refine thn (part.run pins s3 σ H3 (fun o H4 => o = some (-1) ∧ H4 = H3) I3 ⟨1, rfl, -1, rfl, rfl, rfl⟩) fun vs s4 h4 => ?_
  obtain ⟨_, H4, I4, ps, rfl, rfl⟩ := h4
  have I5 : Inv X pins σ H4 { s4 with heap := s4.heap.push { cls := .type "slice", data := .fields #[vl, vu, vs] } } := I4.kept (t' := s4.toks) fun b ob q => Heap.get?_push_of_some _ q
  obtain ⟨its, r, ht, hz⟩ := I5.tuple hx
  have hlen := r.length
  show wpAny (model X.prog X.w) X.A (subscriptTail e (.Slice none (some (.Constant (.int 0) k0 p0)) (some (.UnaryOp .USub (.Constant (.int 1) k p1) p2)) p3) (.ref a) (.ref s4.heap.objs.size)) (EP X pins σ Q) X.xe { s4 with heap := s4.heap.push { cls := .type "slice", data := .fields #[vl, vu, vs] } }
  refine tail_any (ops := [.ref a, .ref s4.heap.objs.size]) ht.typeIs (PyProof.Rows.slot_tuple_getitem.lookup) ?_ (by with_unfolding_all rfl)
  refine tuple_tail (by rw [List.size_toArray]; omega) ht (Heap.IsSliceOf.new _ vl vu vs) pl pu ps ?_ (by rw [List.size_toArray]; omega)
  exact ⟨.ref _, _, I5.laid (t' := s4.toks) (o := .tup (xs.drop 1).reverse) (fun b ob q => Heap.get?_push_of_some _ q) (Nat.le_refl _) ⟨by rw [List.length_reverse, List.length_drop]; omega, _, (vals_drop r).reverse, IsTup.new _ _⟩, rfl, q _ (I5.hok.fresh (Nat.le_refl _))⟩
end My

namespace My
open PySem PySem.Spec PyProof.Rows L2
/-! ### things as data, whole: none, bools, ints, texts, lists, tuples, the empty dict -/
mutual
inductive Da (H : Hp) : V → PyData → Prop
  | non : Da H .non .none
  | bl (b : Bool) : Da H (.bl b) (.bool b)
  | int (i : Int) : Da H (.int i) (.int i)
  | str (z : Str) : Da H (.str z) (.str z)
  | lst {a : Addr} {xs : List V} {ds : List PyData} (e : H a = some (.lst xs)) (h : DaAll H xs ds) : Da H (.ref a) (.list ds)
  | tup {a : Addr} {xs : List V} {ds : List PyData} (e : Rd H a (.tup xs)) (h : DaAll H xs ds) : Da H (.ref a) (.tuple ds)
  | dct {a : Addr} (e : H a = some (.dK [])) : Da H (.ref a) (.dict [])
inductive DaAll (H : Hp) : List V → List PyData → Prop
  | nil : DaAll H [] []
  | cons {v : V} {vs : List V} {d : PyData} {ds : List PyData} (h : Da H v d) (t : DaAll H vs ds) : DaAll H (v :: vs) (d :: ds)
end
theorem rd_same {H H' : Hp} {a : Addr} {u : HO} (h : Rd H a u) (s : Same H H') : Rd H' a u := h.elim (fun e => .inl (s _ _ e)) fun ⟨o, e⟩ => .inr ⟨o, s _ _ e⟩
mutual
theorem Da.same {H H' : Hp} (s : Same H H') : ∀ {d : PyData} {v : V}, Da H v d → Da H' v d
  | _, _, .non => .non
  | _, _, .bl b => .bl b
  | _, _, .int i => .int i
  | _, _, .str z => .str z
  | _, _, .lst e h => .lst (s _ _ e) (DaAll.same s h)
  | _, _, .tup e h => .tup (rd_same e s) (DaAll.same s h)
  | _, _, .dct e => .dct (s _ _ e)
theorem DaAll.same {H H' : Hp} (s : Same H H') : ∀ {ds : List PyData} {vs : List V}, DaAll H vs ds → DaAll H' vs ds
  | _, _, .nil => .nil
  | _, _, .cons h t => .cons (Da.same s h) (DaAll.same s t)
end
theorem DaAll.length {H : Hp} : ∀ {ds : List PyData} {vs : List V}, DaAll H vs ds → vs.length = ds.length
  | _, _, .nil => rfl
  | _, _, .cons _ t => by rw [List.length_cons, List.length_cons, t.length]
theorem DaAll.get {H : Hp} : ∀ {ds : List PyData} {vs : List V} {i : Nat} {v : V}, DaAll H vs ds → vs[i]? = some v → ∃ d, ds[i]? = some d ∧ Da H v d
  | _, _, i, _, .nil, e => by cases i <;> cases e
  | _, _, 0, _, .cons h _, e => by
    cases e
    exact ⟨_, rfl, h⟩
  | _, _, i + 1, _, .cons _ t, e => t.get (i := i) e
theorem DaAll.at {H : Hp} : ∀ {ds : List PyData} {vs : List V} {i : Nat} {d : PyData}, DaAll H vs ds → ds[i]? = some d → ∃ v, vs[i]? = some v ∧ Da H v d
  | _, _, i, _, .nil, e => by cases i <;> cases e
  | _, _, 0, _, .cons h _, e => by
    cases e
    exact ⟨_, rfl, h⟩
  | _, _, i + 1, _, .cons _ t, e => t.at (i := i) e
theorem DaAll.app {H : Hp} : ∀ {ds es : List PyData} {vs ws : List V}, DaAll H vs ds → DaAll H ws es → DaAll H (vs ++ ws) (ds ++ es)
  | _, _, _, _, .nil, g => g
  | _, _, _, _, .cons h t, g => .cons h (t.app g)
theorem DaAll.drop {H : Hp} : ∀ {ds : List PyData} {vs : List V} (n : Nat), DaAll H vs ds → DaAll H (vs.drop n) (ds.drop n)
  | _, _, 0, h => by simpa using h
  | _, _, n + 1, .nil => by simpa using DaAll.nil
  | _, _, n + 1, .cons _ t => by simpa using t.drop n
theorem DaAll.take {H : Hp} : ∀ {ds : List PyData} {vs : List V} (n : Nat), DaAll H vs ds → DaAll H (vs.take n) (ds.take n)
  | _, _, 0, _ => by simpa using DaAll.nil
  | _, _, n + 1, .nil => by simpa using DaAll.nil
  | _, _, n + 1, .cons h t => by simpa using DaAll.cons h (t.take n)
theorem DaAll.rev {H : Hp} : ∀ {ds : List PyData} {vs : List V}, DaAll H vs ds → DaAll H vs.reverse ds.reverse
  | _, _, .nil => .nil
  | _, _, .cons h t => by
    rw [List.reverse_cons, List.reverse_cons]
    exact t.rev.app (.cons h .nil)
/-- the built-in type of a thing -/
def tyDa : PyData → String
  | .none => "NoneType"
  | .bool _ => "bool"
  | .int _ => "int"
  | .str _ => "str"
  | .list _ => "list"
  | .tuple _ => "tuple"
  | .dict _ => "dict"
theorem Da.ty {K : PySem.W.Frag} {H : Hp} {d : PyData} {v : V} (h : Da H v d) : TyX K H v (.type (tyDa d)) := by
  cases h with
  | non => exact .base .non
  | bl b => exact .base (.bl b)
  | int i => exact .base (.int i)
  | str z => exact .base (.str z)
  | lst e h => exact .base (.lst e)
  | dct e => exact .base (.dK e)
  | tup e h =>
    rcases e with e | ⟨o, e⟩
    · exact .base (.tup e)
    · exact .fTuple e
def dT : PyData → Bool | .tuple _ => true | _ => false
def dL : PyData → Bool | .list _ => true | _ => false
def dS : PyData → Bool | .str _ => true | _ => false
def dI : PyData → Bool | .int _ => true | .bool _ => true | _ => false
def dB : PyData → Bool | .bool _ => true | _ => false
theorem kit_tup (d : PyData) : kitB (tyDa d) "tuple" = some (dT d) := by cases d <;> (simp only [tyDa, dT]; decide +kernel)
theorem kit_lst (d : PyData) : kitB (tyDa d) "list" = some (dL d) := by cases d <;> (simp only [tyDa, dL]; decide +kernel)
theorem kit_str (d : PyData) : kitB (tyDa d) "str" = some (dS d) := by cases d <;> (simp only [tyDa, dS]; decide +kernel)
theorem kit_int (d : PyData) : kitB (tyDa d) "int" = some (dI d) := by cases d <;> (simp only [tyDa, dI]; decide +kernel)
theorem kit_bool (d : PyData) : kitB (tyDa d) "bool" = some (dB d) := by cases d <;> (simp only [tyDa, dB]; decide +kernel)
/-! ### what is read of it -/
mutual
def noL : PyData → Bool
  | .list _ => false
  | .tuple ds => noLs ds
  | .none | .bool _ | .int _ | .str _ | .dict _ => true
def noLs : List PyData → Bool
  | [] => true
  | d :: r => noL d && noLs r
end
section
variable {X : Cx} {pins : List (Addr × Obj)} {σ : L2.St} {H : Hp} {s : Shared}
mutual
theorem Da.reads (I : Inv X pins σ H s) : ∀ (d : PyData) (v : V) (u : Value), Da H v d → RelV v u → ∃ as, Reads s.heap u d as ∧ (noL d = true → sysModules ∉ as)
  | .none, _, _, h, r => by
    cases h
    cases r
    exact ⟨_, .none, fun _ z => nomatch z⟩
  | .bool b, _, _, h, r => by
    cases h
    cases r
    exact ⟨_, .bool b, fun _ z => nomatch z⟩
  | .int i, _, _, h, r => by
    cases h
    obtain ⟨t, rfl⟩ := r
    exact ⟨_, .int i t, fun _ z => nomatch z⟩
  | .str x, _, _, h, r => by
    cases h
    obtain ⟨t, rfl⟩ := r
    exact ⟨_, .str x t, fun _ z => nomatch z⟩
  | .list ds, _, _, h, r => by
    cases h with
    | lst e ha =>
      cases r
      obtain ⟨z, its, n, rv, ho⟩ := I.hok _ _ e
      obtain ⟨as, ra, _⟩ := Da.readsAll I ds _ its ha rv
      exact ⟨_, .list ho rfl rfl (by simpa using ra), fun z => by simp [noL] at z⟩
  | .tuple ds, _, _, h, r => by
    cases h with
    | tup e ha =>
      cases r
      obtain ⟨its, rv, ⟨o, ho, hc, n, hd⟩, hz⟩ := I.tuple (show SqT X.K H _ _ from .inl e)
      obtain ⟨as, ra, na⟩ := Da.readsAll I ds _ its ha rv
      exact ⟨_, .tuple ho hc hd (by simpa using ra), fun z => na (by simpa only [noL] using z)⟩
  | .dict kvs, _, _, h, r => by
    cases h with
    | dct e =>
      cases r
      obtain ⟨_, hne, vs, kv, o, es, ep, ho, hx, hdat, _, hp, _⟩ := I.hok _ _ e
      cases kv with
      | nil =>
        have he : es.toList = [] := by
          revert hp
          generalize es.toList = l
          intro hp
          cases hp
          rfl
        refine ⟨_, .dict ho hx.1 hdat (by rw [he]; exact .nil) (by rw [he]; exact .nil), fun _ z => ?_⟩
        simp only [List.append_nil, List.mem_singleton] at z
        rw [← z] at hne
        exact absurd hne (by decide)
theorem Da.readsAll (I : Inv X pins σ H s) : ∀ (ds : List PyData) (vs : List V) (us : List Value), DaAll H vs ds → Vals vs us → ∃ as, ReadsAll s.heap us ds as ∧ (noLs ds = true → sysModules ∉ as)
  | [], _, _, h, r => by
    cases h
    cases r
    exact ⟨_, .nil, fun _ z => nomatch z⟩
  | d :: ds, _, _, h, r => by
    cases h with
    | cons h t =>
      cases r with
      | cons r rt =>
        obtain ⟨as, ra, na⟩ := Da.reads I d _ _ h r
        obtain ⟨bs, rb, nb⟩ := Da.readsAll I ds _ _ t rt
        refine ⟨_, .cons ra rb, fun z => ?_⟩
        simp only [noLs, Bool.and_eq_true] at z
        intro m
        rcases List.mem_append.mp m with m | m
        · exact na z.1 m
        · exact nb z.2 m
end
end
/-! ### repr of it -/
structure rReprD (xs : List V) (H : Hp) (Q : VK) : Prop where
  ex : ∃ x d, xs = [x] ∧ Da H x d ∧ d.showable = true ∧ (d.hasDict = true → noL d = true) ∧ d.depth ≤ 60 ∧ d.shown.length ≤ sizeLine ∧ Q (.str d.shown) H
theorem call_reprD {X : Cx} (quiet : X.A.guards = some []) (hu : X.A.units + 64 < cLine) : CallR X (.builtin "repr") rReprD := by
  intro pins s σ H xs us Q I r h
  obtain ⟨x, d, rfl, hd, h1, h2, h3, h4, q⟩ := h
  obtain ⟨u, rfl, ru⟩ := vals1 r
  obtain ⟨as, rd, hs⟩ := Da.reads I d x u hd ru
  cases hd with
  | non =>
    cases (show u = Value.none from ru)
    exact PySem.P.repr_of_none ⟨.str "None", H, I.tok _, ⟨_, rfl⟩, by simpa only [PyData.shown] using q⟩
  | bl b =>
    cases (show u = Value.bool b from ru)
    exact PySem.P.repr_of_bool ⟨.str (if b then "True" else "False"), H, I.tok _, ⟨_, rfl⟩, by simpa only [PyData.shown] using q⟩
  | int i =>
    obtain ⟨tk, rfl⟩ := (show ∃ t, u = Value.int i t from ru)
    exact PySem.P.repr_of_int (by simpa only [PyData.showable, decide_eq_true_eq] using h1) ⟨V.str (Str.ofString (toString i)), H, I.tok _, ⟨_, rfl⟩, by simpa only [PyData.shown] using q⟩
  | str z =>
    obtain ⟨tk, rfl⟩ := (show ∃ t, u = Value.str z t from ru)
    exact PySem.P.repr_of_str ⟨.str (reprText z), H, I.tok _, ⟨_, rfl⟩, by simpa only [PyData.shown] using q⟩ (by simpa only [PyData.shown] using h4)
  | @lst a ys ds e ha =>
    cases (show u = Value.ref a from ru)
    exact PySem.repr_of_reads' rd h1 (fun z => hs (h2 z)) quiet (by omega) (fun _ _ z => z) (fun h' v tk k => ⟨.str (PyData.list ds).shown, H, I.kept k, ⟨_, rfl⟩, q⟩) h4
  | @tup a ys ds e ha =>
    cases (show u = Value.ref a from ru)
    exact PySem.repr_of_reads' rd h1 (fun z => hs (h2 z)) quiet (by omega) (fun _ _ z => z) (fun h' v tk k => ⟨.str (PyData.tuple ds).shown, H, I.kept k, ⟨_, rfl⟩, q⟩) h4
  | @dct a e =>
    cases (show u = Value.ref a from ru)
    exact PySem.repr_of_reads' rd h1 (fun z => hs (h2 z)) quiet (by omega) (fun _ _ z => z) (fun h' v tk k => ⟨.str (PyData.dict []).shown, H, I.kept k, ⟨_, rfl⟩, q⟩) h4
/-! ### x in t, x and the items of t data -/
def rInTup (K : PySem.W.Frag) : R2 := fun x y H Q => ∃ d ds, Dp K H x d ∧ Dp K H y (.tuple ds) ∧ SeqAt.shaped d = true ∧ SeqAt.shaped (.tuple ds) = true ∧ Q (.bl (ds.any fun z => PyData.eqv z d)) H
theorem op_inTup {X : Cx} (hu : X.A.units + 65 < cLine) : OpR X (compareOp .In) (rInTup X.K) := by
  intro pins s σ H x y v u Q I rx ry h
  obtain ⟨d, ds, hd, he, sd, se, q⟩ := h
  obtain ⟨as, r1⟩ := Dp.reads I d x v hd rx
  obtain ⟨bs, r2⟩ := Dp.reads I (.tuple ds) y u he ry
  have c2 : PyData.canLayAll0 ds = true := by
    have z := SeqAt.canLay_of_shaped se
    simpa only [PyData.canLay0] using z
  exact SeqAt.in_tuple_reads r2 r1 c2 (SeqAt.canLay_of_shaped sd) (room_in_shaped sd hu) ⟨.bl _, H, I, rfl, q⟩
end My

namespace My
open PySem PySem.Spec PyProof.Rows L2
/-! ### a list == [], whatever stands in it -/
def rEqNil : R2 := fun x y H Q => ∃ (a b : Addr) (xs : List V), x = .ref a ∧ y = .ref b ∧ H a = some (.lst xs) ∧ H b = some (.lst []) ∧ Q (.bl xs.isEmpty) H
theorem op_eqNil {X : Cx} (hu : X.A.units + 64 < cLine) : OpR X (compareOp .Eq) rEqNil := by
  intro pins s σ H x y v u Q I rx ry h
  obtain ⟨a, b, xs, rfl, rfl, ha, hb, q⟩ := h
  cases rx
  cases ry
  obtain ⟨z, its, n, r, hl, e⟩ := I.lstM ha
  obtain ⟨z2, its2, n2, r2, hl2, e2⟩ := I.lstM hb
  have l1 : s.heap.IsList a its.toArray := ⟨_, e, rfl, n, rfl⟩
  have l2 : s.heap.IsList b its2.toArray := ⟨_, e2, rfl, n2, rfl⟩
  have l0 : its2 = [] := by
    cases its2 with
    | nil => rfl
    | cons => cases hl2
  subst l0
  cases xs with
  | nil =>
    have l3 : its = [] := by
      cases its with
      | nil => rfl
      | cons => cases hl
    subst l3
    exact SeqAt.RcAt.lists l1 l2 rfl (by omega) (e := fun _ => true) (fun j h1 h2 => absurd h1 (Nat.not_lt_zero j)) _ _ _ _ ⟨.bl true, H, I, rfl, q⟩
  | cons x0 r0 =>
    have big : its.length = r0.length + 1 := hl.symm
    exact SeqAt.RcAt.lists_lengths l1 l2 (by simp only [List.size_toArray, big, List.length_nil]; rfl) (by omega) _ _ _ _ ⟨.bl false, H, I, rfl, q⟩
theorem call_len_seqK {X : Cx} {K : PySem.W.Frag} (hK : X.K = K) : CallR X (.builtin "len") (fun xs H Q => ∃ p ys, xs = [V.ref p] ∧ (SqL K H p ys ∨ SqT K H p ys) ∧ Q (.int ys.length) H) := by
  subst hK
  exact call_len_seq
theorem pi_listK {X : Cx} {K : PySem.W.Frag} (hK : X.K = K) {tg e : Expr} {te : TE} (h : PE X e te) : PI X tg e (iList K te) := by
  subst hK
  exact pi_list h
theorem op_eqDK {X : Cx} {K : PySem.W.Frag} (hK : X.K = K) (hu : X.A.units + 64 < cLine) : OpR X (compareOp .Eq) (rEqD K) := by
  subst hK
  exact op_eqD hu
theorem u65 {k : Nat} {A : Around} (r : Room k A) : A.units + 65 < cLine := by have := r.un; omega
theorem op_in_tup {X : Cx} (hu : X.A.units + 65 < cLine) : OpR X (compareOp .In) (rInTup X.K) := op_inTup hu
/-! ### pairs as data -/
theorem eqv_pair (a b : Str) (i j : Int) : PyData.eqv (.tuple [.str a, .int i]) (.tuple [.str b, .int j]) = decide ((a, i) = (b, j)) := by
  have e : PyData.eqv (.tuple [.str a, .int i]) (.tuple [.str b, .int j]) = ((a == b) && ((i == j) && true)) := by simp only [PyData.eqv, PyData.eqvAll]
  rw [e, Bool.and_true]
  by_cases h1 : a = b
  · by_cases h2 : i = j
    · subst h1 h2
      simp
    · rw [beq_eq_false_iff_ne.mpr h2, Bool.and_false]
      exact (decide_eq_false fun z => h2 (Prod.mk.inj z).2).symm
  · rw [beq_eq_false_iff_ne.mpr h1, Bool.false_and]
    exact (decide_eq_false fun z => h1 (Prod.mk.inj z).1).symm
theorem sh_pair {a : Str} (h : ∀ c ∈ a.cps.toList, c < 1114112) (i : Int) : SeqAt.shaped (.tuple [.str a, .int i]) = true := by
  show ((PyData.tuple [.str a, .int i]).canLay0 && decide ((PyData.tuple [.str a, .int i]).depth ≤ 64)) = true
  have h1 : (PyData.tuple [.str a, .int i]).canLay0 = true := by
    simp only [PyData.canLay0, PyData.canLayAll0, Bool.and_true, PyData.strOk, Array.all_eq_true, decide_eq_true_eq]
    intro j hj
    exact h _ (by simp)
  rw [h1]
  simp [PyData.depth, PyData.depthAll]
end My

namespace My
open PySem PySem.Spec PyProof.Rows L2
/-! ### what is a list or a tuple -/
def iEither (K : PySem.W.Frag) (tl : TE) : TI := fun σ H R => tl σ H fun x H1 => ∃ a, x = .ref a ∧ (((∃ xs, SqL K H1 a xs) ∧ R (Itl K a) H1) ∨ ((∃ xs, SqT K H1 a xs) ∧ R (Itt K a) H1))
theorem pi_either {X : Cx} {K : PySem.W.Frag} (hK : X.K = K) {tg e : Expr} {te : TE} (he : PE X e te) : PI X tg e (iEither K te) := by
  subst hK
  constructor
  intro pins s σ H R I w
  have ev := he.run pins s σ H _ I w
  refine thn ev ?_
  rintro v s1 ⟨x, G, J, rel, a, rfl, alt⟩
  cases rel
  have one : ∀ b, b ∈ [s1.heap.objs.size] → b = s1.heap.objs.size := fun b hb => List.mem_singleton.mp hb
  rcases alt with ⟨⟨xs, seq⟩, q⟩ | ⟨⟨xs, seq⟩, q⟩
  · obtain ⟨its, _, isl, _⟩ := J.list seq
    refine wpAny_pyIter_list isl.isList ?_
    refine ⟨s1.heap.objs.size, [s1.heap.objs.size], _, _, G, rfl, ?_, turn_list a _, ?_, ?_, q⟩
    · exact J.kept (t' := s1.toks) fun b o z => Heap.get?_push_of_some _ z
    · exact ⟨_, Heap.get?_push_size _ rfl, rfl, rfl⟩
    · intro b hb
      cases one b hb
      exact J.fpOk (Nat.le_refl _) (J.hok.fresh (Nat.le_refl _))
  · obtain ⟨its, _, ist, _⟩ := J.tuple seq
    have ist' : s1.heap.IsTuple a its.toArray := ist
    refine wpAny_pyIter_tuple ist' ?_
    refine ⟨s1.heap.objs.size, [s1.heap.objs.size], _, _, G, rfl, ?_, turn_tuple a _, ?_, ?_, q⟩
    · exact J.kept (t' := s1.toks) fun b o z => Heap.get?_push_of_some _ z
    · exact ⟨_, Heap.get?_push_size _ rfl, rfl, rfl⟩
    · intro b hb
      cases one b hb
      exact J.fpOk (Nat.le_refl _) (J.hok.fresh (Nat.le_refl _))
def rSlE (K : PySem.W.Frag) : V → Option Int → Option Int → Hp → VK → Prop := fun x lo hi H Q => rSlL K x lo hi H Q ∨ rSlX x lo hi H Q
theorem sl_either {X : Cx} : SlR X (rSlE X.K) := by
  intro pins s σ H v vv vl vu lo hi sl Q I rx hs pl pu h
  exact h.elim (sl_list pins s σ H v vv vl vu lo hi sl Q I rx hs pl pu) (sl_X pins s σ H v vv vl vu lo hi sl Q I rx hs pl pu)
/-! ### C(e, ..), the class's __init__ may raise; what is wished of the error may speak of the slots -/
def tMakeS (C : Addr) (sp : Sp) (E : L2.St → XK) (t : TA) : TE := fun σ H Q => t σ H fun vs H1 => ∀ x dx, H1 x = none → H1 dx = none → dx ≠ x → sp (.ref x :: vs) (upd (upd H1 dx (.own x)) x (.ins C dx [])) (fun v H2 => v = .non ∧ Q (.ref x) H2) (E σ)
theorem pe_makeS {X : Cx} {CX : CXT} {k : Nat} {f C : Addr} {fd : FuncData} {ps : List Str} {sp : Sp} {E : L2.St → XK} {x : Str} {p pos : Pos} {e : Expr} {es : List Expr} {t : TA} (M : Mk X.K C f) (F : FnOk X.prog X.w X.K X.mg X.base CX k f fd ps sp) (hr : Room (k + 1) X.A)
    (hg : Gl X x) (hm : X.mg x = some (.ref C)) (hb : Binds X.K fd ps []) (hx : ∀ σ, PassesAt CX X σ (E σ)) (ha : PA X (e :: es) t) (nd : (x == ("__debug__" : Str)) = false := by decide)
    (he : starEach (e :: es) X.env = (false, eval e X.env) :: starEach es X.env := by rfl) (hpl : (backTo pos (starEach es X.env)).any (·.1) = false := by rfl) : PE X (.Call (.Name x p) (e :: es) [] pos) (tMakeS C sp E t) := by
  constructor
  intro pins s σ H Q I w
  refine wpAny_Call_Name_kw (ld_glob I hg hm ?_ nd)
  have args := ha.run pos pins s σ H _ I w
  refine PySem.W.callWith_K (h₀ := X.base) I.ok.mod.kin M.kp (thn args ?_) he hpl
  rintro us t1 ⟨vs, G, J, rel, want⟩
  refine ⟨J.kIn, ?_⟩
  have fresh1 := J.hok.fresh (Nat.le_succ t1.heap.objs.size)
  have fresh0 := J.hok.fresh (Nat.le_refl t1.heap.objs.size)
  have promise := want _ _ fresh1 fresh0 (Nat.ne_of_lt (Nat.lt_succ_self _))
  have J2 := Inv.made (C := C) J
  have rel2 : Vals (V.ref (t1.heap.objs.size + 1) :: vs) (Value.ref (t1.heap.objs.size + 1) :: us) := .cons rfl rel
  have many : (Value.ref (t1.heap.objs.size + 1) :: us).length = ps.length := by
    rw [← rel2.length]
    exact F.len _ _ _ _ promise
  have bound := hb _ (Value.ref (t1.heap.objs.size + 1) :: us) J2.kIn (by rw [List.append_nil]; exact many)
  rw [List.append_nil] at bound
  have ran := F.run _ X.stack _ _ ⟨Value.ref (t1.heap.objs.size + 1) :: us, []⟩ _ _ _ (E σ) (hr.make C us []) (J2.env0.make C us []) bound rel2 promise
  refine wpAny_call (make_map (f := f) J.kIn M.makes M.init (beq_iff_eq.mp M.fn) (codeAny_mono ran ?_))
  rintro (z | fl) t2 post
  · exact hx σ pins _ _ z t2 J2 post
  · match fl, post with
    | .ret u, post =>
      obtain ⟨v, G2, J3, rv, ev, q3⟩ := J2.after post
      subst ev
      exact ⟨rv, V.ref (t1.heap.objs.size + 1), G2, J3, rfl, q3⟩
    | .next, post => exact False.elim post
    | .brk, post => exact False.elim post
    | .cont, post => exact False.elim post
end My

namespace My
open PySem PySem.Spec PyProof.Rows L2
/-! ### new lists that are not the table of modules; repr of such a list with {} in it -/
def rCatN : R2 := fun x y H Q => ∃ l b xs zs, x = .ref l ∧ y = .ref b ∧ H l = some (.lst xs) ∧ H b = some (.lst zs) ∧ xs.length + zs.length ≤ sizeLine ∧ ∀ p, H p = none → p ≠ sysModules → Q (.ref p) (upd H p (.lst (xs ++ zs)))
theorem op_catN {X : Cx} : OpR X (binaryOp .Add) rCatN := by
  rintro pins s σ H x y v u Q I rx ry ⟨l, b, xs, zs, rfl, rfl, hl, hb, fits, q⟩
  cases rx
  cases ry
  obtain ⟨_, i1, _, v1, n1, g1⟩ := I.lstM hl
  obtain ⟨_, i2, _, v2, n2, g2⟩ := I.lstM hb
  refine PySem.P.add_list g1 g2 ?_ ?_
  · rw [show i1.toArray ++ i2.toArray = (i1 ++ i2).toArray by simp]
    have far : s.heap.objs.size ≠ sysModules := Nat.ne_of_gt I.big
    refine ⟨.ref _, _, I.lnew (t' := s.toks) (v1.append v2) ?_, rfl, q _ I.fresh far⟩
    rw [List.length_append]
    exact fits
  · rw [List.size_toArray, List.size_toArray]
    omega
def tRevLN (K : PySem.W.Frag) (te : TE) : TE := fun σ H Q => te σ H fun x H1 => ∃ a xs, x = .ref a ∧ SqL K H1 a xs ∧ ∀ p, H1 p = none → p ≠ sysModules → Q (.ref p) (upd H1 p (.lst xs.reverse))
theorem pe_revLN {X : Cx} {e : Expr} {te : TE} {k : Nat} {p1 p2 p3 pos : Pos} (he : PE X e te) : PE X (.Subscript e (.Slice none none (some (.UnaryOp .USub (.Constant (.int 1) k p1) p2)) p3) pos) (tRevLN X.K te) := by
  refine ⟨fun pins s σ H Q I h => Subscript_ (thn (he.run pins s σ H _ I h) fun v s1 hv => ?_)⟩
  obtain ⟨x, H1, I1, r1, a, xs, rfl, hx, q⟩ := hv
  cases r1
  have part : PO X (some (.UnaryOp .USub (.Constant (.int 1) k p1) p2)) (tPart (tUn (rU fun i => .int (-i)) (tC (.int 1)))) := po_some (pe_un un_neg pe_int)
  refine wpAny_Slice (thn (po_none.run pins s1 σ H1 (fun o H2 => o = none ∧ H2 = H1) I1 ⟨rfl, rfl⟩) fun vl s2 h2 => ?_)
  obtain ⟨_, H2, I2, pl, rfl, rfl⟩ := h2
  refine thn (po_none.run pins s2 σ H2 (fun o H3 => o = none ∧ H3 = H2) I2 ⟨rfl, rfl⟩) fun vu s3 h3 => ?_
  obtain ⟨_, H3, I3, pu, rfl, rfl⟩ := h3
  refine thn (part.run pins s3 σ H3 (fun o H4 => o = some (-1) ∧ H4 = H3) I3 ⟨1, rfl, -1, rfl, rfl, rfl⟩) fun vs s4 h4 => ?_
  obtain ⟨_, H4, I4, ps, rfl, rfl⟩ := h4
  have I5 : Inv X pins σ H4 { s4 with heap := s4.heap.push { cls := .type "slice", data := .fields #[vl, vu, vs] } } := I4.kept (t' := s4.toks) fun b ob q => Heap.get?_push_of_some _ q
  obtain ⟨its, r, ht, hz⟩ := I5.list hx
  have hlen := r.length
  show wpAny (model X.prog X.w) X.A (subscriptTail e (.Slice none none (some (.UnaryOp .USub (.Constant (.int 1) k p1) p2)) p3) (.ref a) (.ref s4.heap.objs.size)) (EP X pins σ Q) X.xe { s4 with heap := s4.heap.push { cls := .type "slice", data := .fields #[vl, vu, vs] } }
  refine tail_any (ops := [.ref a, .ref s4.heap.objs.size]) (ht.isList.typeIs) (PySem.slot_list_getitem.lookup) ?_ (by with_unfolding_all rfl)
  refine wpAny_getItem_list_slice ht.isList (Heap.IsSliceOf.new _ vl vu vs) pl pu ps (by decide) ?_ (by rw [List.size_toArray]; omega)
  rw [PySem.W.krv_pick]
  have room : xs.reverse.length ≤ sizeLine := by rw [List.length_reverse]; exact hz
  exact ⟨.ref _, _, I5.laid (t' := s4.toks) (o := .lst xs.reverse) (fun b ob q => Heap.get?_push_of_some _ q) (Nat.le_refl _) ⟨room, _, 0, r.reverse, Heap.get?_push_size _ rfl⟩, rfl, q _ (I5.hok.fresh (Nat.le_refl _)) (Nat.ne_of_gt I5.big)⟩
/-- a list at an address of its own: its items hold no other list -/
structure rReprL (xs : List V) (H : Hp) (Q : VK) : Prop where
  ex : ∃ a ys ds, xs = [.ref a] ∧ a ≠ sysModules ∧ H a = some (.lst ys) ∧ DaAll H ys ds ∧ noLs ds = true ∧ (PyData.list ds).showable = true ∧ (PyData.list ds).depth ≤ 60 ∧ (PyData.list ds).shown.length ≤ sizeLine ∧ Q (.str (PyData.list ds).shown) H
def rReprE (xs : List V) (H : Hp) (Q : VK) : Prop := rReprD xs H Q ∨ rReprL xs H Q
theorem call_reprE {X : Cx} (quiet : X.A.guards = some []) (hu : X.A.units + 64 < cLine) : CallR X (.builtin "repr") rReprE := by
  rintro pins s σ H xs us Q I r (h | ⟨a, ys, ds, rfl, far, ha, hall, no, h1, h3, h4, q⟩)
  · exact call_reprD quiet hu pins s σ H xs us Q I r h
  · obtain ⟨u, rfl, ru⟩ := vals1 r
    cases (show u = Value.ref a from ru)
    obtain ⟨_, its, n, rv, ho⟩ := I.hok _ _ ha
    obtain ⟨as, ra, nas⟩ := Da.readsAll I ds _ its hall rv
    have rd : Reads s.heap (.ref a) (.list ds) (a :: as) := .list ho rfl rfl (by simpa using ra)
    have off : (PyData.list ds).hasDict = true → sysModules ∉ a :: as := fun _ m => by
      rcases List.mem_cons.mp m with m | m
      · exact far m.symm
      · exact nas no m
    exact PySem.repr_of_reads' rd h1 off quiet (by omega) (fun _ _ z => z) (fun h' v tk k => ⟨.str (PyData.list ds).shown, H, I.kept k, ⟨_, rfl⟩, q⟩) h4
end My

namespace My
open PySem PySem.Spec PyProof.Rows L2
/-! ### small data, and how long their repr is (ints below 10 ^ 50) -/
mutual
/-- how many tuples and lists there are -/
def nodes : PyData → Nat
  | .tuple ds => 1 + nodesL ds
  | .list ds => 1 + nodesL ds
  | .none | .bool _ | .int _ | .str _ | .dict _ => 1
def nodesL : List PyData → Nat
  | [] => 0
  | d :: r => nodes d + nodesL r
end
theorem nodesL_app : ∀ a b : List PyData, nodesL (a ++ b) = nodesL a + nodesL b
  | [], b => by simp [nodesL]
  | d :: r, b => by
    rw [List.cons_append]
    simp only [nodesL]
    rw [nodesL_app r b, Nat.add_assoc]
mutual
def smB : PyData → Bool
  | .str z => decide (z.length ≤ 100) && z.cps.toList.all fun c => decide (c < 1114112)
  | .int i => decide (i.natAbs < 10 ^ 50)
  | .tuple ds => smL ds
  | .list ds => smL ds
  | .dict kvs => kvs.isEmpty
  | .none | .bool _ => true
def smL : List PyData → Bool
  | [] => true
  | d :: r => smB d && smL r
end
theorem sm_str {z : Str} (h : smB (.str z) = true) : z.length ≤ 100 ∧ ∀ c ∈ z.cps.toList, c < 1114112 := by
  simp only [smB, Bool.and_eq_true, decide_eq_true_eq, List.all_eq_true] at h
  exact h
theorem textFrom_piled : ∀ (ts : List Str) (k : Nat) (acc : Str), (textFrom k acc ts).length ≤ acc.length + piled ts
  | [], k, acc => by
    show acc.length ≤ acc.length + _
    omega
  | t :: r, k, acc => by
    have ih := textFrom_piled r (k + 1) (acc ++ (if k > 0 then ", " else "" : String) ++ t)
    have e : (acc ++ (if k > 0 then ", " else "" : String) ++ t : Str).length ≤ acc.length + 2 + t.length := by
      rw [strLen_append, strLen_append]
      have z : ((if k > 0 then ", " else "" : String) : Str).length ≤ 2 := by
        split
        · exact Nat.le_refl 2
        · exact Nat.zero_le 2
      omega
    rw [piled_cons]
    show (textFrom (k + 1) _ r).length ≤ _
    omega
theorem listText_piled (ts : List Str) : (listText ts).length ≤ 2 + piled ts := by
  have z := textFrom_piled ts 0 "["
  unfold listText
  rw [strLen_append]
  have e1 : ("[" : Str).length = 1 := rfl
  have e2 : ("]" : Str).length = 1 := rfl
  omega
theorem tupleText_piled (ts : List Str) : (tupleText ts).length ≤ 3 + piled ts := by
  unfold tupleText
  rw [strLen_append, strLen_append]
  have e1 : ("(" : Str).length = 1 := rfl
  have e2 : ((if ts.length == 1 then ",)" else ")" : String) : Str).length ≤ 2 := by
    split
    · exact Nat.le_refl 2
    · exact Nat.le_succ 1
  cases ts with
  | nil =>
    have e3 : (Str.join ", " []).length = 0 := rfl
    omega
  | cons t r =>
    have y := join_length_add (t :: r) (fun z => nomatch z)
    omega
theorem int_log {i : Int} (h : i.natAbs < 10 ^ 50) : i.natAbs.log2 < 1920 := by
  by_cases z : i.natAbs = 0
  · rw [z]
    decide
  · have y := (Nat.log2_lt z (k := 1920)).mpr (Nat.lt_trans h (by decide))
    exact y
mutual
theorem sm_show : ∀ d : PyData, smB d = true → d.showable = true ∧ d.shown.length + 5 ≤ 2010 * nodes d
  | .none, _ => by
    refine ⟨by simp only [PyData.showable], ?_⟩
    simp only [nodes]
    exact Nat.le_trans (show (PyData.none).shown.length + 5 ≤ 100 by decide +kernel) (by decide)
  | .bool b, _ => by
    refine ⟨by simp only [PyData.showable], ?_⟩
    simp only [nodes]
    cases b
    · exact Nat.le_trans (show (PyData.bool false).shown.length + 5 ≤ 100 by decide +kernel) (by decide)
    · exact Nat.le_trans (show (PyData.bool true).shown.length + 5 ≤ 100 by decide +kernel) (by decide)
  | .int i, h => by
    simp only [smB, decide_eq_true_eq] at h
    have l := int_log h
    refine ⟨by simp only [PyData.showable, decide_eq_true_eq]; exact l, ?_⟩
    simp only [nodes, PyData.shown]
    have z : (Str.ofString (toString i)).length ≤ 1921 := by
      rw [PySem.ofString_length]
      exact int_text_length_le (by decide) l
    omega
  | .str z, h => by
    obtain ⟨h1, h2⟩ := sm_str h
    refine ⟨by simp only [PyData.showable], ?_⟩
    have rt := PySem.StrLaws.reprText_len z fun c hc => Nat.lt_trans (h2 c hc) (by decide)
    simp only [nodes]
    rw [PyData.shown]
    omega
  | .list ds, h => by
    simp only [smB] at h
    obtain ⟨a, b⟩ := sm_shows ds h
    refine ⟨by simp only [PyData.showable]; exact a, ?_⟩
    rw [PyData.shown]
    have y := listText_piled (PyData.shownAll ds)
    simp only [nodes]
    omega
  | .tuple ds, h => by
    simp only [smB] at h
    obtain ⟨a, b⟩ := sm_shows ds h
    refine ⟨by simp only [PyData.showable]; exact a, ?_⟩
    rw [PyData.shown]
    have y := tupleText_piled (PyData.shownAll ds)
    simp only [nodes]
    omega
  | .dict kvs, h => by
    simp only [smB, List.isEmpty_iff] at h
    subst h
    refine ⟨by simp only [PyData.showable, PyData.showableKv], ?_⟩
    simp only [nodes]
    exact Nat.le_trans (show (PyData.dict []).shown.length + 5 ≤ 100 by decide +kernel) (by decide)
theorem sm_shows : ∀ ds : List PyData, smL ds = true → PyData.showableAll ds = true ∧ piled (PyData.shownAll ds) ≤ 2010 * nodesL ds
  | [], _ => ⟨by simp only [PyData.showableAll], by simp [PyData.shownAll, piled]⟩
  | d :: r, h => by
    simp only [smL, Bool.and_eq_true] at h
    obtain ⟨a, b⟩ := sm_show d h.1
    obtain ⟨a', b'⟩ := sm_shows r h.2
    refine ⟨by simp only [PyData.showableAll, a, a', Bool.and_self], ?_⟩
    simp only [PyData.shownAll, nodesL]
    rw [piled_cons]
    omega
end
theorem smL_app : ∀ a b : List PyData, smL (a ++ b) = (smL a && smL b)
  | [], b => by simp [smL]
  | d :: r, b => by
    rw [List.cons_append]
    simp only [smL]
    rw [smL_app r b, Bool.and_assoc]
theorem smL_all (ds : List PyData) : smL ds = ds.all smB := by
  induction ds with
  | nil => simp [smL]
  | cons d r ih => simp only [smL, List.all_cons, ih]
theorem ne_self (x : V) : V.bl (!decide (x = x)) = V.bl false := by simp
end My

namespace My
open PySem PySem.Spec PyProof.Rows L2
/-! ### an instance's own special methods: len(o), bool(o), o[i], x in o, o + y; static methods; properties -/
/-- the class (or one above it) has a plain def of this name -/
structure OwnM (K : PySem.W.Frag) (C : Addr) (m : Str) (g : Addr) : Prop where
  at_ : PySem.W.findIn K (.ref C) m = some (some (.ref g))
  fn : PySem.W.isFn K (.ref g) = true
  fi : PySem.W.fnIn K g = true
  kp : PySem.W.keepIn K (.ref g) = true
theorem OwnM.meth {K : PySem.W.Frag} {C g : Addr} {m : Str} (M : OwnM K C m g) : Meth K C m g := ⟨M.at_, M.fn, M.kp⟩
/-- what is raised is never: a def whose promise wishes nothing of what it raises -/
theorem passE {P : Program} {w : World} {X : Cx} : Passes (L2.CX P w) X E0 := fun _ _ _ _ _ _ _ h => by
  obtain ⟨_, _, _, _, _, _, _, _, _, _, _, _, he⟩ := h
  exact False.elim he
section
variable {X : Cx} {CX : CXT} {k : Nat} {C g : Addr} {sp : Sp} {E : XK}
def rLenO (C : Addr) (sp : Sp) (E : XK) : List V → Hp → VK → Prop := fun xs H Q => ∃ a dx fs, xs = [V.ref a] ∧ H a = some (.ins C dx fs) ∧ sp [.ref a] H (fun v H' => ∃ n : Int, v = .int n ∧ 0 ≤ n ∧ n < 2 ^ 63 ∧ Q (.int n) H') E
theorem call_lenO (M : OwnM X.K C "__len__" g) (F : FnR X.prog X.w X.K X.mg X.base CX k g sp) (hr : Room (k + 1) X.A) (hx : Passes CX X E) : CallR X (.builtin "len") (rLenO C sp E) := by
  intro pins s σ H xs us Q I r h
  obtain ⟨a, dx, fs, rfl, ha, q⟩ := h
  obtain ⟨u, rfl, ru⟩ := vals1 r
  cases (show u = Value.ref a from ru)
  obtain ⟨mA, O, _⟩ := ins_get I.hok ha
  obtain ⟨od, J, _⟩ := O.look
  obtain ⟨m, hF⟩ := I.fr
  refine PySem.W.len_K hF I.ok.mod.kin J M.at_ M.fn (wpAny_mono (wpAny_call (SlX.run_at (us := [.ref a]) (ws := [.ref a]) F hr.in1 I.env0.in1 hx I (.cons rfl .nil) q)) (fun v s' z => ?_) fun _ _ x => x)
  obtain ⟨z', H', I', rz, n, ez, h0, h1, qz⟩ := z
  subst ez
  obtain ⟨t, e⟩ := (show ∃ t, v = Value.int n t from rz)
  cases e
  exact ⟨⟨h0, h1⟩, .int n, H', I'.tok _, ⟨_, rfl⟩, qz⟩
/-- an instance's truth -/
def rTruO (C : Addr) (sp : Sp) (E : XK) : V → Hp → (Bool → Hp → Prop) → Prop := fun x H Q => ∃ a dx fs, x = V.ref a ∧ H a = some (.ins C dx fs) ∧ sp [.ref a] H (fun v H' => ∃ b, v = .bl b ∧ Q b H') E
theorem truO {A : Around} {pins : List (Addr × Obj)} {s : Shared} {σ : L2.St} {H : Hp} {x : V} {v : Value} {Q : Bool → Hp → Prop} (M : OwnM X.K C "__bool__" g) (F : FnR X.prog X.w X.K X.mg X.base CX k g sp) (hr : Room k A)
    (e0 : Env0 X.prog X.w X.K X.mg X.base A X.stack s H) (hx : Passes CX X E) (I : Inv X pins σ H s) (rx : RelV x v) (h : rTruO C sp E x H Q) : wpAny (model X.prog X.w) A (truthy v) (TP X pins σ Q) X.xe s := by
  obtain ⟨a, dx, fs, rfl, ha, q⟩ := h
  cases (show v = Value.ref a from rx)
  obtain ⟨mA, O, _⟩ := ins_get I.hok ha
  obtain ⟨od, J, _⟩ := O.look
  obtain ⟨m, hF⟩ := I.fr
  refine PySem.W.truthy_K hF I.ok.mod.kin J M.at_ M.fn (wpAny_mono (wpAny_call (SlX.run_at (us := [.ref a]) (ws := [.ref a]) F hr e0 hx I (.cons rfl .nil) q)) (fun v s' z => ?_) fun _ _ x => x)
  obtain ⟨z', H', I', rz, b, ez, qz⟩ := z
  subst ez
  cases (show v = Value.bool b from rz)
  exact ⟨H', I', qz⟩
/-- bool(x), by what truthy says -/
theorem bool_new {prog : Program} {w : World} {A : Around} {R : Result → Shared → Prop} {s : Shared} {x : Value} {E : Value → Shared → Prop} (h : wpAny (model prog w) A.in1 (truthy x) (fun b s' => R (.ok (.ret (.bool b))) s') (fun e s' => R (.error e) s') s) :
    wpAny (model prog w) A.in1 (Builtin.«bool.__new__» ⟨[.type "bool", x], []⟩) (fun fin s' => match fin with | .done f => R (.ok f) s' | .again c' => c'.quiet = true ∧ codeAny (model prog w) A c' R s') (fun e s' => R (.error e) s') s := by
  have f1 := PySem.F.conv_sub_bool
  repeat (any_goals (first | assumption | (refine wpAny_bind (wpAny_mono h (fun _ _ z => ?_) fun _ _ z => z)) | wp_step))
theorem call_boolV {prog : Program} {w : World} {A : Around} {s : Shared} {x : Value} {Q E : Value → Shared → Prop} (h : wpAny (model prog w) A.in1.in1 (truthy x) (fun b s' => Q (.bool b) s') E s) : wpAny (model prog w) A (call (.type "bool") [x]) Q E s := by
  refine callType_codes (T := "bool") (Bi := Builtin.«object.__init__») (Q₁ := fun obj s₁ => s₁.TypeIs obj "bool" ∧ Q obj s₁) PySem.F.called_bool (PySem.F.typeCall_bool_1 x) PySem.F.entry_object_init ?_ ?_
  · refine codeAny_of_tree ?_
    show wpAny _ A.in1.in1 (do checkBuiltinCall "bool.__new__" ⟨[.type "bool", x], []⟩; again (.builtin "bool.__new__" ⟨[.type "bool", x], []⟩)) _ _ s
    refine wpAny_bind (wpAny_of_eq (PySem.F.newCall_bool_1 x) (wpAny_pure ⟨plainId_quiet (by decide +kernel) _, codeAny_builtin PySem.F.entry_bool_new ?_⟩))
    rw [Around.under_plainId (by decide +kernel) _]
    refine bool_new (A := A.in1) (R := PySem.wants (fun obj s₁ => s₁.TypeIs obj "bool" ∧ Q obj s₁) E) (E := E) (wpAny_mono h (fun b s' q => ?_) fun _ _ z => z)
    exact ⟨rfl, q⟩
  · rintro obj s₁ ⟨ht, hq⟩
    exact ⟨ht, PySem.F.args_object_init_2 _ _, object_init_meets PySem.F.called_bool.init.lookup PySem.F.called_bool.made (by decide) prog w A.in1 _ s₁ ⟨ht, rfl, hq⟩⟩
def rBoolO (C : Addr) (sp : Sp) (E : XK) : List V → Hp → VK → Prop := fun xs H Q => ∃ x, xs = [x] ∧ rTruO C sp E x H fun b H' => Q (.bl b) H'
theorem call_boolO (M : OwnM X.K C "__bool__" g) (F : FnR X.prog X.w X.K X.mg X.base CX k g sp) (hr : Room (k + 2) X.A) (hx : Passes CX X E) : CallR X (.type "bool") (rBoolO C sp E) := by
  intro pins s σ H xs us Q I r h
  obtain ⟨x, rfl, h⟩ := h
  obtain ⟨u, rfl, ru⟩ := vals1 r
  have hr2 : Room k X.A.in1.in1 := (show Room (k + 1) X.A.in1 from Room.in1 hr).in1
  refine call_boolV (wpAny_mono (truO M F hr2 I.env0.in1.in1 hx I ru h) (fun b s' z => ?_) fun _ _ z => z)
  obtain ⟨H', I', q⟩ := z
  exact ⟨.bl b, H', I', rfl, q⟩
/-- bool(a tuple) -/
def rBoolT (K : PySem.W.Frag) : List V → Hp → VK → Prop := fun xs H Q => ∃ a ys, xs = [V.ref a] ∧ SqT K H a ys ∧ Q (.bl (!ys.isEmpty)) H
theorem call_boolT : CallR X (.type "bool") (rBoolT X.K) := by
  intro pins s σ H xs us Q I r h
  obtain ⟨a, ys, rfl, hs, q⟩ := h
  obtain ⟨u, rfl, ru⟩ := vals1 r
  cases (show u = Value.ref a from ru)
  obtain ⟨its, rv, pl, hz⟩ := I.tuple hs
  have hl := line63
  have hlen := rv.length
  refine call_boolV (truthy_tuple pl (by simp only [List.size_toArray]; omega) ?_)
  exact ⟨.bl (!ys.isEmpty), H, I.tok _, by rw [isEmpty_of rv]; rfl, q⟩
/-- sum(a tuple of ints) -/
def rSumT (K : PySem.W.Frag) : List V → Hp → VK → Prop := fun vs H Q => ∃ (a : Addr) (ns : List Int), vs = [V.ref a] ∧ SqT K H a (ns.map V.int) ∧ Q (.int ns.sum) H
theorem call_sumT (hc : X.calm = true) : CallR X (.builtin "sum") (rSumT X.K) := by
  intro pins s σ H vs us Q I r h
  obtain ⟨a, ns, rfl, hs, q⟩ := h
  obtain ⟨its, rv, pl, _⟩ := I.tuple hs
  obtain ⟨u, rfl, ru⟩ := vals1 r
  cases (show u = Value.ref a from ru)
  have hi := rv.ints
  obtain ⟨xs, hx⟩ := hi.allInts.items
  have hn : numsOf its.toArray.toList = ns := by rw [show its.toArray.toList = its from rfl, hi.numsOf]
  have pl' : s.heap.IsTuple a its.toArray := pl
  rw [hx] at pl' hn
  rw [nums_intItems] at hn
  refine PySem.W.ktm_sumG (I.ok.hd hc) pl' fun h' tk t' hk => ?_
  rw [preSum_eq, List.take_of_length_le (by simp), hn]
  exact ⟨.int _, H, I.kept hk, ⟨_, rfl⟩, q⟩
/-- o[i] of an instance -/
def rIxO (C : Addr) (sp : Sp) (E : XK) : R2 := fun x y H Q => ∃ a dx fs, x = .ref a ∧ H a = some (.ins C dx fs) ∧ sp [.ref a, y] H Q E
def OwnIx (b : Expr) : Prop := ∀ o i, subscripted b true o i = runValue (.builtin "lifetime.subscript" ⟨[o, i], []⟩)
theorem pe_ixO {a b : Expr} {ta tb : TE} {pos : Pos} (M : OwnM X.K C "__getitem__" g) (F : FnR X.prog X.w X.K X.mg X.base CX k g sp) (hr : Room (k + 1) X.A) (hx : Passes CX X E) (ha : PE X a ta) (hb : PE X b tb) (hs : OwnIx b) :
    PE X (.Subscript a b pos) (tOp (rIxO C sp E) ta tb) := by
  refine ⟨fun pins s σ H Q I h => ?_⟩
  refine Subscript_ (binT ha hb I h fun v u s2 x y H2 I2 rx ry q => ?_)
  obtain ⟨a', dx, fs, rfl, ea, q⟩ := q
  cases (show v = Value.ref a' from rx)
  obtain ⟨mA, O, _⟩ := ins_get I2.hok ea
  obtain ⟨od, J, _⟩ := O.look
  obtain ⟨m, hF⟩ := I2.fr
  exact PySem.W.sub_K hF I2.ok.mod.kin J M.at_ M.fi M.fn (wpAny_call (SlX.run_at (us := [.ref a', u]) (ws := [.ref a', y]) F hr.in1 I2.env0.in1 hx I2 (.cons rfl (.cons ry .nil)) q)) (hs _ _)
/-- x in o of an instance: its __contains__ hands back a bool -/
def rInO (C : Addr) (sp : Sp) (E : XK) (f : Bool → Bool) : R2 := fun x y H Q => ∃ a dx fs, y = .ref a ∧ H a = some (.ins C dx fs) ∧ sp [.ref a, x] H (fun v H' => ∃ b, v = .bl b ∧ Q (.bl (f b)) H') E
theorem op_inO (M : OwnM X.K C "__contains__" g) (F : FnR X.prog X.w X.K X.mg X.base CX k g sp) (hr : Room k X.A) (hx : Passes CX X E) : OpR X (compareOp .In) (rInO C sp E id) := by
  intro pins s σ H x y v u Q I rx ry h
  obtain ⟨a, dx, fs, rfl, ea, q⟩ := h
  cases (show u = Value.ref a from ry)
  obtain ⟨mA, O, _⟩ := ins_get I.hok ea
  obtain ⟨od, J, _⟩ := O.look
  obtain ⟨m, hF⟩ := I.fr
  refine PySem.W.in_K hF I.ok.mod.kin J M.at_ M.fn (wpAny_mono (wpAny_call (run_fnR (us := [.ref a, v]) (vs := [.ref a, x]) F hr hx I (.cons rfl (.cons rx .nil)) q)) (fun z s' hz => ?_) fun _ _ z => z)
  obtain ⟨z', H', I', rz, b, ez, qz⟩ := hz
  subst ez
  cases (show z = Value.bool b from rz)
  exact wpAny_truthy_bool ⟨.bl b, H', I', rfl, qz⟩
/-- x op y by x's own method, y of the same class -/
def rBinO (C : Addr) (sp : Sp) (E : XK) : R2 := fun x y H Q => ∃ a dx fs b dy gs, x = .ref a ∧ H a = some (.ins C dx fs) ∧ y = .ref b ∧ H b = some (.ins C dy gs) ∧ sp [.ref a, .ref b] H Q E
theorem op_binO {op : Operator} {m : Str} (hm : PySem.dunder op.info.2 = m) (first : PySem.W.selfFirst X.K C = true) (M : OwnM X.K C m g) (F : FnR X.prog X.w X.K X.mg X.base CX k g sp) (hr : Room k X.A) (hx : Passes CX X E) : OpR X (binaryOp op) (rBinO C sp E) := by
  intro pins s σ H x y v u Q I rx ry h
  obtain ⟨a, dx, fs, b, dy, gs, rfl, ea, rfl, eb, q⟩ := h
  cases (show v = Value.ref a from rx)
  cases (show u = Value.ref b from ry)
  obtain ⟨mA, O, _⟩ := ins_get I.hok ea
  obtain ⟨od, J, _⟩ := O.look
  obtain ⟨mB, O2, _⟩ := ins_get I.hok eb
  obtain ⟨od2, J2, _⟩ := O2.look
  obtain ⟨m', hF⟩ := I.fr
  refine PySem.W.binop_K hF I.ok.mod.kin J J2.type first (by rw [hm]; exact M.at_) M.fn (wpAny_mono (wpAny_call (run_fnR (us := [.ref a, .ref b]) (vs := [.ref a, .ref b]) F hr hx I (.cons rfl (.cons rfl .nil)) q)) (fun z s' hz => ?_) fun _ _ z => z)
  obtain ⟨z', H', I', rz, qz⟩ := hz
  exact SlX.cmpback rz ⟨z', H', I', rz, qz⟩
/-- what the model's binary operators ask of the class and of int -/
structure BinI (K : PySem.W.Frag) (C : Addr) (m rm : Str) (T : String) : Prop where
  r : ∃ rc, PySem.W.findIn K (.ref C) rm = some rc ∧ (rc = none ∨ ∃ g : Addr, rc = some (.ref g))
  t1 : ∃ fo, PySem.W.findIn K (.type T) m = some fo
  t2 : ∃ ro, PySem.W.findIn K (.type T) rm = some ro
  sub : PySem.W.subIn K (.type T) (.ref C) = some false
/-- x op i by x's own method, i an int -/
def rBinI (C : Addr) (sp : Sp) (E : XK) : R2 := fun x y H Q => ∃ a dx fs i, x = .ref a ∧ H a = some (.ins C dx fs) ∧ y = .int i ∧ sp [.ref a, .int i] H Q E
theorem op_binI {op : Operator} {m rm : Str} (hm : PySem.dunder op.info.2 = m) (hrm : PySem.dunderR op.info.2 = rm) (first : PySem.W.selfFirst X.K C = true) (B : BinI X.K C m rm "int") (M : OwnM X.K C m g) (F : FnR X.prog X.w X.K X.mg X.base CX k g sp) (hr : Room k X.A) (hx : Passes CX X E) :
    OpR X (binaryOp op) (rBinI C sp E) := by
  intro pins s σ H x y v u Q I rx ry h
  obtain ⟨a, dx, fs, i, rfl, ea, rfl, q⟩ := h
  cases (show v = Value.ref a from rx)
  obtain ⟨t, rfl⟩ := (show ∃ t, u = Value.int i t from ry)
  obtain ⟨mA, O, _⟩ := ins_get I.hok ea
  obtain ⟨od, J, _⟩ := O.look
  obtain ⟨m', hF⟩ := I.fr
  obtain ⟨rc, hrc, hp⟩ := B.r
  obtain ⟨fo, h1⟩ := B.t1
  obtain ⟨ro, h2⟩ := B.t2
  refine PySem.W.ksp_binT hF I.ok.mod.kin J (T := "int") (by rfl) first (by rw [hm]; exact M.at_) M.fn (by rw [hrm]; exact hrc) hp (by rw [hm]; exact h1) (by rw [hrm]; exact h2) B.sub (wpAny_mono (wpAny_call (run_fnR (us := [.ref a, .int i t]) (vs := [.ref a, .int i]) F hr hx I (.cons rfl (.cons ⟨t, rfl⟩ .nil)) q)) (fun z s' hz => ?_) fun _ _ z => z)
  obtain ⟨z', H', I', rz, qz⟩ := hz
  exact SlX.cmpback rz ⟨z', H', I', rz, qz⟩
/-- C.m(e, ..), m a static method -/
structure SMet (K : PySem.W.Frag) (C : Addr) (mc : Value) (m : Str) (p g : Addr) : Prop where
  at_ : PySem.W.findCls K (.ref C) mc m = some (.get (.builtin "staticmethod.__get__") (.ref p) .none (.ref C))
  rc : ∃ rest, PySem.W.recIn K p "staticmethod" = some (.ref g :: rest)
  kp : PySem.W.keepIn K (.ref g) = true
theorem getsm_ok {pins : List (Addr × Obj)} {σ : L2.St} {H : Hp} {s : Shared} {mc : Value} {m : Str} {p : Addr} {pl : Sem Bool} {Q : Value × List Value → Shared → Prop} {A : Around} {E' : Value → Shared → Prop} (I : Inv X pins σ H s) (r : ClX.CRead X.K C mc) (c : SMet X.K C mc m p g)
    (h : ∀ s', Inv X pins σ H s' → Q (.ref g, []) s') : wpAny (model X.prog X.w) A (getMethod (.ref C) m pl) Q E' s := by
  obtain ⟨rest, hp⟩ := c.rc
  refine PySem.W.method_cls I.kIn r.ga ?_
  refine PySem.W.cls_bind I.kIn r.rd c.at_ (wpAny_call (PySem.W.sm_get (s := { s with toks := s.toks + 1 }) I.kIn hp (PySem.W.handed_on rfl ?_)))
  exact h _ (I.tok _)
def tSMeth (C : Addr) (sp : Sp) (E : XK) (ta : TE) (t : TA) : TE := fun σ H Q => ta σ H fun x H1 => x = .ref C ∧ t σ H1 fun vs H2 => sp vs H2 Q E
theorem pe_smeth {mc : Value} {m : Str} {p : Addr} {o e : Expr} {es : List Expr} {pos apos : Pos} {ta : TE} {t : TA} {pl : Sem Bool} (he : PE X o ta) (r : ClX.CRead X.K C mc) (c : SMet X.K C mc m p g) (F : FnR X.prog X.w X.K X.mg X.base CX k g sp) (hr : Room k X.A) (hx : Passes CX X E) (ha : PA X (e :: es) t)
    (hst : starEach (e :: es) X.env = (false, eval e X.env) :: starEach es X.env := by rfl) (hpl : (backTo pos (starEach es X.env)).any (·.1) = false := by rfl)
    (ht : eval (.Call (.Attribute o m apos) (e :: es) [] pos) X.env = (do
      let ov ← eval o X.env
      standAt apos.atName
      let (f, first) ← holding [ov] (getMethod ov m pl)
      callWith pos f first (backTo pos (starEach (e :: es) X.env)) (backToKw pos (keywordEach [] X.env))) := by rfl) :
    PE X (.Call (.Attribute o m apos) (e :: es) [] pos) (tSMeth C sp E ta t) := by
  refine ⟨fun pins s σ H Q I h => ?_⟩
  refine PySem.W.methodCall_KW (pl := pl) (thn (he.run pins s σ H _ I h) fun u s1 ⟨x, H1, I1, rx, ex, q⟩ => ?_) ht
  subst ex
  obtain rfl : u = Value.ref C := rx
  refine getsm_ok I1 r c fun s2 I2 => ?_
  refine PySem.W.callWith_K (first := []) (h₀ := X.base) I.ok.mod.kin c.kp (thn (ha.run pos pins s2 σ H1 _ I2 q) fun us s3 ⟨vs, H2, I3, rv, q2⟩ => ⟨I3.kIn, ?_⟩) hst hpl
  exact wpAny_call (run_fnR F hr hx I3 rv q2)
theorem pe_smeth0 {mc : Value} {m : Str} {p : Addr} {o : Expr} {pos apos : Pos} {ta : TE} {pl : Sem Bool} (he : PE X o ta) (r : ClX.CRead X.K C mc) (c : SMet X.K C mc m p g) (F : FnR X.prog X.w X.K X.mg X.base CX k g sp) (hr : Room k X.A) (hx : Passes CX X E)
    (ht : eval (.Call (.Attribute o m apos) [] [] pos) X.env = (do
      let ov ← eval o X.env
      standAt apos.atName
      let (f, first) ← holding [ov] (getMethod ov m pl)
      callWith pos f first (backTo pos (starEach [] X.env)) (backToKw pos (keywordEach [] X.env))) := by rfl) :
    PE X (.Call (.Attribute o m apos) [] [] pos) (tSMeth C sp E ta tNil) := by
  refine ⟨fun pins s σ H Q I h => ?_⟩
  refine PySem.W.methodCall_KW (pl := pl) (thn (he.run pins s σ H _ I h) fun u s1 ⟨x, H1, I1, rx, ex, q⟩ => ?_) ht
  subst ex
  obtain rfl : u = Value.ref C := rx
  refine getsm_ok I1 r c fun s2 I2 => ?_
  exact PySem.W.callWith_K0 (first := []) I2.kIn c.kp (wpAny_call (run_fnR (us := []) F hr hx I2 .nil q))
end
end My

namespace My
open PySem PySem.Spec PyProof.Rows L2
/-! ### the text by places -/
def topS (i : Nat) : Stmt := PySem.Challenge.pw_layoutswap_k03_layouts.main.body.getD i (.Pass ⟨0, 0, 0, 0⟩)
abbrev s_law_kneaded : Stmt := topS 22
theorem sc_law_kneaded : FnScope ["seed", "lap", "prime", "amount", "again"] ["seed", "lap"] (defScope s_law_kneaded) := ⟨rfl, rfl, rfl, by decide +kernel, rfl, by decide +kernel, by decide +kernel⟩
abbrev s_law_pot_of : Stmt := topS 23
theorem sc_law_pot_of : FnScope ["script", "cell", "cells", "place"] ["script"] (defScope s_law_pot_of) := ⟨rfl, rfl, rfl, by decide +kernel, rfl, by decide +kernel, by decide +kernel⟩
abbrev s_law_below : Stmt := topS 24
theorem sc_law_below : FnScope ["pot", "bound", "cells", "place", "amount", "found"] ["pot", "bound"] (defScope s_law_below) := ⟨rfl, rfl, rfl, by decide +kernel, rfl, by decide +kernel, by decide +kernel⟩
abbrev s_law_pick : Stmt := topS 25
theorem sc_law_pick : FnScope ["pot", "items"] ["pot", "items"] (defScope s_law_pick) := ⟨rfl, rfl, rfl, by decide +kernel, rfl, by decide +kernel, by decide +kernel⟩
/-! ### heaps -/
/-- all that was tracked is as it was, but what stands at p -/
def But (p : Addr) (H H' : Hp) : Prop := (∀ b o, H b = some o → b ≠ p → H' b = some o) ∧ H' p ≠ none
theorem But.trans {p : Addr} {H H1 H2 : Hp} (a : But p H H1) (b : But p H1 H2) : But p H H2 := ⟨fun c o e n => b.1 c o (a.1 c o e n) n, b.2⟩
theorem But.free {p : Addr} {H H' : Hp} (a : But p H H') {q : Addr} (h : H' q = none) : H q = none := by
  cases e : H q with
  | none => rfl
  | some o =>
    by_cases n : q = p
    · subst n
      exact absurd h a.2
    · rw [a.1 q o e n] at h
      cases h
theorem But.same {p : Addr} {H H1 H2 : Hp} (a : But p H H1) (b : Same H1 H2) : But p H H2 := ⟨fun c o e n => b c o (a.1 c o e n), fun z => by
  cases e : H1 p with
  | none => exact a.2 e
  | some o =>
    rw [b p o e] at z
    cases z⟩
theorem But.of {p : Addr} {H H1 : Hp} {o : HO} (h : H1 p = some o) (b : Same H H1) : But p H H1 := ⟨fun c o e n => b c o e, fun z => by
  rw [h] at z
  cases z⟩
theorem same_upd {H : Hp} {p : Addr} {o : HO} (h : H p = none) : Same H (upd H p o) := fun b x e => by
  rw [upd_ne (ne_of_none e h)]
  exact e
theorem but_upd {H : Hp} {p : Addr} {o : HO} : But p H (upd H p o) := ⟨fun b x e n => by
  rw [upd_ne n]
  exact e, fun z => by
  rw [upd_same] at z
  cases z⟩
/-- a pot at p, its cells at c -/
def Pot (H : Hp) (p c : Addr) : Prop := ∃ (ns : List Int) (pl am sz : Int), H p = some (.lst [.ref c, .int pl, .int am, .int sz]) ∧ H c = some (.lst (ns.map V.int)) ∧ ns.length ≤ 17
theorem pot_ne {H : Hp} {p c : Addr} {ns : List Int} {r : List V} (hp : H p = some (.lst (.ref c :: r))) (hc : H c = some (.lst (ns.map V.int))) : c ≠ p := fun z => by
  rw [z, hp] at hc
  cases ns with
  | nil => cases hc
  | cons x s => cases hc
theorem Pot.same {H H' : Hp} {p c : Addr} (h : Pot H p c) (s : Same H H') : Pot H' p c := by
  obtain ⟨ns, pl, am, sz, h1, h2, h3⟩ := h
  exact ⟨ns, pl, am, sz, s _ _ h1, s _ _ h2, h3⟩
theorem Pot.but {H H' : Hp} {p c q : Addr} (h : Pot H p c) (s : But q H H') (n1 : p ≠ q) (n2 : c ≠ q) : Pot H' p c := by
  obtain ⟨ns, pl, am, sz, h1, h2, h3⟩ := h
  exact ⟨ns, pl, am, sz, s.1 _ _ h1 n1, s.1 _ _ h2 n2, h3⟩
theorem at4 {x0 x1 x2 x3 : V} : atI [x0, x1, x2, x3] 0 = some x0 ∧ atI [x0, x1, x2, x3] 1 = some x1 ∧ atI [x0, x1, x2, x3] 2 = some x2 ∧ atI [x0, x1, x2, x3] 3 = some x3 := ⟨rfl, rfl, rfl, rfl⟩
theorem fmod_range {i j : Int} (h : 0 < j) : 0 ≤ i % j ∧ i % j < j := ⟨Int.emod_nonneg _ (by omega), Int.emod_lt_of_pos _ h⟩
theorem at_mod {ns : List Int} {pl : Int} (h : ns ≠ []) : ∃ z, atI (ns.map V.int) (pl % (ns.length : Int)) = some (.int z) := by
  have hl : 0 < ns.length := by
    cases ns with
    | nil => exact absurd rfl h
    | cons => exact Nat.succ_pos _
  have a := fmod_range (i := pl) (j := (ns.length : Int)) (by omega)
  obtain ⟨j, hj⟩ : ∃ j : Nat, pl % (ns.length : Int) = (j : Int) := ⟨(pl % (ns.length : Int)).toNat, by omega⟩
  have hjl : j < ns.length := by omega
  refine ⟨ns[j], ?_⟩
  rw [hj]
  refine atI_nat ?_
  rw [List.getElem?_map, List.getElem?_eq_getElem hjl]
  rfl
/-! ### data: lists of ints, of texts -/
theorem dp_ints {K : PySem.W.Frag} {H : Hp} : ∀ ns : List Int, DpAll K H (ns.map V.int) (ns.map PyData.int)
  | [] => .nil
  | n :: r => .cons (.int n) (dp_ints r)
theorem lay_ints : ∀ ns : List Int, PyData.canLayAll0 (ns.map PyData.int) = true
  | [] => by simp [PyData.canLayAll0]
  | n :: r => by simp [PyData.canLayAll0, PyData.canLay0, lay_ints r]
theorem dep_ints : ∀ ns : List Int, PyData.depthAll (ns.map PyData.int) ≤ 1
  | [] => by simp [PyData.depthAll]
  | n :: r => by
    have h := dep_ints r
    simp only [List.map_cons, PyData.depthAll, PyData.depth]
    omega
theorem sh_of {d : PyData} (h1 : d.canLay0 = true) (h2 : d.depth ≤ 64) : SeqAt.shaped d = true := by
  show (d.canLay0 && decide (d.depth ≤ 64)) = true
  rw [h1, decide_eq_true h2]
  rfl
theorem sh_ints (ns : List Int) : SeqAt.shaped (.list (ns.map PyData.int)) = true := by
  have h := dep_ints ns
  exact sh_of (by simp only [PyData.canLay0]; exact lay_ints ns) (by simp only [PyData.depth]; omega)
theorem sh_nil : SeqAt.shaped (.list []) = true := sh_of (by simp [PyData.canLay0, PyData.canLayAll0]) (by simp [PyData.depth, PyData.depthAll])
theorem eqv_nil : ∀ ds : List PyData, PyData.eqv (.list ds) (.list []) = decide (ds = [])
  | [] => by simp [PyData.eqv, PyData.eqvAll]
  | _ :: _ => by simp [PyData.eqv, PyData.eqvAll]
theorem pos17 : (0 : Int) < 17 := by decide
theorem posQ : (0 : Int) < 982451629 := by decide
theorem div64 {i j : Int} (h : 0 < j) (h1 : j < 18446744073709551616) : CDivW i j := wide_div (b := 65) h (by omega) (by decide) (by decide)
theorem posP : (0 : Int) < 2305843009213693907 := by decide
/-! ### what the module holds -/
structure TxtD (mg : Str → Option Value) : Prop where
  n_int : mg "int" = none
  n_range : mg "range" = none
  n_abs : mg "abs" = none
  n_enumerate : mg "enumerate" = none
  n_len : mg "len" = none
/-! ### promises -/
def spKneaded : Sp := fun vs H Q _ => ∃ (a b : Int), vs = [.int a, .int b] ∧ ∀ v, Q (.int v) H
def spPotOf (K : PySem.W.Frag) : Sp := fun vs H Q _ => ∃ (a : Addr) (ns : List Int), vs = [.ref a] ∧ SqL K H a (ns.map V.int) ∧ ns.length ≤ 63 ∧ ∀ p c H', Same H H' → H p = none → H c = none → Pot H' p c → Q (.ref p) H'
def spBelow : Sp := fun vs H Q _ => ∃ (p c : Addr) (b : Int), vs = [.ref p, .int b] ∧ Pot H p c ∧ 0 < b ∧ b < 18446744073709551616 ∧ ∀ v H', 0 ≤ v → v < b → Pot H' p c → But p H H' → Q (.int v) H'
def spPick (K : PySem.W.Frag) : Sp := fun vs H Q _ => ∃ (p c l : Addr) (xs : List V), vs = [.ref p, .ref l] ∧ Pot H p c ∧ SqL K H l xs ∧ xs ≠ [] ∧ xs.length < 1073741824 ∧ (∀ H', But p H H' → SqL K H' l xs) ∧ ∀ v H', v ∈ xs → Pot H' p c → But p H H' → Q v H'
section
variable {P : Program} {w : World} {K : PySem.W.Frag} {mg : Str → Option Value} {base : Heap}
theorem ok_kneaded {f : Addr} {fd : FuncData} {k : Nat} (F : Fun K "_law_kneaded" "_law_kneaded" s_law_kneaded f fd) (T : TxtD mg) : FnOk P w K mg base CX0 (k + 1) f fd ["seed", "lap"] spKneaded := by
  refine F.ok sc_law_kneaded (fun vs H Q E h => ?_) (fun cdv A outer s H vs Q E hr h => ?_)
  · obtain ⟨a, b, rfl, _⟩ := h
    rfl
  · obtain ⟨a, b, rfl, q⟩ := h
    refine ⟨_, (pss_cons (ps_set (i := 2) sc_law_kneaded.nd rfl (.inl rfl) pe_int)
  (pss_cons (ps_set (i := 3) sc_law_kneaded.nd rfl (.inl rfl) (pe_op op_mod (pe_callTy call_int1 (by rfl) T.n_int (by decide +kernel) (pa_cons (pe_op op_add (pe_op op_add (pe_op op_mul (pv 0) pe_int) (pe_op op_mul (pv 1) pe_int)) pe_int) pa_nil)) (pv 2)))
  (pss_cons (ps_for PassesOwn.never rfl (pi_range1 (by rfl) T.n_range (pa_cons pe_int pa_nil)) (pg_name (i := 4) sc_law_kneaded.nd rfl (.inl rfl))
   (pss_one (ps_set (i := 3) sc_law_kneaded.nd rfl (.inl rfl) (pe_op op_mod (pe_callTy call_int1 (by rfl) T.n_int (by decide +kernel) (pa_cons (pe_op op_add (pe_op op_add (pe_op op_add (pe_op op_mul (pv 3) (pv 3)) (pe_op op_mul pe_int (pv 3))) (pe_op op_mul pe_int (pv 4))) (pv 1)) pa_nil)) (pv 2)))))
  (pss_one (ps_ret (pe_op op_add (pe_op op_mul (pv 3) (pv 2)) (pe_op op_mod (pe_callTy call_int1 (by rfl) T.n_int (by decide +kernel) (pa_cons (pe_op op_add (pe_op op_mul (pv 3) pe_int) (pv 1)) pa_nil)) (pv 2)))))))), ?_⟩
    -- prime = ..; amount = ..
    refine ⟨_, rfl, _, _, rfl, rfl, .inr ⟨by decide, by decide⟩, _, rfl, _, _, rfl, rfl, .inr ⟨by decide, by decide⟩, _, _, rfl, rfl, _, _, rfl, rfl, .inl ⟨_, rfl, _, rfl, _, _, rfl, rfl, posP, ?_⟩⟩
    refine ⟨4, rfl, by decide, by decide, for_range (n := 4) (fun i σ H2 => H2 = H ∧ ∃ (am : Int) (v : Option V), σ = [some (.int a), some (.int b), some (.int 2305843009213693907), some (.int am), v] ∧ 0 ≤ am ∧ am < 2305843009213693907)
      ⟨rfl, _, none, rfl, (fmod_range (by decide)).1, (fmod_range (by decide)).2⟩ ?_ ?_⟩
    · rintro i σ H2 hi ⟨rfl, am, v, rfl, h1, h2⟩
      refine ⟨_, rfl, _, rfl, _, _, rfl, rfl, .inl ⟨by omega, by omega⟩, _, rfl, _, _, rfl, rfl, .inl ⟨by decide, by decide⟩, _, _, rfl, rfl, _, rfl, _, _, rfl, rfl, .inl ⟨by decide, by decide⟩, _, _, rfl, rfl, _, rfl, _, _, rfl, rfl, .inl ⟨_, rfl, _, rfl, _, _, rfl, rfl, posP, ?_⟩⟩
      exact ⟨rfl, _, _, rfl, (fmod_range (by decide)).1, (fmod_range (by decide)).2⟩
    · rintro σ H2 ⟨rfl, am, v, rfl, h1, h2⟩
      refine ⟨_, rfl, _, rfl, _, _, rfl, rfl, .inl ⟨by omega, by omega⟩, _, rfl, _, _, rfl, rfl, .inl ⟨by omega, by omega⟩, _, rfl, _, _, rfl, rfl, .inl ⟨_, rfl, _, rfl, _, _, rfl, rfl, posP, ?_⟩⟩
      exact ⟨_, _, rfl, rfl, q _⟩
theorem cut_map (ns : List Int) (lo hi : Option Int) : cutV (ns.map V.int) lo hi = ((ns.drop (HT.sIx ns.length 0 lo)).take (HT.sIx ns.length ns.length hi - HT.sIx ns.length 0 lo)).map V.int := by
  unfold cutV
  rw [List.length_map, List.map_take, List.map_drop]
theorem ok_pot_of {f : Addr} {fd : FuncData} {k : Nat} (F : Fun K "_law_pot_of" "_law_pot_of" s_law_pot_of f fd) (T : TxtD mg) : FnOk P w K mg base CX0 (k + 1) f fd ["script"] (spPotOf K) := by
  refine F.ok sc_law_pot_of (fun vs H Q E h => ?_) (fun cdv A outer s H vs Q E hr h => ?_)
  · obtain ⟨a, ns, rfl, _⟩ := h
    rfl
  · obtain ⟨a, ns, rfl, hS, hl, q⟩ := h
    refine ⟨_, (pss_cons (ps_setLc (i := 2) (own := [("cell", 1)]) (g := gName 1) rfl sc_law_pot_of.nd rfl rfl (sw_true rfl rfl rfl (by decide +kernel)) (pi_list (pe_slice sl_list (pv 0) po_none (po_some pe_int))) (blkOk_by (own := [("cell", 1)]) (N := ["script", "cell", "cells", "place"]) (sc := defScope s_law_pot_of) (by decide +kernel)) (fun _ _ _ _ _ => (pg_name (i := 1) sc_law_pot_of.nd rfl (.inl rfl))) (fun _ _ _ _ _ => pts_nil) (fun _ _ _ _ _ => (pe_callB call_abs (by rfl) T.n_abs (by decide +kernel) (pa_cons (pv 1) pa_nil))))
  (pss_cons (ps_for PassesOwn.never rfl (pi_enum (by rfl) T.n_enumerate (pa_cons (pe_slice sl_list (pv 0) (po_some pe_int) (po_some pe_int)) pa_nil)) (pg_tup rfl (pgs_cons (pg_name (i := 3) sc_law_pot_of.nd rfl (.inl rfl)) (pgs_cons (pg_name (i := 1) sc_law_pot_of.nd rfl (.inl rfl)) pgs_nil)))
   (pss_one (ps_asg (pe_op op_add (pe_ix ix_list (pv 2) (pe_op op_mod (pv 3) pe_int) (fun _ _ => rfl)) (pe_callB call_abs (by rfl) T.n_abs (by decide +kernel) (pa_cons (pv 1) pa_nil))) (pg_sub (pv 2) (pe_op op_mod (pv 3) pe_int) set_list))))
  (pss_one (ps_ret (pe_lst (pa_cons (pv 2) (pa_cons pe_int (pa_cons pe_int (pa_cons pe_int pa_nil))))))))), ?_⟩
    -- cells
    refine ⟨_, rfl, _, rfl, a, _, rfl, hS, fun p1 n1 => ?_⟩
    rw [cut_map]
    generalize hm : (ns.drop (HT.sIx ns.length 0 none)).take (HT.sIx ns.length ns.length (some 17) - HT.sIx ns.length 0 none) = ms
    have lm : ms.length = min 17 ns.length := by
      rw [← hm, HT.sIx_none, show HT.sIx ns.length ns.length (some 17) = min 17 ns.length from HT.sIx_nat ns.length ns.length 17]
      rw [List.drop_zero, List.length_take]
      omega
    have s1 : Same H (upd H p1 (.lst (ms.map V.int))) := same_upd n1
    refine ⟨p1, rfl, ⟨_, .inl (.inl upd_same)⟩, fun D nD => ?_⟩
    have nDH : H D = none := s1.free nD
    have nDp : p1 ≠ D := fun z => by
      rw [z, upd_same] at nD
      cases nD
    refine lc_list (K := K) (a := p1) (xs := ms.map V.int) (fun i H2 => Same (upd H p1 (.lst (ms.map V.int))) H2 ∧ ∃ zs : List Int, H2 D = some (.lst (zs.map V.int)) ∧ zs.length = i) ⟨same_upd nD, [], upd_same, rfl⟩ (fun i H2 _ h => .inl (.inl (h.1 _ _ upd_same))) ?_ ?_
    · rintro i x H2 hi ⟨s2, zs, hz, hlz⟩
      have hil : i < ms.length := by
        have h := (List.getElem?_eq_some_iff.mp hi).1
        rw [List.length_map] at h
        exact h
      rw [List.getElem?_map, List.getElem?_eq_getElem hil] at hi
      obtain rfl : V.int ms[i] = x := Option.some.inj hi
      refine ⟨rfl, ?_⟩
      unfold tYes
      dsimp only
      rw [if_pos rfl]
      refine ⟨_, rfl, _, rfl, _, hz, ?_, ?_, ?_⟩
      · rw [List.length_map]
        exact small1000 (by omega)
      · exact fun b o e => by
          have hb : b ≠ D := ne_of_none e nD
          rw [upd_ne hb]
          exact s2 b o e
      · refine ⟨zs ++ [if ms[i] < 0 then -ms[i] else ms[i]], ?_, ?_⟩
        · rw [upd_same, List.map_append]
          rfl
        · rw [List.length_append, hlz]
          rfl
    · rintro H2 ⟨s2, zs, hz, hlz⟩
      have sH : Same H H2 := s1.trans s2
      rw [List.length_map] at hlz
      -- enumerate(script[17:60])
      refine ⟨_, rfl, _, rfl, _, rfl, a, _, rfl, sH.seq hS, fun p2 n2 => ?_⟩
      rw [cut_map]
      generalize hm2 : (ns.drop (HT.sIx ns.length 0 (some 17))).take (HT.sIx ns.length ns.length (some 60) - HT.sIx ns.length 0 (some 17)) = ms2
      have lm2 : ms2.length = min 60 ns.length - 17 := by
        rw [← hm2, show HT.sIx ns.length ns.length (some 60) = min 60 ns.length from HT.sIx_nat ns.length ns.length 60, show HT.sIx ns.length 0 (some 17) = min 17 ns.length from HT.sIx_nat ns.length 0 17]
        rw [List.length_take, List.length_drop]
        omega
      have s3 : Same H2 (upd H2 p2 (.lst (ms2.map V.int))) := same_upd n2
      have nDp2 : D ≠ p2 := ne_of_none hz n2
      refine ⟨p2, _, rfl, .inl (.inl upd_same), ?_⟩
      refine for_it (walk_enum (xs := ms2.map V.int)) (fun i σ H3 => Same H H3 ∧ H3 p2 = some (.lst (ms2.map V.int)) ∧ ∃ (zs : List Int) (y z : Option V), σ = [some (.ref a), y, some (.ref D), z] ∧ H3 D = some (.lst (zs.map V.int)) ∧ zs.length = ms.length)
        ⟨sH.trans s3, upd_same, zs, _, _, rfl, s3 _ _ hz, hlz⟩ (fun i σ H3 _ h => .inl (.inl h.2.1)) ?_ ?_
      · rintro i x σ H3 H4 hi ⟨s4, h4, zs4, y, z, rfl, hz4, lz4⟩ ⟨T4, x4, y4, rfl, nT, rfl, ex, ey⟩
        rw [List.length_map] at hi
        have ey : (ms2.map V.int)[i]? = some y4 := ey
        rw [List.getElem?_map, List.getElem?_eq_getElem hi] at ey
        obtain rfl : V.int ms2[i] = y4 := Option.some.inj ey
        obtain rfl : V.int (i : Nat) = x4 := Option.some.inj ex
        have l17 : zs4.length = 17 := by omega
        have r := fmod_range (i := ((i : Nat) : Int)) (j := 17) (by omega)
        obtain ⟨j, hj⟩ : ∃ j : Nat, ((i : Nat) : Int) % 17 = (j : Int) := ⟨(((i : Nat) : Int) % 17).toNat, by omega⟩
        have hjl : j < zs4.length := by omega
        have s5 : Same H3 (upd H3 T4 (.tup [.int (i : Nat), .int ms2[i]])) := same_upd nT
        have hz5 := s5 _ _ hz4
        refine ⟨T4, _, rfl, .inl (.inl upd_same), rfl, _, _, rfl, _, _, rfl, rfl, ?_⟩
        refine ⟨_, rfl, _, rfl, _, _, rfl, rfl, pos17, D, _, _, V.int zs4[j], rfl, rfl, .inl (.inl hz5), ?_, _, rfl, _, rfl, _, _, rfl, rfl, _, rfl, _, rfl, _, _, rfl, rfl, pos17, D, _, _, j, rfl, rfl, hz5, ?_, ?_⟩
        · rw [hj]
          refine atI_nat ?_
          rw [List.getElem?_map, List.getElem?_eq_getElem hjl]
          rfl
        · rw [List.length_map, hj]
          unfold ixN
          rw [if_pos (by omega), if_pos (by omega)]
          rfl
        · refine ⟨?_, ?_, zs4.set j (zs4[j] + (if ms2[i] < 0 then -ms2[i] else ms2[i])), _, _, rfl, ?_, ?_⟩
          · exact fun b o e => by
              have hb : b ≠ D := ne_of_none e nDH
              rw [upd_ne hb]
              exact s5 _ _ (s4 b o e)
          · rw [upd_ne (fun z => nDp2 z.symm)]
            exact s5 _ _ h4
          · rw [upd_same, List.map_set]
          · rw [List.length_set]
            exact lz4
      · rintro σ H3 ⟨s4, h4, zs4, y, z, rfl, hz4, lz4⟩
        refine ⟨_, rfl, ?_, fun p np => ?_⟩
        · show 4 ≤ sizeLine
          decide
        · have s6 : Same H3 (upd H3 p (.lst [.ref D, .int 0, .int 0, .int 0])) := same_upd np
          exact q p D _ (s4.trans s6) (s4.free np) nDH ⟨zs4, 0, 0, 0, upd_same, s6 _ _ hz4, by omega⟩
theorem ok_below {f fk : Addr} {fd fdk : FuncData} {k : Nat} (F : Fun K "_law_below" "_law_below" s_law_below f fd) (T : TxtD mg) (F__law_kneaded : Fun K "_law_kneaded" "_law_kneaded" s_law_kneaded fk fdk) (b__law_kneaded : Binds K fdk ["seed", "lap"] []) (g_k : mg "_law_kneaded" = some (.ref fk)) :
    FnOk P w K mg base CX0 (k + 2) f fd ["pot", "bound"] spBelow := by
  have G__law_kneaded : FnOk P w K mg base CX0 1 fk fdk ["seed", "lap"] spKneaded := ok_kneaded F__law_kneaded T
  refine F.ok sc_law_below (fun vs H Q E h => ?_) (fun cdv A outer s H vs Q E hr h => ?_)
  · obtain ⟨p, c, b, rfl, _⟩ := h
    rfl
  · obtain ⟨p, c, b, rfl, ⟨ns, pl, am, sz, hp, hc, hl⟩, b0, b1, q⟩ := h
    refine ⟨_, (C8.pss_cut (ps_if (pt_cmpR op_lt (pe_ix ix_list (pv 0) pe_int (fun _ _ => rfl)) (pv 1) (nomark _))
   (pss_cons (ps_par (i := 2) (j := 3) (by rfl) sc_law_below.nd rfl rfl (by decide) rfl rfl (pa_cons (pe_ix ix_list (pv 0) pe_int (fun _ _ => rfl)) (pa_cons (pe_ix ix_list (pv 0) pe_int (fun _ _ => rfl)) pa_nil)) (by rfl))
  (C8.pss_cut (ps_set (i := 4) sc_law_below.nd rfl (.inl rfl) (pe_ifExp (pt_cmpR (op_neD hr.units) (pv 2) (pe_lst pa_nil) (nomark _)) (pe_ix ix_list (pv 2) (pe_op op_mod (pv 3) (pe_callB call_len_seq (by rfl) T.n_len (by decide +kernel) (pa_cons (pv 2) pa_nil))) (fun _ _ => rfl)) pe_int))
  (C8.pss_cut (ps_if (PW.pt (pw_or (pt_cmpR op_ge (pv 3) (pe_callB call_len_seq (by rfl) T.n_len (by decide +kernel) (pa_cons (pv 2) pa_nil)) (nomark _)) (pw_or1 (pt_cmpR op_lt (pv 4) (pe_op op_pow pe_int pe_int) (nomark _)))))
   (pss_one (ps_set (i := 4) sc_law_below.nd rfl (.inl rfl) (pe_call G__law_kneaded (hr.mono (by omega)) (by rfl) g_k F__law_kneaded.kp b__law_kneaded .nil pass0 (pa_cons (pe_op op_mod (pe_callTy call_int1 (by rfl) T.n_int (by decide +kernel) (pa_cons (pv 4) pa_nil)) pe_int) (pa_cons (pv 3) pa_nil)))))
   pss_nil)
  (pss_cons (ps_asg (pe_op op_add (pv 3) pe_int) (pg_sub (pv 0) pe_int set_list))
  (pss_cons (ps_asg (pv 4) (pg_sub (pv 0) pe_int set_list))
  (pss_one (ps_asg (pv 4) (pg_sub (pv 0) pe_int set_list))))))))
   pss_nil)
  (pss_cons (ps_set (i := 5) sc_law_below.nd rfl (.inl rfl) (pe_op op_mod (pe_callTy call_int1 (by rfl) T.n_int (by decide +kernel) (pa_cons (pe_ix ix_list (pv 0) pe_int (fun _ _ => rfl)) pa_nil)) (pv 1)))
  (pss_cons (ps_asg (pe_op op_fdivW (pe_ix ix_list (pv 0) pe_int (fun _ _ => rfl)) (pv 1)) (pg_sub (pv 0) pe_int set_list))
  (pss_cons (ps_asg (pe_op op_fdivW (pe_ix ix_list (pv 0) pe_int (fun _ _ => rfl)) (pv 1)) (pg_sub (pv 0) pe_int set_list))
  (pss_one (ps_ret (pv 5))))))), ?_⟩
    have ncp : c ≠ p := pot_ne hp hc
    refine ⟨fun σ H2 => ∃ (pl2 am2 sz2 : Int) (x2 x3 x4 : Option V), σ = [some (.ref p), some (.int b), x2, x3, x4, none] ∧ But p H H2 ∧ H2 p = some (.lst [.ref c, .int pl2, .int am2, .int sz2]) ∧ H2 c = some (.lst (ns.map V.int)), ?_, ?_⟩
    · refine ⟨_, rfl, p, _, _, _, rfl, rfl, .inl (.inl hp), at4.2.2.2, _, rfl, _, _, rfl, rfl, _, rfl, ite2 (fun e => ?_) (fun e => ?_)⟩
      · refine ⟨_, rfl, p, _, _, _, rfl, rfl, .inl (.inl hp), at4.1, _, rfl, p, _, _, _, rfl, rfl, .inl (.inl hp), at4.2.1, _, _, rfl, ?_⟩
        -- amount = cells[..] if cells != [] else 0
        refine ⟨fun σ H2 => ∃ am3 : Int, σ = [some (.ref p), some (.int b), some (.ref c), some (.int pl), some (.int am3), none] ∧ Same H H2, ?_, ?_⟩
        · refine ⟨_, rfl, Nat.zero_le _, fun o no => ?_⟩
          have so : Same H (upd H o (.lst [])) := same_upd no
          have ho : SqL K (upd H o (.lst [])) o [] := .inl (.inl upd_same)
          have hp1 := so _ _ hp
          have hc1 := so _ _ hc
          refine ⟨_, _, .lst (.inl (.inl hc1)) (dp_ints ns), .lst ho .nil, sh_ints ns, sh_nil, _, rfl, ?_⟩
          rw [eqv_nil]
          by_cases hn : ns = []
          · subst hn
            refine iteF ?_
            exact ⟨_, rfl, so⟩
          · have h1 : decide (ns.map PyData.int = []) = false := by
              cases ns with
              | nil => exact absurd rfl hn
              | cons => rfl
            rw [h1]
            refine iteT ?_
            obtain ⟨z, hz⟩ := at_mod (pl := pl) hn
            have hl0 : 0 < ns.length := by
              cases ns with
              | nil => exact absurd rfl hn
              | cons => exact Nat.succ_pos _
            refine ⟨_, rfl, _, rfl, _, rfl, c, _, rfl, .inl (.inl (.inl hc1)), _, _, rfl, rfl, ?_, c, _, _, V.int z, rfl, rfl, .inl (.inl hc1), ?_, ?_⟩
            · rw [List.length_map]
              omega
            · rw [List.length_map]
              exact hz
            · exact ⟨z, rfl, so⟩
        -- if place >= len(cells) or amount < 10 ** 16
        · rintro σ H2 ⟨am3, rfl, s2⟩
          have hp2 := s2 _ _ hp
          have hc2 := s2 _ _ hc
          refine ⟨fun σ H2 => ∃ am3 : Int, σ = [some (.ref p), some (.int b), some (.ref c), some (.int pl), some (.int am3), none] ∧ Same H H2, ?_, ?_⟩
          · have yes : ∃ am4 : Int, ∀ v : Int, True := ⟨0, fun _ => True.intro⟩
            refine ⟨_, rfl, _, rfl, c, _, rfl, .inl (.inl (.inl hc2)), _, _, rfl, rfl, _, rfl, ?_⟩
            refine ite2 (fun e => ?_) (fun e => ?_)
            · refine iteT ?_
              refine ⟨_, rfl, .inl ⟨_, rfl, _, _, rfl, rfl, posQ, _, rfl, _, _, rfl, fun v => ⟨v, rfl, s2⟩⟩⟩
            · refine ⟨_, rfl, _, _, rfl, rfl, ⟨by decide, by decide, by decide⟩, _, _, rfl, rfl, _, rfl, ?_⟩
              refine ite2 (fun e => ?_) (fun e => ?_)
              · refine ⟨_, rfl, .inl ⟨_, rfl, _, _, rfl, rfl, posQ, _, rfl, _, _, rfl, fun v => ⟨v, rfl, s2⟩⟩⟩
              · exact ⟨am3, rfl, s2⟩
          · -- pot[1] = place + 1; pot[2] = amount; pot[3] = amount
            rintro σ H2 ⟨am3, rfl, s2⟩
            have hp2 := s2 _ _ hp
            have hc2 := s2 _ _ hc
            refine ⟨_, rfl, _, _, rfl, rfl, _, rfl, p, _, _, _, rfl, rfl, hp2, rfl, ?_⟩
            refine ⟨_, rfl, _, rfl, p, _, _, _, rfl, rfl, upd_same, rfl, ?_⟩
            refine ⟨_, rfl, _, rfl, p, _, _, _, rfl, rfl, upd_same, rfl, ?_⟩
            refine ⟨pl + 1, am3, am3, _, _, _, rfl, (((But.of hp2 s2).trans but_upd).trans but_upd).trans but_upd, ?_, ?_⟩
            · rw [upd_same]
              rfl
            · rw [upd_ne ncp, upd_ne ncp, upd_ne ncp]
              exact hc2
      · exact ⟨pl, am, sz, none, none, none, rfl, ⟨fun _ _ z _ => z, by rw [hp]; exact fun z => nomatch z⟩, hp, hc⟩
    · rintro σ H2 ⟨pl2, am2, sz2, x2, x3, x4, rfl, hb, hp2, hc2⟩
      -- found = int(pot[2]) % bound
      refine ⟨_, rfl, p, _, _, _, rfl, rfl, .inl (.inl hp2), at4.2.2.1, .inl ⟨_, rfl, _, rfl, _, _, rfl, rfl, b0, ?_⟩⟩
      -- pot[2] = pot[2] // bound; pot[3] = pot[3] // bound
      refine ⟨_, rfl, p, _, _, _, rfl, rfl, .inl (.inl hp2), at4.2.2.1, _, rfl, _, _, rfl, rfl, (div64 b0 b1), _, rfl, p, _, _, _, rfl, rfl, hp2, rfl, ?_⟩
      refine ⟨_, rfl, p, _, _, _, rfl, rfl, .inl (.inl upd_same), at4.2.2.2, _, rfl, _, _, rfl, rfl, (div64 b0 b1), _, rfl, p, _, _, _, rfl, rfl, upd_same, rfl, ?_⟩
      refine ⟨_, rfl, q _ _ (fmod_range b0).1 (fmod_range b0).2 ⟨ns, pl2, am2 / b, sz2 / b, ?_, ?_, hl⟩ ((hb.trans but_upd).trans but_upd)⟩
      · rw [upd_same]
        rfl
      · rw [upd_ne ncp, upd_ne ncp]
        exact hc2
theorem ok_pick {f fb : Addr} {fd fdb : FuncData} {k : Nat} (F : Fun K "_law_pick" "_law_pick" s_law_pick f fd) (T : TxtD mg) (F__law_below : Fun K "_law_below" "_law_below" s_law_below fb fdb) (b__law_below : Binds K fdb ["pot", "bound"] []) (g_b : mg "_law_below" = some (.ref fb))
    (G__law_below : FnOk P w K mg base CX0 2 fb fdb ["pot", "bound"] spBelow) : FnOk P w K mg base CX0 (k + 3) f fd ["pot", "items"] (spPick K) := by
  refine F.ok sc_law_pick (fun vs H Q E h => ?_) (fun cdv A outer s H vs Q E hr h => ?_)
  · obtain ⟨p, c, l, xs, rfl, _⟩ := h
    rfl
  · obtain ⟨p, c, l, xs, rfl, hP, hS, hne, hlen, hk, q⟩ := h
    have hl : 0 < xs.length := by
      cases xs with
      | nil => exact absurd rfl hne
      | cons => exact Nat.succ_pos _
    refine ⟨_, (pss_one (ps_ret (pe_ix ix_list (pv 1) (pe_call G__law_below (hr.mono (by omega)) (by rfl) g_b F__law_below.kp b__law_below .nil pass0 (pa_cons (pv 0) (pa_cons (pe_callB call_len_seq (by rfl) T.n_len (by decide +kernel) (pa_cons (pv 1) pa_nil)) pa_nil))) (fun _ _ => rfl)))), ?_⟩
    refine ⟨_, rfl, _, rfl, _, rfl, l, xs, rfl, .inl hS, p, c, _, rfl, hP, by omega, by omega, fun v H' v0 v1 hP' hb => ?_⟩
    obtain ⟨j, rfl⟩ : ∃ j : Nat, v = (j : Int) := ⟨v.toNat, by omega⟩
    have hj : j < xs.length := by omega
    exact ⟨l, xs, _, xs[j], rfl, rfl, hk H' hb, atI_nat (List.getElem?_eq_getElem hj), q _ H' (List.getElem_mem hj) hP' hb⟩
end
end My

namespace My
open PySem PySem.Spec PyProof.Rows L2
abbrev s_is_integer : Stmt := topS 5
theorem sc_is_integer : FnScope ["thing"] ["thing"] (defScope s_is_integer) := ⟨rfl, rfl, rfl, by decide +kernel, rfl, by decide +kernel, by decide +kernel⟩
abbrev s_trimmed : Stmt := topS 7
theorem sc_trimmed : FnScope ["factors", "many"] ["factors"] (defScope s_trimmed) := ⟨rfl, rfl, rfl, by decide +kernel, rfl, by decide +kernel, by decide +kernel⟩
abbrev s_are_factors : Stmt := topS 16
theorem sc_are_factors : FnScope ["thing", "factor"] ["thing"] (defScope s_are_factors) := ⟨rfl, rfl, rfl, by decide +kernel, rfl, by decide +kernel, by decide +kernel⟩
/-! ### factors -/
structure TxtF (mg : Str → Option Value) : Prop where
  n_isinstance : mg "isinstance" = none
  n_int : mg "int" = none
  n_bool : mg "bool" = none
  n_len : mg "len" = none
  n_list : mg "list" = none
  n_tuple : mg "tuple" = none
  n_all : mg "all" = none
/-- an integer from 0 on -/
def facD : PyData → Bool
  | .int i => decide (0 ≤ i)
  | _ => false
def itemsD : PyData → List PyData
  | .list ds => ds
  | .tuple ds => ds
  | _ => []
def okF (d : PyData) : Bool := (dL d || dT d) && (itemsD d).all facD
/-- how many of the first m are left without the zeros at the end -/
def lastN (ns : List Int) : Nat → Nat
  | 0 => 0
  | m + 1 => if ns[m]? = some 0 then lastN ns m else m + 1
def trimN (ns : List Int) : List Int := ns.take (lastN ns ns.length)
theorem lastN_le (ns : List Int) : ∀ m, lastN ns m ≤ m
  | 0 => Nat.le_refl _
  | m + 1 => by
    unfold lastN
    split
    · exact Nat.le_succ_of_le (lastN_le ns m)
    · exact Nat.le_refl _
theorem trimN_len (ns : List Int) : (trimN ns).length ≤ ns.length := by
  unfold trimN
  rw [List.length_take]
  omega
theorem last_stay {ns : List Int} {i : Nat} (h : ns[i]? ≠ some 0) : lastN ns (i + 1) = i + 1 := by
  rw [lastN, if_neg h]
theorem last_go {ns : List Int} {i : Nat} (h : ns[i]? = some 0) : lastN ns (i + 1) = lastN ns i := by
  rw [lastN, if_pos h]
theorem cut_take (ns : List Int) (m : Nat) : cutV (ns.map V.int) none (some (m : Int)) = (ns.take m).map V.int := by
  rw [cut_map, HT.sIx_none, show HT.sIx ns.length ns.length (some (m : Int)) = min m ns.length from HT.sIx_nat ns.length ns.length m, List.drop_zero, Nat.sub_zero]
  congr 1
  by_cases h : m ≤ ns.length
  · rw [Nat.min_eq_left h]
  · rw [Nat.min_eq_right (by omega), List.take_of_length_le (Nat.le_refl _), List.take_of_length_le (by omega)]
theorem eqI (a b : Int) : V.bl (decide (V.int a = V.int b)) = V.bl (decide (a = b)) := by
  congr 1
  refine decide_eq_decide.mpr ⟨fun h => ?_, fun h => by rw [h]⟩
  cases h
  rfl
theorem kit_seq {K : PySem.W.Frag} (d : PyData) : PySem.W.kitAny K (.type (tyDa d)) [.type "list", .type "tuple"] = some (dL d || dT d) := by
  refine kitAny_cons (b := dL d) (kit_ty (kit_lst d)) (fun h => ?_) (fun h => by rw [h]; rfl)
  refine kitAny_cons (b := dT d) (kit_ty (kit_tup d)) (fun h2 => by rw [h, h2]; exact kitAny_nil) (fun h2 => by rw [h2, Bool.or_true])
theorem same_rfl (H : Hp) : Same H H := fun _ _ e => e
theorem same_at {H H' : Hp} {p : Addr} {o : HO} (s : Same H H') (n : H p = none) : Same H (upd H' p o) := fun b x e => by
  rw [upd_ne (ne_of_none e n)]
  exact s b x e
structure spIsInt (vs : List V) (H : Hp) (Q : VK) (E : XK) : Prop where
  ex : ∃ x d, vs = [x] ∧ Da H x d ∧ Q (.bl (dI d && !dB d)) H
structure spFactors (K : PySem.W.Frag) (vs : List V) (H : Hp) (Q : VK) (E : XK) : Prop where
  ex : ∃ x, vs = [x] ∧ ((∃ d, Da H x d ∧ (itemsD d).length ≤ 1000 ∧ ∀ H', Same H H' → Q (.bl (okF d)) H') ∨ (∃ ty, TyX K H x (.type ty) ∧ (∀ H', Same H H' → TyX K H' x (.type ty)) ∧ PySem.W.kitAny K (.type ty) [.type "list", .type "tuple"] = some false ∧ ∀ H', Same H H' → Q (.bl false) H'))
/-- a list or a tuple of ints at a -/
def IntsAt (H : Hp) (a : Addr) (ns : List Int) : Prop := H a = some (.lst (ns.map V.int)) ∨ Rd H a (.tup (ns.map V.int))
theorem IntsAt.same {H H' : Hp} {a : Addr} {ns : List Int} (h : IntsAt H a ns) (s : Same H H') : IntsAt H' a ns := h.elim (fun e => .inl (s _ _ e)) fun e => .inr (rd_same e s)
theorem IntsAt.sq {K : PySem.W.Frag} {H : Hp} {a : Addr} {ns : List Int} (h : IntsAt H a ns) : SqL K H a (ns.map V.int) ∨ SqT K H a (ns.map V.int) := by
  rcases h with e | e
  · exact .inl (.inl (.inl e))
  · exact .inr (.inl e)
structure spTrim (vs : List V) (H : Hp) (Q : VK) (E : XK) : Prop where
  ex : ∃ a ns, vs = [.ref a] ∧ IntsAt H a ns ∧ ns.length ≤ 1000 ∧ ∀ r H', Same H H' → Rd H' r (.tup ((trimN ns).map V.int)) → Q (.ref r) H'
section
variable {P : Program} {w : World} {K : PySem.W.Frag} {mg : Str → Option Value} {base : Heap}
theorem ok_is_integer {f : Addr} {fd : FuncData} {k : Nat} (F : Fun K "is_integer" "is_integer" s_is_integer f fd) (T : TxtF mg) : FnOk P w K mg base CX0 (k + 1) f fd ["thing"] spIsInt := by
  refine F.ok sc_is_integer (fun vs H Q E h => ?_) (fun cdv A outer s H vs Q E hr h => ?_)
  · obtain ⟨x, d, rfl, _⟩ := h
    rfl
  · obtain ⟨x, d, rfl, hx, q⟩ := h
    refine ⟨_, (pss_one (ps_ret (pe_and (pe_callB call_isi (by rfl) T.n_isinstance (by decide +kernel) (pa_cons (pv 0) (pa_cons (pe_bltn (v := .ty "int") (by rfl) T.n_int (by decide +kernel) rfl) pa_nil))) (pe_one (pe_not (pe_callB call_isi (by rfl) T.n_isinstance (by decide +kernel) (pa_cons (pv 0) (pa_cons (pe_bltn (v := .ty "bool") (by rfl) T.n_bool (by decide +kernel) rfl) pa_nil)))))))), ?_⟩
    refine ⟨_, rfl, _, _, _, _, dI d, rfl, .ty "int", hx.ty, kit_ty (kit_int d), _, rfl, ?_⟩
    cases e : dI d with
    | false =>
      rw [e] at q
      exact iteF q
    | true =>
      rw [e] at q
      exact iteT ⟨_, rfl, _, _, _, _, dB d, rfl, .ty "bool", hx.ty, kit_ty (kit_bool d), _, rfl, q⟩
theorem ok_trimmed {f : Addr} {fd : FuncData} {k : Nat} (F : Fun K "trimmed" "trimmed" s_trimmed f fd) (T : TxtF mg) : FnOk P w K mg base CX0 (k + 1) f fd ["factors"] spTrim := by
  refine F.ok sc_trimmed (fun vs H Q E h => ?_) (fun cdv A outer s H vs Q E hr h => ?_)
  · obtain ⟨a, ns, rfl, _⟩ := h
    rfl
  · obtain ⟨a, ns, rfl, ha, hl, q⟩ := h
    refine ⟨_, (pss_cons (ps_set (i := 1) sc_trimmed.nd rfl (.inl rfl) (pe_callB call_len_seq (by rfl) T.n_len (by decide +kernel) (pa_cons (pv 0) pa_nil)))
  (pss_cons (ps_while PassesOwn.never (PW.pt (pw_and (pt_cmpR op_gt (pv 1) pe_int (nomark _)) (pw_and1 (pt_cmpR op_eq (pe_ix ix_seq (pv 0) (pe_op op_sub (pv 1) pe_int) (fun _ _ => rfl)) pe_int (nomark _)))))
   (pss_one (ps_aug (i := 1) sc_trimmed.nd rfl (.inl rfl) pe_int ip_sub)))
  (pss_one (ps_ret (pe_callTy call_tuple_of (by rfl) T.n_tuple (by decide +kernel) (pa_cons (pe_slice sl_either (pv 0) po_none (po_some (pv 1))) pa_nil)))))), ?_⟩
    refine ⟨_, rfl, a, _, rfl, ha.sq, ?_⟩
    rw [List.length_map]
    refine ⟨fun j σ H2 => H2 = H ∧ j ≤ ns.length ∧ lastN ns j = lastN ns ns.length ∧ σ = [some (.ref a), some (.int (j : Nat))], ⟨ns.length, rfl, Nat.le_refl _, rfl, rfl⟩, ?_⟩
    rintro j σ H2 ⟨rfl, hj, hlast, rfl⟩
    have fin : lastN ns j = j → ∀ r H', Same H2 H' → Rd H' r (.tup ((ns.take j).map V.int)) → Q (.ref r) H' := fun z r H' s e => by
      refine q r H' s ?_
      unfold trimN
      rw [← hlast, z]
      exact e
    have cut := cut_take ns j
    refine ⟨_, rfl, _, _, rfl, rfl, _, rfl, ?_⟩
    cases j with
    | zero =>
      rw [show decide (((0 : Nat) : Int) > 0) = false by decide]
      refine iteF ?_
      refine iteF ?_
      refine ⟨_, rfl, _, rfl, _, rfl, ?_⟩
      rcases ha with e | e
      · refine .inl ⟨a, _, rfl, .inl (.inl e), fun p np => ?_⟩
        rw [cut]
        refine ⟨p, _, rfl, .inl ⟨.inl (.inl upd_same), fun l nl => ?_⟩⟩
        exact fin rfl l _ ((same_upd np).trans (same_upd nl)) (.inl upd_same)
      · refine .inr ⟨a, _, rfl, e, fun r H' s1 e1 => ?_⟩
        rw [cut] at e1
        exact ⟨r, _, rfl, .inr ⟨.inl e1, fin rfl r H' s1 e1⟩⟩
    | succ i =>
      rw [decide_eq_true (show ((i + 1 : Nat) : Int) > (0 : Int) by omega)]
      refine iteT ?_
      have hi : i < ns.length := hj
      have e1 : (((i + 1 : Nat)) : Int) - 1 = (i : Int) := by omega
      have gi : (ns.map V.int)[i]? = some (V.int ns[i]) := by rw [List.getElem?_map, List.getElem?_eq_getElem hi]; rfl
      have ix : ∀ {Q : VK}, Q (V.int ns[i]) H2 → rIx K (.ref a) (.int ((((i + 1 : Nat)) : Int) - 1)) H2 Q := by
        intro Q z
        rw [e1]
        exact ha.sq.elim (fun y => .inl ⟨a, _, _, _, rfl, rfl, y, atI_nat gi, z⟩) fun y => .inr (.inl ⟨a, _, _, _, rfl, rfl, y, atI_nat gi, z⟩)
      refine ⟨_, rfl, _, rfl, _, _, rfl, rfl, ix ?_⟩
      refine ⟨rfl, decide (ns[i] = 0), eqI _ 0, ?_⟩
      by_cases hz : ns[i] = 0
      · rw [decide_eq_true hz]
        refine iteT ?_
        refine ⟨fun σ' H' => H' = H2 ∧ i ≤ ns.length ∧ lastN ns i = lastN ns ns.length ∧ σ' = [some (.ref a), some (.int (i : Nat))], fun σ' H' h => ⟨i, by omega, h⟩, ?_⟩
        have gz : ns[i]? = some 0 := by rw [List.getElem?_eq_getElem hi, hz]
        refine ⟨_, rfl, _, _, rfl, rfl, rfl, Nat.le_of_lt hi, by rw [← hlast, last_go gz], ?_⟩
        show [some (V.ref a), some (V.int (((i + 1 : Nat) : Int) - 1))] = _
        rw [e1]
      · rw [decide_eq_false hz]
        refine iteF ?_
        have z0 : ns[i]? ≠ some 0 := fun z => by
          rw [List.getElem?_eq_getElem hi] at z
          exact hz (Option.some.inj z)
        refine ⟨_, rfl, _, rfl, _, rfl, ?_⟩
        rcases ha with e | e
        · refine .inl ⟨a, _, rfl, .inl (.inl e), fun p np => ?_⟩
          rw [cut]
          refine ⟨p, _, rfl, .inl ⟨.inl (.inl upd_same), fun l nl => ?_⟩⟩
          exact fin (last_stay z0) l _ ((same_upd np).trans (same_upd nl)) (.inl upd_same)
        · refine .inr ⟨a, _, rfl, e, fun r H' s1 e1 => ?_⟩
          rw [cut] at e1
          exact ⟨r, _, rfl, .inr ⟨.inl e1, fin (last_stay z0) r H' s1 e1⟩⟩
theorem fac_and (d : PyData) : facD d = ((dI d && !dB d) && match d with | .int i => decide (0 ≤ i) | _ => false) := by
  cases d <;> simp [facD, dI, dB]
theorem ok_are_factors {f f1 : Addr} {fd fd1 : FuncData} {k : Nat} (F : Fun K "are_factors" "are_factors" s_are_factors f fd) (T : TxtF mg) (F_is_integer : Fun K "is_integer" "is_integer" s_is_integer f1 fd1) (b_is_integer : Binds K fd1 ["thing"] []) (g_is_integer : mg "is_integer" = some (.ref f1)) (G_is_integer : FnOk P w K mg base CX0 1 f1 fd1 ["thing"] spIsInt) :
    FnOk P w K mg base CX0 (k + 2) f fd ["thing"] (spFactors K) := by
  refine F.ok sc_are_factors (fun vs H Q E h => ?_) (fun cdv A outer s H vs Q E hr h => ?_)
  · obtain ⟨x, rfl, _⟩ := h
    rfl
  · obtain ⟨x, rfl, h⟩ := h
    refine ⟨_, (pss_cons (ps_if (pt_not (pt_val (pe_callB call_isiT (by rfl) T.n_isinstance (by decide +kernel) (pa_cons (pv 0) (pa_cons (pe_tup (pa_cons (pe_bltn (v := .ty "list") (by rfl) T.n_list (by decide +kernel) rfl) (pa_cons (pe_bltn (v := .ty "tuple") (by rfl) T.n_tuple (by decide +kernel) rfl) pa_nil))) pa_nil)))))
   (pss_one (ps_ret pe_bl))
   pss_nil)
  (pss_one (ps_ret (pe_callB (cr_all (by rfl)) (by rfl) T.n_all (by decide +kernel) (pa_cons (pe_lc (own := [("factor", 1)]) (g := gName 1) rfl sc_are_factors.nd (pi_either (K := K) rfl (pv 0)) (blkOk_by (own := [("factor", 1)]) (N := ["thing", "factor"]) (sc := defScope s_are_factors) (by decide +kernel)) (fun _ _ _ _ _ => (pg_name (i := 1) sc_are_factors.nd rfl (.inl rfl))) (fun _ _ _ _ _ => pts_nil) (fun _ _ _ _ _ => (pe_and (pe_call G_is_integer (hr.mono (by omega)) (by rfl) g_is_integer F_is_integer.kp b_is_integer .nil pass0 (pa_cons (pv 1) pa_nil)) (pe_one (pe_cmpR op_ge (pv 1) pe_int (nomark _)))))) pa_nil))))), ?_⟩
    clear G_is_integer
    refine ⟨_, rfl, by show 2 ≤ sizeLine; decide, fun t nt => ?_⟩
    have st := same_upd (o := .tup [.ty "list", .ty "tuple"]) nt
    rcases h with ⟨d, hx, few, q⟩ | ⟨ty, hty, keep, hk, q⟩
    · refine ⟨x, t, _, _, _, dL d || dT d, rfl, upd_same, .cons (.ty "list") (.cons (.ty "tuple") .nil), (hx.same st).ty, kit_seq d, _, rfl, ?_⟩
      have hx' := hx.same st
      generalize upd H t (.tup [.ty "list", .ty "tuple"]) = H1 at st hx' ⊢
      cases e : (dL d || dT d) with
      | false =>
        refine iteT ?_
        have n : okF d = false := by unfold okF; rw [e, Bool.false_and]
        rw [n] at q
        exact q _ st
      | true =>
        refine iteF ?_
        have ok : okF d = (itemsD d).all facD := by unfold okF; rw [e, Bool.true_and]
        have step : ∀ {xs : List V} {ds : List PyData} {D : Addr}, DaAll H1 xs ds → ds.length ≤ 1000 → H1 D = none → ∀ (i : Nat) (y : V) (H5 H6 : Hp), i < xs.length → (Same H1 H5 ∧ H5 D = some (.lst ((ds.take i).map fun d => V.bl (facD d)))) → YAt xs i H5 y H6 →
            gName 1 y (wipe (L2.start ["thing", "factor"] [x]) [1]) H6 fun σ2 G2 => wipe σ2 [1] = wipe (L2.start ["thing", "factor"] [x]) [1] ∧ tYes σ2 G2 fun b G3 =>
              if b = true then (tAndV (tCall spIsInt [] E0 (tCons (tVar 1) tNil)) (tOp (rI0 fun i j => V.bl (decide (j ≤ i))) (tVar 1) (tC (V.int 0)))) σ2 G3 fun y G4 => ∃ acc, G4 D = some (.lst acc) ∧ acc.length < sizeLine ∧ (Same H1 (upd G4 D (.lst (acc ++ [y]))) ∧ (upd G4 D (.lst (acc ++ [y]))) D = some (.lst ((ds.take (i + 1)).map fun d => V.bl (facD d)))) else (Same H1 G3 ∧ G3 D = some (.lst ((ds.take (i + 1)).map fun d => V.bl (facD d)))) := by
          intro xs ds D hall hfew nD i y H5 H6 hi hP hY
          obtain ⟨rfl, ey⟩ := hY
          obtain ⟨s5, hD⟩ := hP
          obtain ⟨dy, ed, hy⟩ := hall.get ey
          refine ⟨rfl, ?_⟩
          unfold tYes
          dsimp only
          rw [if_pos rfl]
          have fin : ∀ v, v = V.bl (facD dy) → ∃ acc, H6 D = some (.lst acc) ∧ acc.length < sizeLine ∧ (Same H1 (upd H6 D (.lst (acc ++ [v]))) ∧ (upd H6 D (.lst (acc ++ [v]))) D = some (.lst ((ds.take (i + 1)).map fun d => V.bl (facD d)))) := by
            rintro v rfl
            refine ⟨_, hD, ?_, same_at s5 nD, ?_⟩
            · rw [List.length_map, List.length_take]
              exact small1000 (by omega)
            · rw [upd_same, List.take_add_one, ed, List.map_append]
              rfl
          refine ⟨_, rfl, ⟨y, dy, rfl, hy.same s5, _, rfl, ?_⟩⟩
          cases e9 : (dI dy && !dB dy) with
          | false =>
            refine iteF ?_
            exact fin _ (by rw [fac_and, e9]; rfl)
          | true =>
            refine iteT ?_
            obtain ⟨iv, rfl⟩ : ∃ iv, dy = .int iv := by cases dy <;> first | exact ⟨_, rfl⟩ | cases e9
            cases hy
            exact ⟨_, rfl, _, _, rfl, rfl, fin _ rfl⟩
        cases hx' with
        | @lst a xs ds e2 hall =>
          have lx := hall.length
          refine ⟨_, rfl, a, rfl, .inl ⟨⟨_, .inl (.inl e2)⟩, fun D nD => ?_⟩⟩
          refine lc_it (walk_list (xs := xs)) (fun i H5 => Same H1 H5 ∧ H5 D = some (.lst ((ds.take i).map fun d => V.bl (facD d)))) ⟨same_upd nD, upd_same⟩ (fun i H5 _ h => .inl (.inl (h.1 _ _ e2))) (step hall few nD) ?_
          rintro H5 ⟨s5, hD⟩
          rw [lx, List.take_length] at hD
          refine ⟨D, (ds.map facD), rfl, .inl (.inl (by rw [hD, List.map_map]; rfl)), ?_⟩
          have hn : ((ds.map facD).all id) = okF (.list ds) := by
            rw [ok, List.all_map]
            rfl
          rw [hn]
          exact q H5 (st.trans s5)
        | @tup a xs ds e2 hall =>
          have lx := hall.length
          refine ⟨_, rfl, a, rfl, .inr ⟨⟨_, .inl e2⟩, fun D nD => ?_⟩⟩
          refine lc_it (walk_tup (xs := xs)) (fun i H5 => Same H1 H5 ∧ H5 D = some (.lst ((ds.take i).map fun d => V.bl (facD d)))) ⟨same_upd nD, upd_same⟩ (fun i H5 _ h => .inl (rd_same e2 h.1)) (step hall few nD) ?_
          rintro H5 ⟨s5, hD⟩
          rw [lx, List.take_length] at hD
          refine ⟨D, (ds.map facD), rfl, .inl (.inl (by rw [hD, List.map_map]; rfl)), ?_⟩
          have hn : ((ds.map facD).all id) = okF (.tuple ds) := by
            rw [ok, List.all_map]
            rfl
          rw [hn]
          exact q H5 (st.trans s5)
        | _ => cases e
    · refine ⟨x, t, _, _, _, false, rfl, upd_same, .cons (.ty "list") (.cons (.ty "tuple") .nil), keep _ st, hk, _, rfl, ?_⟩
      refine iteT ?_
      exact q _ st
end
end My

namespace My
open PySem PySem.Spec PyProof.Rows L2
/-! ### the errors and the class -/
abbrev i_TooMany : Stmt := inClass (topS 2) 0
theorem sup_TooMany : SupScope ["self", "limit"] ["self", "limit"] (defScope i_TooMany) := ⟨rfl, rfl, rfl, by decide +kernel, rfl, by decide +kernel, by decide +kernel, by decide +kernel, by decide +kernel, by decide +kernel⟩
abbrev s_Layoutinit : Stmt := inClass (topS 20) 0
theorem sc_Layoutinit : FnScope ["self", "factors"] ["self", "factors"] (defScope s_Layoutinit) := ⟨rfl, rfl, rfl, by decide +kernel, rfl, by decide +kernel, by decide +kernel⟩
/-- C(v): one field -/
def spErr1 (C : Addr) (f : Str) (M : V → Prop) : Sp := fun vs H Q _ => ∃ a v, vs = [.ref a, v] ∧ H a = some (exo a C none) ∧ M v ∧ ∀ d, H d = none → d ≠ a → Q .non (upd (upd H d (exd d [(f, v)])) a (exo a C (some d)))
/-- an int that is shown -/
def IntV (v : V) : Prop := ∃ i : Int, v = .int i ∧ i.natAbs < 10 ^ 30
theorem IntV.log {i : Int} (h : i.natAbs < 10 ^ 30) : i.natAbs.log2 < 1920 := by
  by_cases z : i.natAbs = 0
  · rw [z]
    decide
  · exact (Nat.log2_lt z).mpr (Nat.lt_trans h (by decide))
theorem IntV.txt {i : Int} (h : i.natAbs < 10 ^ 30) : (Str.ofString (toString i)).length ≤ 1921 := by
  rw [PySem.ofString_length]
  exact int_text_length_le (by decide) (IntV.log h)
theorem app_len {a b : Str} {m n : Nat} (h1 : a.length ≤ m) (h2 : b.length ≤ n) : (a ++ b).length ≤ m + n := by
  rw [strLen_append]
  exact Nat.add_le_add h1 h2
theorem le_line {a : Str} {m : Nat} (h : a.length ≤ m) (hm : m ≤ 9000) : a.length ≤ sizeLine := by
  rw [sizeLine_eq]
  omega
structure SupD where
  C : Addr
  fI : Addr
  cc : Addr
  cda : Addr
  fd : FuncData
structure PlainCls (K : PySem.W.Frag) (mg : Str → Option Value) (x : Str) (C : Addr) : Prop where
  gC : mg x = some (.ref C)
  q : PySem.W.excIn K C [.type "ValueError", .type "Exception", .type "BaseException", .type "object"] "ValueError.__new__" = true
  kC : PySem.W.keepIn K (.ref C) = true
abbrev SupOf (P : Program) (K : PySem.W.Frag) (mg : Str → Option Value) (x qual : Str) (st : Stmt) (d : SupD) : Prop := SupCls P K mg x qual st d.C d.fI d.cc d.cda d.fd
/-- the classes that the text makes -/
structure LayD where
  too : SupD
  no : Addr
  lay : Addr
structure LayF (P : Program) (K : PySem.W.Frag) (mg : Str → Option Value) (d : LayD) : Prop where
  too : SupOf P K mg "TooMany" "TooMany.__init__" i_TooMany d.too
  noL : PySem.W.findIn K (.ref d.too.C) "limit" = some none
  no : PlainCls K mg "NoLayout" d.no
  noB : PySem.W.subIn K (.ref d.no) (.type "BaseException") = some true
  noT : PySem.W.typeIn K (.ref d.no) = some (.type "type")
  lay : Cls K d.lay
  gLay : mg "Layout" = some (.ref d.lay)
  exNN : PySem.W.exmOne K (.ref d.no) (.ref d.no) = some true
  exTN : PySem.W.exmOne K (.ref d.too.C) (.ref d.no) = some false
  exTT : PySem.W.exmOne K (.ref d.too.C) (.ref d.too.C) = some true
  xf : XfC K d.too.C
  naF : NoAttr K d.lay "factors"
  naD : NoAttr K d.lay "degree"
structure TxtY (mg : Str → Option Value) (tD : Tok) : Prop where
  n_len : mg "len" = none
  g_MOST_DEGREE : mg "MOST_DEGREE" = some (.int 40 tD)
/-- all stays but what stands at x -/
def Kp (x : Addr) (H H' : Hp) : Prop := ∀ b o, H b = some o → b ≠ x → H' b = some o
/-- the ints of a thing that is factors -/
def intsD (d : PyData) : List Int := (itemsD d).filterMap fun | .int i => some i | _ => none
theorem ints_of {H : Hp} : ∀ {ds : List PyData} {xs : List V}, DaAll H xs ds → ds.all facD = true → xs = (ds.filterMap fun | .int i => some i | _ => none).map V.int
  | _, _, .nil, _ => rfl
  | _, _, .cons (d := d) h t, e => by
    rw [List.all_cons, Bool.and_eq_true] at e
    have r := ints_of t e.2
    cases h with
    | int i =>
      rw [List.filterMap_cons]
      show _ :: _ = _ :: _
      rw [r]
    | _ => exact absurd e.1 Bool.false_ne_true
theorem Da.ints {H : Hp} {x : V} {d : PyData} (h : Da H x d) (e : okF d = true) : ∃ a, x = .ref a ∧ IntsAt H a (intsD d) := by
  unfold okF at e
  rw [Bool.and_eq_true] at e
  cases h with
  | lst e2 hall => exact ⟨_, rfl, .inl (by rw [e2, ints_of hall e.2]; rfl)⟩
  | tup e2 hall =>
    refine ⟨_, rfl, .inr ?_⟩
    have r := ints_of hall e.2
    rw [r] at e2
    exact e2
  | _ => exact absurd e.1 Bool.false_ne_true
theorem ints_len (d : PyData) : (intsD d).length ≤ (itemsD d).length := List.length_filterMap_le _ _
structure spLay (K : PySem.W.Frag) (D : LayD) (vs : List V) (H : Hp) (Q : VK) (E : XK) : Prop where
  ex : ∃ x dx y, vs = [.ref x, y] ∧ H x = some (.ins D.lay dx []) ∧
    ((∃ d, Da H y d ∧ (itemsD d).length ≤ 1000 ∧
      (okF d = false → ∀ H', Kp x H H' → E (.ref D.no) none H') ∧
      (okF d = true → 41 < (trimN (intsD d)).length → ∀ H' e, Kp x H H' → H' e = some (.xd [("limit", .int 40)]) → E (.ref D.too.C) (some e) H') ∧
      (okF d = true → (trimN (intsD d)).length ≤ 41 → ∀ H' r, Kp x H H' → H' x = some (.ins D.lay dx [("factors", .ref r), ("degree", .int ((trimN (intsD d)).length - 1 : Int))]) → Rd H' r (.tup ((trimN (intsD d)).map V.int)) → Q .non H')) ∨
     (∃ ty, TyX K H y (.type ty) ∧ (∀ H', Same H H' → TyX K H' y (.type ty)) ∧ PySem.W.kitAny K (.type ty) [.type "list", .type "tuple"] = some false ∧ ∀ H', Kp x H H' → E (.ref D.no) none H'))
theorem kp_of {H H' : Hp} {x : Addr} (s : Same H H') : Kp x H H' := fun b o e _ => s b o e
section
variable {P : Program} {w : World} {K : PySem.W.Frag} {mg : Str → Option Value} {base : Heap}
theorem bd_TooMany {C fI cc cda : Addr} {fd : FuncData} (T : SupCls P K mg "TooMany" "TooMany.__init__" i_TooMany C fI cc cda fd) : Binds K fd ["self", "limit"] [] := by
  obtain ⟨oc, od, doc, pm, an, ct, osl, rfl, lk⟩ := T.fn
  exact .all fun us hl => match us, hl with | [_, _], _ => rfl
theorem ok_TooMany {C fI cc cda : Addr} {fd : FuncData} {k : Nat} (T : SupCls P K mg "TooMany" "TooMany.__init__" i_TooMany C fI cc cda fd) (hno : PySem.W.findIn K (.ref C) "limit" = some none) : FnOk P w K mg base CX0 (k + 1) fI fd ["self", "limit"] (spErr1 C "limit" IntV) := by
  refine ok_sup T sup_TooMany rfl rfl rfl (fun _ => rfl) (fun _ => rfl) (fun vs H Q E h => ?_) (fun A outer s H vs Q E hr h => ?_)
  · obtain ⟨a, v, rfl, _⟩ := h
    rfl
  · obtain ⟨a, v, rfl, ha, ⟨i, rfl, hi⟩, q⟩ := h
    refine ⟨a, _, _, rfl, ha, pe_joined (.cons pe_str (.cons (pe_fmt (pv 1)) (.cons pe_str .nil))), pss_one (ps_ost (pv 0) (pv 1)), ?_⟩
    refine ⟨_, rfl, le_line (m := 60) (by decide) (by decide), _, rfl, .inr ⟨i, rfl, IntV.log hi, _, rfl, le_line (app_len (m := 60) (by decide) (IntV.txt hi)) (by decide), _, rfl, le_line (app_len (n := 60) (app_len (m := 60) (by decide) (IntV.txt hi)) (by decide)) (by decide), ?_⟩⟩
    exact ⟨ha, _, rfl, _, rfl, a, C, rfl, T.ox, hno, .inl ⟨ha, fun d hd ne => q d hd ne⟩⟩
theorem ok_Layoutinit {d : LayD} {tD : Tok} {f f1 f2 : Addr} {fd fd1 fd2 : FuncData} {k : Nat} (F : Fun K "__init__" "Layout.__init__" s_Layoutinit f fd) (T : TxtY mg tD) (D : LayF P K mg d)
    (F_are_factors : Fun K "are_factors" "are_factors" s_are_factors f1 fd1) (b_are_factors : Binds K fd1 ["thing"] []) (g_are_factors : mg "are_factors" = some (.ref f1)) (G_are_factors : FnOk P w K mg base CX0 2 f1 fd1 ["thing"] (spFactors K))
    (F_trimmed : Fun K "trimmed" "trimmed" s_trimmed f2 fd2) (b_trimmed : Binds K fd2 ["factors"] []) (g_trimmed : mg "trimmed" = some (.ref f2)) (G_trimmed : FnOk P w K mg base CX0 1 f2 fd2 ["factors"] spTrim) :
    FnOk P w K mg base (L2.CX P w) (k + 3) f fd ["self", "factors"] (spLay K d) := by
  refine F.okX sc_Layoutinit (fun vs H Q E h => ?_) (fun cdv A outer s H vs Q E hr h => ?_)
  · obtain ⟨x, dx, y, rfl, _⟩ := h
    rfl
  · obtain ⟨x, dx, y, rfl, hx, h⟩ := h
    refine ⟨_, (pss_cons (ps_if (pt_not (pt_val (pe_call G_are_factors (hr.mono (by omega)) (by rfl) g_are_factors F_are_factors.kp b_are_factors .nil pass0 (pa_cons (pv 1) pa_nil))))
   (pss_one (ps_raise rfl (takes_of rfl rfl rfl rfl) (pmk_own PySem.F.excBase_ValueError D.no.q D.no.gC D.no.kC (raises_own D.noB D.noT) (by exact rfl))))
   pss_nil)
  (pss_cons (ps_fld (pv 0) (pe_call G_trimmed (hr.mono (by omega)) (by rfl) g_trimmed F_trimmed.kp b_trimmed .nil pass0 (pa_cons (pv 1) pa_nil)) rfl)
  (pss_cons (ps_fld (pv 0) (pe_op op_sub (pe_callB call_len_seq (by rfl) T.n_len (by decide +kernel) (pa_cons (pe_fld (pv 0) rfl) pa_nil)) pe_int) rfl)
  (pss_one (ps_if (pt_cmpR op_gt (pe_fld (pv 0) rfl) (pe_glob (v := .int 40) (by rfl) T.g_MOST_DEGREE ⟨_, rfl⟩) (nomark _))
   (pss_one (ps_raise rfl (takes_of rfl rfl rfl rfl) (pmk_oex D.too.ox D.too.iC D.too.tI (ok_TooMany (k := 0) D.too D.noL) (hr.mono (by omega)) (bd_TooMany D.too) .nil pass0 (by rfl) D.too.gC (pa_cons (pe_glob (v := .int 40) (by rfl) T.g_MOST_DEGREE ⟨_, rfl⟩) pa_nil))))
   pss_nil))))), ?_⟩
    clear G_are_factors G_trimmed
    rcases h with ⟨t, hy, few, q1, q2, q3⟩ | ⟨ty, hty, keep, hk, q⟩
    · refine ⟨_, rfl, ⟨y, rfl, .inl ⟨t, hy, few, fun H1 s1 => ?_⟩⟩⟩
      refine ⟨_, rfl, ?_⟩
      cases e : okF t with
      | false =>
        refine iteT ?_
        exact q1 e H1 (kp_of s1)
      | true =>
        refine iteF ?_
        obtain ⟨a, rfl, ia⟩ := hy.ints e
        generalize hns : intsD t = ns at q2 q3 ia
        have lns : ns.length ≤ 1000 := by
          rw [← hns]
          exact Nat.le_trans (ints_len t) few
        refine ⟨_, rfl, ⟨a, ns, rfl, ia.same s1, lns, fun r H2 s2 er => ?_⟩⟩
        have k2 : Kp x H H2 := kp_of (s1.trans s2)
        have hx2 := s2 _ _ (s1 _ _ hx)
        refine ⟨_, rfl, x, d.lay, dx, _, rfl, hx2, D.lay, D.naF, by decide, ?_⟩
        have rx : r ≠ x := by
          rintro rfl
          rcases er with z | ⟨o, z⟩ <;> (rw [hx2] at z; cases z)
        have er3 : Rd (upd H2 x (.ins d.lay dx [("factors", .ref r)])) r (.tup ((trimN ns).map V.int)) := by
          rcases er with z | ⟨o, z⟩
          · exact .inl (by rw [upd_ne rx]; exact z)
          · exact .inr ⟨o, by rw [upd_ne rx]; exact z⟩
        have k3 : Kp x H (upd H2 x (.ins d.lay dx [("factors", .ref r)])) := fun b o eb nb => by
          rw [upd_ne nb]
          exact k2 b o eb nb
        have hx3 : (upd H2 x (.ins d.lay dx [("factors", .ref r)])) x = some (.ins d.lay dx [("factors", .ref r)]) := upd_same
        have e3 : upd H2 x (.ins d.lay dx (putF "factors" (.ref r) [])) = upd H2 x (.ins d.lay dx [("factors", .ref r)]) := rfl
        rw [e3]
        generalize upd H2 x (.ins d.lay dx [("factors", .ref r)]) = H3 at hx3 er3 k3 ⊢
        refine ⟨_, rfl, x, d.lay, dx, _, .ref r, rfl, hx3, D.lay, D.naF, rfl, r, _, rfl, .inr (.inl er3), ?_⟩
        refine ⟨_, _, rfl, rfl, _, rfl, x, d.lay, dx, _, rfl, hx3, D.lay, D.naD, by show 1 < 1000; decide, ?_⟩
        rw [List.length_map]
        have e4 : ∀ v, upd H3 x (.ins d.lay dx (putF "degree" v [("factors", .ref r)])) = upd H3 x (.ins d.lay dx [("factors", .ref r), ("degree", v)]) := fun v => rfl
        rw [e4]
        have hx4 : ∀ v, (upd H3 x (.ins d.lay dx [("factors", .ref r), ("degree", v)])) x = some (.ins d.lay dx [("factors", .ref r), ("degree", v)]) := fun v => upd_same
        have k4 : ∀ v, Kp x H (upd H3 x (.ins d.lay dx [("factors", .ref r), ("degree", v)])) := fun v b o eb nb => by
          rw [upd_ne nb]
          exact k3 b o eb nb
        have er4 : ∀ v, Rd (upd H3 x (.ins d.lay dx [("factors", .ref r), ("degree", v)])) r (.tup ((trimN ns).map V.int)) := fun v => by
          rcases er3 with z | ⟨o, z⟩
          · exact .inl (by rw [upd_ne rx]; exact z)
          · exact .inr ⟨o, by rw [upd_ne rx]; exact z⟩
        generalize trimN ns = ts at q2 q3 er4 ⊢
        specialize hx4 (.int ((ts.length : Nat) - 1))
        specialize k4 (.int ((ts.length : Nat) - 1))
        specialize er4 (.int ((ts.length : Nat) - 1))
        generalize upd H3 x (.ins d.lay dx [("factors", .ref r), ("degree", .int ((ts.length : Nat) - 1))]) = H4 at hx4 k4 er4 ⊢
        refine ⟨_, rfl, x, d.lay, dx, _, .int ((ts.length : Nat) - 1), rfl, hx4, D.lay, D.naD, rfl, _, _, rfl, rfl, _, rfl, ?_⟩
        by_cases big : 41 < ts.length
        · rw [decide_eq_true (show (40 : Int) < (ts.length : Nat) - 1 by omega)]
          refine iteT ?_
          refine ⟨by show 1 ≤ 1000; decide, fun a0 na => ?_⟩
          refine ⟨a0, .int 40, rfl, upd_same, ⟨40, rfl, by decide⟩, fun e0 ne0 nea => ?_⟩
          have n4 : H4 e0 = none := by
            rw [upd_ne nea] at ne0
            exact ne0
          refine ⟨rfl, e0, [("limit", .int 40)], upd_same, ?_, n4, ?_⟩
          · rw [upd_ne nea, upd_same]
          · refine q2 e big _ e0 (fun b o eb nb => ?_) upd_same
            have z := k4 b o eb nb
            have z1 := ne_of_none z n4
            have z2 := ne_of_none z na
            rw [upd_ne z1, del_ne z2, upd_ne z2, upd_ne z1, upd_ne z2]
            exact z
        · rw [decide_eq_false (show ¬ (40 : Int) < (ts.length : Nat) - 1 by omega)]
          refine iteF ?_
          exact q3 e (by omega) H4 r k4 hx4 er4
    · refine ⟨_, rfl, ⟨y, rfl, .inr ⟨ty, hty, keep, hk, fun H1 s1 => ?_⟩⟩⟩
      refine ⟨_, rfl, ?_⟩
      refine iteT ?_
      exact q H1 (kp_of s1)
end
end My

namespace My
open PySem PySem.Spec PyProof.Rows L2
abbrev s_Layouttotal : Stmt := inClass (topS 20) 1
theorem sc_Layouttotal : FnScope ["self"] ["self"] (defScope s_Layouttotal) := ⟨rfl, rfl, rfl, by decide +kernel, rfl, by decide +kernel, by decide +kernel⟩
abbrev s_Layoutconstant : Stmt := inClass (topS 20) 2
theorem sc_Layoutconstant : FnScope ["self"] ["self"] (defScope s_Layoutconstant) := ⟨rfl, rfl, rfl, by decide +kernel, rfl, by decide +kernel, by decide +kernel⟩
abbrev s_Layouttrees : Stmt := inClass (topS 20) 3
theorem sc_Layouttrees : FnScope ["k"] ["k"] (defScope s_Layouttrees) := ⟨rfl, rfl, rfl, by decide +kernel, rfl, by decide +kernel, by decide +kernel⟩
abbrev s_Layoutnumber : Stmt := inClass (topS 20) 4
theorem sc_Layoutnumber : FnScope ["n"] ["n"] (defScope s_Layoutnumber) := ⟨rfl, rfl, rfl, by decide +kernel, rfl, by decide +kernel, by decide +kernel⟩
abbrev s_Layoutgetitem : Stmt := inClass (topS 20) 17
theorem sc_Layoutgetitem : FnScope ["self", "at"] ["self", "at"] (defScope s_Layoutgetitem) := ⟨rfl, rfl, rfl, by decide +kernel, rfl, by decide +kernel, by decide +kernel⟩
abbrev s_Layoutcontains : Stmt := inClass (topS 20) 19
theorem sc_Layoutcontains : FnScope ["self", "x"] ["self", "x"] (defScope s_Layoutcontains) := ⟨rfl, rfl, rfl, by decide +kernel, rfl, by decide +kernel, by decide +kernel⟩
abbrev s_Layoutlen : Stmt := inClass (topS 20) 20
theorem sc_Layoutlen : FnScope ["self", "factor"] ["self"] (defScope s_Layoutlen) := ⟨rfl, rfl, rfl, by decide +kernel, rfl, by decide +kernel, by decide +kernel⟩
abbrev s_Layoutbool : Stmt := inClass (topS 20) 21
theorem sc_Layoutbool : FnScope ["self"] ["self"] (defScope s_Layoutbool) := ⟨rfl, rfl, rfl, by decide +kernel, rfl, by decide +kernel, by decide +kernel⟩
abbrev s_Layoutcall : Stmt := inClass (topS 20) 22
theorem sc_Layoutcall : FnScope ["self", "n", "value", "factor"] ["self", "n"] (defScope s_Layoutcall) := ⟨rfl, rfl, rfl, by decide +kernel, rfl, by decide +kernel, by decide +kernel⟩
/-! ### a layout -/
/-- nothing can be read there (a way that is never gone) -/
theorem pe_dead {X : Cx} {e : Expr} : PE X e (fun _ _ _ => False) := ⟨fun _ _ _ _ _ _ h => h.elim⟩
structure TxtL (mg : Str → Option Value) : Prop where
  n_len : mg "len" = none
  n_bool : mg "bool" = none
  n_sum : mg "sum" = none
  n_max : mg "max" = none
  n_range : mg "range" = none
  n_isinstance : mg "isinstance" = none
  n_list : mg "list" = none
  n_tuple : mg "tuple" = none
  n_repr : mg "repr" = none
/-- an instance of the class at C with the factors ns -/
def LayAt (C : Addr) (H : Hp) (a : Addr) (ns : List Int) : Prop := ∃ dx r, H a = some (.ins C dx [("factors", .ref r), ("degree", .int (ns.length - 1 : Int))]) ∧ Rd H r (.tup (ns.map V.int)) ∧ ns.length ≤ 41 ∧ ∀ n ∈ ns, 0 ≤ n
theorem LayAt.same {C a : Addr} {H H' : Hp} {ns : List Int} (h : LayAt C H a ns) (s : Same H H') : LayAt C H' a ns := by
  obtain ⟨dx, r, h1, h2, h3, h4⟩ := h
  exact ⟨dx, r, s _ _ h1, rd_same h2 s, h3, h4⟩
/-- what isinstance and the operators ask of the class -/
structure LayG (K : PySem.W.Frag) (C : Addr) (mc : Value) : Prop where
  isL : PySem.W.kitOne K (.ref C) (.ref C) = some true
  isI : PySem.W.kitOne K (.type "int") (.ref C) = some false
  ca : PySem.W.findIn K (.ref C) "__class__" = some (some (.builtin "object.__class__"))
  cn : PySem.W.specialIn K (.builtin "object.__class__") "__get__" = some (some (.builtin "getset_descriptor.__get__"))
  ct : PySem.W.takesIn K (.builtin "object.__class__") = some true
  cm : PySem.W.mroIn K C (.type "object") = some true
  rd : ClX.CRead K C mc
  first : PySem.W.selfFirst K C = true
  addI : BinI K C "__add__" "__radd__" "int"
theorem da_ints {H : Hp} : ∀ ns : List Int, DaAll H (ns.map V.int) (ns.map PyData.int)
  | [] => .nil
  | n :: r => .cons (.int n) (da_ints r)
theorem ints_map (ns : List Int) : ((ns.map PyData.int).filterMap fun | .int i => some i | _ => none) = ns := by
  induction ns with
  | nil => rfl
  | cons n r ih =>
    rw [List.map_cons, List.filterMap_cons]
    show n :: _ = n :: r
    rw [ih]
theorem fac_map {ns : List Int} (h : ∀ n ∈ ns, 0 ≤ n) : (ns.map PyData.int).all facD = true := by
  rw [List.all_map, List.all_eq_true]
  intro n hn
  exact decide_eq_true (h n hn)
theorem intsD_pos {d : PyData} (h : okF d = true) : ∀ n ∈ intsD d, 0 ≤ n := by
  intro n hn
  unfold intsD at hn
  obtain ⟨e, he, hf⟩ := List.mem_filterMap.mp hn
  unfold okF at h
  rw [Bool.and_eq_true] at h
  have z := List.all_eq_true.mp h.2 e he
  cases e <;> simp only [reduceCtorEq, Option.some.injEq] at hf
  subst hf
  exact of_decide_eq_true z
def spMk (C : Addr) : Sp := fun vs H Q _ => ∃ x dx y d, vs = [.ref x, y] ∧ H x = some (.ins C dx []) ∧ Da H y d ∧ (itemsD d).length ≤ 1000 ∧ okF d = true ∧ (trimN (intsD d)).length ≤ 41 ∧ ∀ H', Kp x H H' → LayAt C H' x (trimN (intsD d)) → Q .non H'
/-- C(y) -/
theorem lay_new {C : Addr} {H : Hp} {y : V} {d : PyData} {Q : VK} {E : XK} (hy : Da H y d) (few : (itemsD d).length ≤ 1000) (ok : okF d = true) (le : (trimN (intsD d)).length ≤ 41) (q : ∀ x H', Same H H' → H x = none → LayAt C H' x (trimN (intsD d)) → Q (.ref x) H') :
    ∀ x dx, H x = none → H dx = none → dx ≠ x → spMk C [.ref x, y] (upd (upd H dx (.own x)) x (.ins C dx [])) (fun v H2 => v = .non ∧ Q (.ref x) H2) E := by
  intro x dx nx ndx dxx
  have s0 : Same H (upd (upd H dx (.own x)) x (.ins C dx [])) := fun b o e => by
    rw [upd_ne (ne_of_none e nx), upd_ne (ne_of_none e ndx)]
    exact e
  exact ⟨x, dx, y, d, rfl, upd_same, hy.same s0, few, ok, le, fun H' k l => ⟨rfl, q x H' (fun b o e => k b o (s0 b o e) (ne_of_none e nx)) nx l⟩⟩
theorem lay_newI {C : Addr} {H : Hp} {a : Addr} {ns : List Int} {Q : VK} {E : XK} (ia : IntsAt H a ns) (few : ns.length ≤ 1000) (pos : ∀ n ∈ ns, 0 ≤ n) (le : (trimN ns).length ≤ 41) (q : ∀ x H', Same H H' → H x = none → LayAt C H' x (trimN ns) → Q (.ref x) H') :
    ∀ x dx, H x = none → H dx = none → dx ≠ x → spMk C [.ref x, .ref a] (upd (upd H dx (.own x)) x (.ins C dx [])) (fun v H2 => v = .non ∧ Q (.ref x) H2) E := by
  rcases ia with e | e
  · have i : intsD (.list (ns.map PyData.int)) = ns := ints_map ns
    exact lay_new (d := .list (ns.map PyData.int)) (.lst e (da_ints ns)) (by show (ns.map PyData.int).length ≤ 1000; rw [List.length_map]; exact few) (by unfold okF; rw [show itemsD (.list (ns.map PyData.int)) = ns.map PyData.int from rfl, fac_map pos]; rfl) (by rw [i]; exact le) (by rw [i]; exact q)
  · have i : intsD (.tuple (ns.map PyData.int)) = ns := ints_map ns
    exact lay_new (d := .tuple (ns.map PyData.int)) (.tup e (da_ints ns)) (by show (ns.map PyData.int).length ≤ 1000; rw [List.length_map]; exact few) (by unfold okF; rw [show itemsD (.tuple (ns.map PyData.int)) = ns.map PyData.int from rfl, fac_map pos]; rfl) (by rw [i]; exact le) (by rw [i]; exact q)
/-- C(a list or a tuple of ints) -/
def tMakeI (C : Addr) (t : TA) : TE := fun σ H Q => t σ H fun vs H1 => ∃ a ns, vs = [V.ref a] ∧ IntsAt H1 a ns ∧ ns.length ≤ 1000 ∧ (∀ n ∈ ns, 0 ≤ n) ∧ (trimN ns).length ≤ 41 ∧ ∀ x H', Same H1 H' → H1 x = none → LayAt C H' x (trimN ns) → Q (.ref x) H'
theorem pe_makeI {X : Cx} {k : Nat} {f C : Addr} {x : Str} {e : Expr} {es : List Expr} {t : TA} {p pos : Pos} (M : Mk X.K C f) (F : FnR X.prog X.w X.K X.mg X.base (L2.CX X.prog X.w) k f (spMk C)) (hr : Room (k + 1) X.A) (hg : Gl X x) (hm : X.mg x = some (.ref C)) (ha : PA X (e :: es) t) (hdb : (x == ("__debug__" : Str)) = false := by decide)
    (he : starEach (e :: es) X.env = (false, eval e X.env) :: starEach es X.env := by rfl) (hpl : (backTo pos (starEach es X.env)).any (·.1) = false := by rfl) : PE X (.Call (.Name x p) (e :: es) [] pos) (tMakeI C t) := by
  refine ⟨fun pins s σ H Q I h => ?_⟩
  refine wpAny_Call_Name_kw (ld_glob I hg hm ?_ hdb)
  refine PySem.W.callWith_K (h₀ := X.base) I.ok.mod.kin M.kp (thn (ha.run pos pins s σ H _ I h) fun us s1 ⟨vs, H1, I1, r, q⟩ => ⟨I1.kIn, ?_⟩) he hpl
  obtain ⟨a, ns, rfl, ia, few, ps, le, q⟩ := q
  exact StX.run_makeR M F hr (passE (X := X)) I1 r (lay_newI ia few ps le q)
/-- the factor of t^i -/
def getI (ns : List Int) (i : Int) : Int := if 0 ≤ i ∧ i < ns.length then ns.getD i.toNat 0 else 0
def hornI (ns : List Int) (n : Int) : Int := ns.reverse.foldl (fun v f => v * n + f) 0
structure spTotal (C : Addr) (vs : List V) (H : Hp) (Q : VK) (E : XK) : Prop where
  ex : ∃ a ns, vs = [.ref a] ∧ LayAt C H a ns ∧ Q (.int ns.sum) H
structure spConst (C : Addr) (vs : List V) (H : Hp) (Q : VK) (E : XK) : Prop where
  ex : ∃ a ns, vs = [.ref a] ∧ LayAt C H a ns ∧ Q (.bl (decide (ns.length < 2))) H
structure spTrees (C : Addr) (vs : List V) (H : Hp) (Q : VK) (E : XK) : Prop where
  ex : ∃ k : Nat, vs = [.int (k : Nat)] ∧ k ≤ 40 ∧ ∀ x H', Same H H' → H x = none → LayAt C H' x (trimN (List.replicate k 0 ++ [1])) → Q (.ref x) H'
structure spNumber (C : Addr) (vs : List V) (H : Hp) (Q : VK) (E : XK) : Prop where
  ex : ∃ n : Int, vs = [.int n] ∧ 0 ≤ n ∧ ∀ x H', Same H H' → H x = none → LayAt C H' x (trimN [n]) → Q (.ref x) H'
structure spItem (C : Addr) (vs : List V) (H : Hp) (Q : VK) (E : XK) : Prop where
  ex : ∃ a ns i, vs = [.ref a, .int i] ∧ LayAt C H a ns ∧ Q (.int (getI ns i)) H
structure spHas (C : Addr) (vs : List V) (H : Hp) (Q : VK) (E : XK) : Prop where
  ex : ∃ a ns i, vs = [.ref a, .int i] ∧ LayAt C H a ns ∧ Q (.bl (!decide (getI ns i = 0))) H
structure spLen (C : Addr) (vs : List V) (H : Hp) (Q : VK) (E : XK) : Prop where
  ex : ∃ a ns, vs = [.ref a] ∧ LayAt C H a ns ∧ ∀ H', Same H H' → Q (.int ((ns.filter fun n => !decide (n = 0)).length : Nat)) H'
structure spTruth (C : Addr) (vs : List V) (H : Hp) (Q : VK) (E : XK) : Prop where
  ex : ∃ a ns, vs = [.ref a] ∧ LayAt C H a ns ∧ Q (.bl (!ns.isEmpty)) H
structure spValue (C : Addr) (vs : List V) (H : Hp) (Q : VK) (E : XK) : Prop where
  ex : ∃ a ns n, vs = [.ref a, .int n] ∧ LayAt C H a ns ∧ -1000000000 ≤ n ∧ n ≤ 1000000000 ∧ ∀ H', Same H H' → Q (.int (hornI ns n)) H'
theorem bl_int {a b : Int} : V.bl (!decide (V.int a = V.int b)) = V.bl (!decide (a = b)) := by
  have z := eqI a b
  cases z' : decide (V.int a = V.int b) <;> rw [z'] at z <;> cases z2 : decide (a = b) <;> rw [z2] at z <;> first | rfl | (cases z)
theorem trim_len1 (ns : List Int) {m : Nat} (h : ns.length ≤ m) : (trimN ns).length ≤ m := Nat.le_trans (trimN_len ns) h
theorem lastN_last (ns : List Int) : ∀ m, ns[lastN ns m - 1]? = some 0 → lastN ns m = 0
  | 0, _ => rfl
  | m + 1, h => by
    by_cases z : ns[m]? = some 0
    · rw [last_go z] at h ⊢
      exact lastN_last ns m h
    · rw [last_stay z] at h
      exact absurd h z
theorem trim_trim (ns : List Int) : trimN (trimN ns) = trimN ns := by
  have hl := lastN_le ns ns.length
  generalize hm : lastN ns ns.length = m at hl
  have e : trimN ns = ns.take m := by unfold trimN; rw [hm]
  rw [e]
  cases m with
  | zero => rfl
  | succ k =>
    have len : (ns.take (k + 1)).length = k + 1 := by rw [List.length_take]; omega
    have st : (ns.take (k + 1))[k]? ≠ some 0 := by
      rw [List.getElem?_take_of_lt (Nat.lt_succ_self k)]
      intro z
      have y := lastN_last ns ns.length (by rw [hm]; exact z)
      omega
    unfold trimN
    rw [len, last_stay st, List.take_take, Nat.min_self]
section
variable {P : Program} {w : World} {K : PySem.W.Frag} {mg : Str → Option Value} {base : Heap}
theorem mk_of_lay {d : LayD} {f : Addr} {fd : FuncData} (G : FnOk P w K mg base (L2.CX P w) 3 f fd ["self", "factors"] (spLay K d)) (b : Binds K fd ["self", "factors"] []) : FnR P w K mg base (L2.CX P w) 3 f (spMk d.lay) := by
  refine (G.raw b .nil).imp (fun vs H Q E h => ?_)
  obtain ⟨x, dx, y, t, rfl, hx, hy, few, ok, le, q⟩ := h
  rw [List.append_nil]
  exact ⟨⟨x, dx, y, rfl, hx, .inl ⟨t, hy, few, fun e => (by rw [ok] at e; cases e), fun _ big => absurd big (by omega), fun _ _ H' r k h1 h2 => q H' k ⟨dx, r, h1, h2, le, fun n hn => intsD_pos ok n (List.mem_of_mem_take hn)⟩⟩⟩⟩
theorem ok_total {d : LayD} {f : Addr} {fd : FuncData} {k : Nat} (F : Fun K "total" "Layout.total" s_Layouttotal f fd) (T : TxtL mg) (D : LayF P K mg d) : FnOk P w K mg base CX0 (k + 1) f fd ["self"] (spTotal d.lay) := by
  refine F.ok sc_Layouttotal (fun vs H Q E h => ?_) (fun cdv A outer s H vs Q E hr h => ?_)
  · obtain ⟨a, ns, rfl, _⟩ := h
    rfl
  · obtain ⟨a, ns, rfl, ⟨dx, r, ha, hr', h3, h4⟩, q⟩ := h
    refine ⟨_, (pss_one (ps_ret (pe_callB (call_sumT (by rfl)) (by rfl) T.n_sum (by decide +kernel) (pa_cons (pe_fld (pv 0) rfl) pa_nil)))), ?_⟩
    exact ⟨_, rfl, a, d.lay, dx, _, .ref r, rfl, ha, D.lay, D.naF, rfl, r, ns, rfl, .inl hr', q⟩
theorem ok_constant {d : LayD} {f : Addr} {fd : FuncData} {k : Nat} (F : Fun K "constant" "Layout.constant" s_Layoutconstant f fd) (T : TxtL mg) (D : LayF P K mg d) : FnOk P w K mg base CX0 (k + 1) f fd ["self"] (spConst d.lay) := by
  refine F.ok sc_Layoutconstant (fun vs H Q E h => ?_) (fun cdv A outer s H vs Q E hr h => ?_)
  · obtain ⟨a, ns, rfl, _⟩ := h
    rfl
  · obtain ⟨a, ns, rfl, ⟨dx, r, ha, hr', h3, h4⟩, q⟩ := h
    refine ⟨_, (pss_one (ps_ret (pe_cmpR op_lt (pe_fld (pv 0) rfl) pe_int (nomark _)))), ?_⟩
    refine ⟨_, rfl, a, d.lay, dx, _, _, rfl, ha, D.lay, D.naD, rfl, _, _, rfl, rfl, ?_⟩
    have e : decide (ns.length < 2) = decide ((ns.length : Int) - 1 < 1) := decide_eq_decide.mpr (by omega)
    rw [e] at q
    exact q
theorem ok_trees {d : LayD} {f f1 : Addr} {fd : FuncData} {k : Nat} (F : Fun K "trees" "Layout.trees" s_Layouttrees f fd) (D : LayF P K mg d) (M_Layout : Mk K d.lay f1) (R_Layout : FnR P w K mg base (L2.CX P w) 3 f1 (spMk d.lay)) : FnOk P w K mg base CX0 (k + 5) f fd ["k"] (spTrees d.lay) := by
  refine F.ok sc_Layouttrees (fun vs H Q E h => ?_) (fun cdv A outer s H vs Q E hr h => ?_)
  · obtain ⟨n, rfl, _⟩ := h
    rfl
  · obtain ⟨n, rfl, hn, q⟩ := h
    refine ⟨_, (pss_one (ps_ret (pe_makeI M_Layout R_Layout (hr.mono (by omega)) (by rfl) D.gLay (pa_cons (pe_op op_cat (pe_op op_rep (pe_lst (pa_cons pe_int pa_nil)) (pv 0)) (pe_lst (pa_cons pe_int pa_nil))) pa_nil)))), ?_⟩
    clear R_Layout
    refine ⟨by show 1 ≤ sizeLine; decide, fun p np => ⟨_, rfl, p, _, _, rfl, rfl, upd_same, by omega, by omega, (by rw [Int.toNat_natCast]; exact Nat.le_of_lt (small1000 (show 1 * n ≤ 1000 by omega))), fun p2 np2 => ?_⟩⟩
    have s1 := same_upd (o := .lst [V.int 0]) np
    have s2 := same_upd (o := .lst (List.replicate (Int.toNat (n : Nat)) [V.int 0]).flatten) np2
    have e2 : (upd (upd H p (.lst [V.int 0])) p2 (.lst (List.replicate (Int.toNat (n : Nat)) [V.int 0]).flatten)) p2 = some (.lst (List.replicate (Int.toNat (n : Nat)) [V.int 0]).flatten) := upd_same
    generalize upd (upd H p (.lst [V.int 0])) p2 (.lst (List.replicate (Int.toNat (n : Nat)) [V.int 0]).flatten) = H2 at s2 e2 ⊢
    refine ⟨by show 1 ≤ sizeLine; decide, fun p3 np3 => ?_⟩
    have s3 := same_upd (o := .lst [V.int 1]) np3
    have e3 : (upd H2 p3 (.lst [V.int 1])) p3 = some (.lst [V.int 1]) := upd_same
    have e23 := s3 _ _ e2
    generalize upd H2 p3 (.lst [V.int 1]) = H3 at s3 e3 e23 ⊢
    have fl : ∀ m : Nat, (List.replicate m [V.int 0]).flatten = (List.replicate m (0 : Int)).map V.int := fun m => by simp
    rw [fl, Int.toNat_natCast] at e23
    refine ⟨p2, p3, _, _, rfl, rfl, e23, e3, small1000 (by simp; omega), fun p4 np4 => ?_⟩
    have s4 := same_upd (o := .lst ((List.replicate n (0 : Int)).map V.int ++ [V.int 1])) np4
    have e4 : (upd H3 p4 (.lst ((List.replicate n (0 : Int)).map V.int ++ [V.int 1]))) p4 = some (.lst ((List.replicate n (0 : Int)).map V.int ++ [V.int 1])) := upd_same
    have sA := ((s1.trans s2).trans s3).trans s4
    generalize upd H3 p4 (.lst ((List.replicate n (0 : Int)).map V.int ++ [V.int 1])) = H4 at s4 e4 sA ⊢
    refine ⟨p4, List.replicate n 0 ++ [1], rfl, .inl (by rw [e4, List.map_append]; rfl), by simp; omega, fun z hz => ?_, trim_len1 _ (by simp; omega), fun x H' s nx l => q x H' (sA.trans s) (sA.free nx) l⟩
    rcases List.mem_append.mp hz with hz | hz
    · rw [(List.mem_replicate.mp hz).2]
      exact Int.le_refl _
    · rw [List.mem_singleton.mp hz]
      decide
theorem ok_number {d : LayD} {f f1 : Addr} {fd : FuncData} {k : Nat} (F : Fun K "number" "Layout.number" s_Layoutnumber f fd) (D : LayF P K mg d) (M_Layout : Mk K d.lay f1) (R_Layout : FnR P w K mg base (L2.CX P w) 3 f1 (spMk d.lay)) : FnOk P w K mg base CX0 (k + 5) f fd ["n"] (spNumber d.lay) := by
  refine F.ok sc_Layoutnumber (fun vs H Q E h => ?_) (fun cdv A outer s H vs Q E hr h => ?_)
  · obtain ⟨n, rfl, _⟩ := h
    rfl
  · obtain ⟨n, rfl, hn, q⟩ := h
    refine ⟨_, (pss_one (ps_ret (pe_makeI M_Layout R_Layout (hr.mono (by omega)) (by rfl) D.gLay (pa_cons (pe_tup (pa_cons (pv 0) pa_nil)) pa_nil)))), ?_⟩
    clear R_Layout
    refine ⟨_, rfl, by show 1 ≤ sizeLine; decide, fun p np => ?_⟩
    have s1 := same_upd (o := .tup [V.int n]) np
    exact ⟨p, [n], rfl, .inr (.inl upd_same), by simp, fun z hz => by rw [List.mem_singleton.mp hz]; exact hn, trim_len1 _ (by simp), fun x H' s nx l => q x H' (s1.trans s) (s1.free nx) l⟩
theorem ok_getitem {d : LayD} {f : Addr} {fd : FuncData} {k : Nat} (F : Fun K "__getitem__" "Layout.__getitem__" s_Layoutgetitem f fd) (D : LayF P K mg d) : FnOk P w K mg base CX0 (k + 1) f fd ["self", "at"] (spItem d.lay) := by
  refine F.ok sc_Layoutgetitem (fun vs H Q E h => ?_) (fun cdv A outer s H vs Q E hr h => ?_)
  · obtain ⟨a, ns, i, rfl, _⟩ := h
    rfl
  · obtain ⟨a, ns, i, rfl, ⟨dx, r, ha, hr', h3, h4⟩, q⟩ := h
    refine ⟨_, (pss_one (ps_ret (pe_ifExp (pt_chain op_le op_le pe_int (pv 1) (pe_fld (pv 0) rfl)) (pe_ix ix_tup (pe_fld (pv 0) rfl) (pv 1) (fun _ _ => rfl)) pe_int))), ?_⟩
    refine ⟨_, rfl, _, _, rfl, rfl, _, rfl, ?_⟩
    by_cases z : 0 ≤ i
    · rw [decide_eq_true z]
      refine iteT ?_
      refine ⟨_, rfl, a, d.lay, dx, _, _, rfl, ha, D.lay, D.naD, rfl, _, _, rfl, rfl, _, rfl, ?_⟩
      by_cases y : i ≤ (ns.length : Int) - 1
      · rw [decide_eq_true y]
        refine iteT ?_
        obtain ⟨j, rfl⟩ : ∃ j : Nat, i = (j : Int) := ⟨i.toNat, by omega⟩
        have hj : j < ns.length := by omega
        refine ⟨_, rfl, a, d.lay, dx, _, .ref r, rfl, ha, D.lay, D.naF, rfl, _, rfl, r, _, _, V.int ns[j], rfl, rfl, .inl hr', atI_nat (by rw [List.getElem?_map, List.getElem?_eq_getElem hj]; rfl), ?_⟩
        have e : getI ns (j : Int) = ns[j] := by
          unfold getI
          rw [if_pos ⟨by omega, by omega⟩, Int.toNat_natCast, List.getD_eq_getElem?_getD, List.getElem?_eq_getElem hj]
          rfl
        rw [e] at q
        exact q
      · rw [decide_eq_false y]
        refine iteF ?_
        rw [show getI ns i = 0 from if_neg (by omega)] at q
        exact q
    · rw [decide_eq_false z]
      refine iteF ?_
      refine ⟨_, rfl, iteF ?_⟩
      rw [show getI ns i = 0 from if_neg (by omega)] at q
      exact q
theorem ok_contains {d : LayD} {f f1 : Addr} {fd : FuncData} {k : Nat} (F : Fun K "__contains__" "Layout.__contains__" s_Layoutcontains f fd) (D : LayF P K mg d) (M_getitem : OwnM K d.lay "__getitem__" f1) (R_getitem : FnR P w K mg base CX0 1 f1 (spItem d.lay)) : FnOk P w K mg base CX0 (k + 3) f fd ["self", "x"] (spHas d.lay) := by
  refine F.ok sc_Layoutcontains (fun vs H Q E h => ?_) (fun cdv A outer s H vs Q E hr h => ?_)
  · obtain ⟨a, ns, i, rfl, _⟩ := h
    rfl
  · obtain ⟨a, ns, i, rfl, hl, q⟩ := h
    refine ⟨_, (pss_one (ps_ret (pe_cmpR op_ne (pe_ixO M_getitem R_getitem (hr.mono (by omega)) pass0 (pv 0) (pv 1) (fun _ _ => rfl)) pe_int (nomark _)))), ?_⟩
    clear R_getitem
    obtain ⟨dx, r, ha, _⟩ := id hl
    refine ⟨_, rfl, _, rfl, a, dx, _, rfl, ha, ⟨a, ns, i, rfl, hl, ?_⟩⟩
    refine ⟨rfl, ?_⟩
    rw [bl_int]
    exact q
theorem ok_len {d : LayD} {f : Addr} {fd : FuncData} {k : Nat} (F : Fun K "__len__" "Layout.__len__" s_Layoutlen f fd) (T : TxtL mg) (D : LayF P K mg d) : FnOk P w K mg base CX0 (k + 1) f fd ["self"] (spLen d.lay) := by
  refine F.ok sc_Layoutlen (fun vs H Q E h => ?_) (fun cdv A outer s H vs Q E hr h => ?_)
  · obtain ⟨a, ns, rfl, _⟩ := h
    rfl
  · obtain ⟨a, ns, rfl, ⟨dx, r, ha, hr', h3, h4⟩, q⟩ := h
    refine ⟨_, (pss_one (ps_ret (pe_callB call_len_seq (by rfl) T.n_len (by decide +kernel) (pa_cons (pe_lc (own := [("factor", 1)]) (g := gName 1) rfl sc_Layoutlen.nd (pi_tup (pe_fld (pv 0) rfl)) (blkOk_by (own := [("factor", 1)]) (N := ["self", "factor"]) (sc := defScope s_Layoutlen) (by decide +kernel)) (fun _ _ _ _ _ => (pg_name (i := 1) sc_Layoutlen.nd rfl (.inl rfl))) (fun _ _ _ _ _ => (pts_one (pt_cmpR op_ne (pv 1) pe_int (nomark _)))) (fun _ _ _ _ _ => (pv 1))) pa_nil)))), ?_⟩
    refine ⟨_, rfl, a, d.lay, dx, _, .ref r, rfl, ha, D.lay, D.naF, rfl, r, rfl, ⟨_, .inl hr'⟩, fun L nL => ?_⟩
    refine lc_it (walk_tup (xs := ns.map V.int)) (fun i H5 => Same H H5 ∧ H5 L = some (.lst (((ns.take i).filter fun n => !decide (n = 0)).map V.int))) ⟨same_upd nL, upd_same⟩ (fun i H5 _ h => .inl (rd_same hr' h.1)) ?_ ?_
    · rintro i z H5 H6 hi ⟨s5, hL⟩ ⟨rfl, ez⟩
      rw [List.length_map] at hi
      rw [List.getElem?_map, List.getElem?_eq_getElem hi] at ez
      obtain rfl : V.int ns[i] = z := Option.some.inj ez
      have tk : (ns.take (i + 1)).filter (fun n => !decide (n = 0)) = (ns.take i).filter (fun n => !decide (n = 0)) ++ [ns[i]].filter (fun n => !decide (n = 0)) := by
        rw [List.take_add_one, List.getElem?_eq_getElem hi, List.filter_append]
        rfl
      refine ⟨rfl, ?_⟩
      refine ⟨_, rfl, rfl, _, bl_int, ?_⟩
      cases e : decide (ns[i] = 0) with
      | true =>
        refine iteF ⟨s5, ?_⟩
        rw [tk, hL, List.filter_cons_of_neg (by rw [e]; simp)]
        simp
      | false =>
        refine iteT ?_
        refine ⟨_, rfl, _, hL, small1000 ?_, same_at s5 nL, ?_⟩
        · rw [List.length_map]
          exact Nat.le_trans (List.length_filter_le _ _) (by rw [List.length_take]; omega)
        · rw [upd_same, tk, List.filter_cons_of_pos (by rw [e]; rfl), List.map_append]
          rfl
    · rintro H5 ⟨s5, hL⟩
      rw [List.length_map, List.take_length] at hL
      refine ⟨L, _, rfl, .inl (.inl (.inl hL)), ?_⟩
      rw [List.length_map]
      exact q _ s5
theorem ok_bool {d : LayD} {f : Addr} {fd : FuncData} {k : Nat} (F : Fun K "__bool__" "Layout.__bool__" s_Layoutbool f fd) (T : TxtL mg) (D : LayF P K mg d) : FnOk P w K mg base CX0 (k + 1) f fd ["self"] (spTruth d.lay) := by
  refine F.ok sc_Layoutbool (fun vs H Q E h => ?_) (fun cdv A outer s H vs Q E hr h => ?_)
  · obtain ⟨a, ns, rfl, _⟩ := h
    rfl
  · obtain ⟨a, ns, rfl, ⟨dx, r, ha, hr', h3, h4⟩, q⟩ := h
    refine ⟨_, (pss_one (ps_ret (pe_callTy call_boolT (by rfl) T.n_bool (by decide +kernel) (pa_cons (pe_fld (pv 0) rfl) pa_nil)))), ?_⟩
    refine ⟨_, rfl, a, d.lay, dx, _, .ref r, rfl, ha, D.lay, D.naF, rfl, r, _, rfl, .inl hr', ?_⟩
    rw [show (ns.map V.int).isEmpty = ns.isEmpty by cases ns <;> rfl]
    exact q
theorem ok_call {d : LayD} {f : Addr} {fd : FuncData} {k : Nat} (F : Fun K "__call__" "Layout.__call__" s_Layoutcall f fd) (D : LayF P K mg d) : FnOk P w K mg base CX0 (k + 1) f fd ["self", "n"] (spValue d.lay) := by
  refine F.ok sc_Layoutcall (fun vs H Q E h => ?_) (fun cdv A outer s H vs Q E hr h => ?_)
  · obtain ⟨a, ns, i, rfl, _⟩ := h
    rfl
  · obtain ⟨a, ns, n, rfl, ⟨dx, r, ha, hr', h3, h4⟩, n1, n2, q⟩ := h
    refine ⟨_, (pss_cons (ps_set (i := 2) sc_Layoutcall.nd rfl (.inl rfl) pe_int)
  (pss_cons (ps_for PassesOwn.never rfl (pi_tup (pe_revT (pe_fld (pv 0) rfl))) (pg_name (i := 3) sc_Layoutcall.nd rfl (.inl rfl))
   (pss_one (ps_set (i := 2) sc_Layoutcall.nd rfl (.inl rfl) (pe_op op_add (pe_op op_mul (pv 2) (pv 1)) (pv 3)))))
  (pss_one (ps_ret (pv 2))))), ?_⟩
    refine ⟨_, rfl, a, d.lay, dx, _, .ref r, rfl, ha, D.lay, D.naF, rfl, r, _, rfl, .inl hr', fun p np => ?_⟩
    rw [← List.map_reverse]
    have s1 := same_upd (o := .tup (ns.reverse.map V.int)) np
    have e1 : (upd H p (.tup (ns.reverse.map V.int))) p = some (.tup (ns.reverse.map V.int)) := upd_same
    generalize upd H p (.tup (ns.reverse.map V.int)) = H1 at s1 e1 ⊢
    refine ⟨p, rfl, ⟨_, .inl (.inl e1)⟩, for_it (walk_tup (xs := ns.reverse.map V.int)) (fun i σ H5 => Same H1 H5 ∧ ∃ z, σ = [some (.ref a), some (.int n), some (.int ((ns.reverse.take i).foldl (fun v f => v * n + f) 0)), z]) ⟨same_rfl _, _, rfl⟩ (fun i σ H5 _ h => .inl (.inl (h.1 _ _ e1))) ?_ ?_⟩
    · rintro i x σ H5 H6 hi ⟨s5, z, rfl⟩ ⟨rfl, ez⟩
      rw [List.length_map] at hi
      rw [List.getElem?_map, List.getElem?_eq_getElem hi] at ez
      obtain rfl : V.int ns.reverse[i] = x := Option.some.inj ez
      refine ⟨_, rfl, _, rfl, _, _, rfl, rfl, .inr ⟨by omega, by omega⟩, _, rfl, _, _, rfl, rfl, s5, some (.int ns.reverse[i]), ?_⟩
      rw [List.take_add_one, List.getElem?_eq_getElem hi, List.foldl_append]
      rfl
    · rintro σ H5 ⟨s5, z, rfl⟩
      rw [List.length_map, List.take_length]
      exact ⟨_, rfl, q _ (s1.trans s5)⟩
end
end My

namespace My
open PySem PySem.Spec PyProof.Rows L2
abbrev s_factor_at : Stmt := topS 8
theorem sc_factor_at : FnScope ["factors", "k"] ["factors", "k"] (defScope s_factor_at) := ⟨rfl, rfl, rfl, by decide +kernel, rfl, by decide +kernel, by decide +kernel⟩
abbrev s_added : Stmt := topS 9
theorem sc_added : FnScope ["one", "other", "many", "k"] ["one", "other"] (defScope s_added) := ⟨rfl, rfl, rfl, by decide +kernel, rfl, by decide +kernel, by decide +kernel⟩
abbrev s_is_from_zero : Stmt := topS 17
theorem sc_is_from_zero : FnScope ["thing"] ["thing"] (defScope s_is_from_zero) := ⟨rfl, rfl, rfl, by decide +kernel, rfl, by decide +kernel, by decide +kernel⟩
abbrev s_factors_beside : Stmt := topS 18
theorem sc_factors_beside : FnScope ["thing"] ["thing"] (defScope s_factors_beside) := ⟨rfl, rfl, rfl, by decide +kernel, rfl, by decide +kernel, by decide +kernel⟩
abbrev s_Layoutadd : Stmt := inClass (topS 20) 6
theorem sc_Layoutadd : FnScope ["self", "other", "factors"] ["self", "other"] (defScope s_Layoutadd) := ⟨rfl, rfl, rfl, by decide +kernel, rfl, by decide +kernel, by decide +kernel⟩
abbrev s_Layoutjoined : Stmt := inClass (topS 20) 5
theorem sc_Layoutjoined : FnScope ["first", "layouts", "total", "layout"] ["first", "layouts"] (defScope s_Layoutjoined) := ⟨rfl, rfl, rfl, by decide +kernel, rfl, by decide +kernel, by decide +kernel⟩
/-! ### sums -/
def addL (as bs : List Int) : List Int := (List.range (max as.length bs.length)).map fun k => as.getD k 0 + bs.getD k 0
theorem addL_len (as bs : List Int) : (addL as bs).length = max as.length bs.length := by unfold addL; simp
theorem getD_pos {as : List Int} (h : ∀ n ∈ as, 0 ≤ n) (k : Nat) : 0 ≤ as.getD k 0 := by
  rw [List.getD_eq_getElem?_getD]
  by_cases hk : k < as.length
  · rw [List.getElem?_eq_getElem hk]
    exact h _ (List.getElem_mem hk)
  · rw [List.getElem?_eq_none (by omega)]
    exact Int.le_refl _
theorem addL_pos {as bs : List Int} (h1 : ∀ n ∈ as, 0 ≤ n) (h2 : ∀ n ∈ bs, 0 ≤ n) : ∀ n ∈ addL as bs, 0 ≤ n := by
  intro n hn
  unfold addL at hn
  obtain ⟨k, _, rfl⟩ := List.mem_map.mp hn
  exact Int.add_nonneg (getD_pos h1 k) (getD_pos h2 k)
/-- the sum of layouts, one after another -/
def joinL : List (List Int) → List Int
  | [] => trimN (addL [] [0])
  | l :: r => r.foldl (fun acc m => trimN (addL acc m)) (trimN (addL [] l))
structure spFactorAt (vs : List V) (H : Hp) (Q : VK) (E : XK) : Prop where
  ex : ∃ (a : Addr) (as : List Int) (k : Nat), vs = [.ref a, .int (k : Nat)] ∧ Rd H a (.tup (as.map V.int)) ∧ Q (.int (as.getD k 0)) H
structure spAdded (vs : List V) (H : Hp) (Q : VK) (E : XK) : Prop where
  ex : ∃ a b as bs, vs = [.ref a, .ref b] ∧ Rd H a (.tup (as.map V.int)) ∧ Rd H b (.tup (bs.map V.int)) ∧ as.length ≤ 900 ∧ bs.length ≤ 900 ∧ ∀ r H', Same H H' → Rd H' r (.tup ((trimN (addL as bs)).map V.int)) → Q (.ref r) H'
structure spFromZero (vs : List V) (H : Hp) (Q : VK) (E : XK) : Prop where
  ex : ∃ i : Int, vs = [.int i] ∧ Q (.bl (decide (0 ≤ i))) H
structure spBeside (C : Addr) (vs : List V) (H : Hp) (Q : VK) (E : XK) : Prop where
  ex : ∃ x, vs = [x] ∧ ((∃ a ns, x = .ref a ∧ LayAt C H a ns ∧ ∀ r, Rd H r (.tup (ns.map V.int)) → Q (.ref r) H) ∨ (∃ i : Int, x = .int i ∧ 0 ≤ i ∧ ∀ r H', Same H H' → Rd H' r (.tup [V.int i]) → Q (.ref r) H'))
/-- what may stand beside a layout in a sum: a layout, an int -/
def BesideAt (C : Addr) (H : Hp) (y : V) (ms : List Int) : Prop := (∃ b, y = .ref b ∧ LayAt C H b ms) ∨ (∃ i : Int, y = .int i ∧ 0 ≤ i ∧ ms = [i])
structure spAdd (C : Addr) (vs : List V) (H : Hp) (Q : VK) (E : XK) : Prop where
  ex : ∃ a ns y ms, vs = [.ref a, y] ∧ LayAt C H a ns ∧ BesideAt C H y ms ∧ ∀ x H', Same H H' → H x = none → LayAt C H' x (trimN (addL ns ms)) → Q (.ref x) H'
/-- layouts at addresses -/
def LaysAt (C : Addr) (H : Hp) (ls : List (Addr × List Int)) : Prop := ∀ l ∈ ls, LayAt C H l.1 l.2
structure spJoinB (C : Addr) (vs : List V) (H : Hp) (Q : VK) (E : XK) : Prop where
  ex : ∃ y ms p ls, vs = [y, .ref p] ∧ BesideAt C H y ms ∧ H p = some (.tup (ls.map fun l : Addr × List Int => V.ref l.1)) ∧ LaysAt C H ls ∧ ∀ x H', Same H H' → H x = none → LayAt C H' x ((ls.map (·.2)).foldl (fun acc m => trimN (addL acc m)) (trimN (addL [] ms))) → Q (.ref x) H'
structure spJoined (C : Addr) (vs : List V) (H : Hp) (Q : VK) (E : XK) : Prop where
  ex : ∃ ls : List (Addr × List Int), vs = ls.map (fun l => V.ref l.1) ∧ ls.length ≤ 100 ∧ LaysAt C H ls ∧ ∀ x H', Same H H' → H x = none → LayAt C H' x (joinL (ls.map (·.2))) → Q (.ref x) H'
theorem BesideAt.pos {C : Addr} {H : Hp} {y : V} {ms : List Int} (h : BesideAt C H y ms) : (∀ n ∈ ms, 0 ≤ n) ∧ ms.length ≤ 41 := by
  rcases h with ⟨b, _, _, _, _, _, h3, h4⟩ | ⟨i, _, h0, rfl⟩
  · exact ⟨h4, h3⟩
  · exact ⟨fun n hn => by rw [List.mem_singleton.mp hn]; exact h0, by simp⟩
theorem BesideAt.same {C : Addr} {H H' : Hp} {y : V} {ms : List Int} (h : BesideAt C H y ms) (s : Same H H') : BesideAt C H' y ms := by
  rcases h with ⟨b, e, l⟩ | h
  · exact .inl ⟨b, e, l.same s⟩
  · exact .inr h
theorem LaysAt.same {C : Addr} {H H' : Hp} {ls : List (Addr × List Int)} (h : LaysAt C H ls) (s : Same H H') : LaysAt C H' ls := fun l m => (h l m).same s
section
variable {P : Program} {w : World} {K : PySem.W.Frag} {mg : Str → Option Value} {base : Heap}
theorem ok_factor_at {f : Addr} {fd : FuncData} {k : Nat} (F : Fun K "factor_at" "factor_at" s_factor_at f fd) (T : TxtL mg) : FnOk P w K mg base CX0 (k + 1) f fd ["factors", "k"] spFactorAt := by
  refine F.ok sc_factor_at (fun vs H Q E h => ?_) (fun cdv A outer s H vs Q E hr h => ?_)
  · obtain ⟨a, as, i, rfl, _⟩ := h
    rfl
  · obtain ⟨a, as, i, rfl, ha, q⟩ := h
    refine ⟨_, (pss_one (ps_ret (pe_ifExp (pt_cmpR op_lt (pv 1) (pe_callB call_len_seq (by rfl) T.n_len (by decide +kernel) (pa_cons (pv 0) pa_nil)) (nomark _)) (pe_ix ix_tup (pv 0) (pv 1) (fun _ _ => rfl)) pe_int))), ?_⟩
    refine ⟨_, rfl, _, rfl, a, _, rfl, .inr (.inl ha), _, _, rfl, rfl, _, rfl, ?_⟩
    rw [List.length_map]
    by_cases z : i < as.length
    · rw [decide_eq_true (show ((i : Nat) : Int) < (as.length : Int) by omega)]
      refine iteT ?_
      refine ⟨_, rfl, _, rfl, a, _, _, V.int as[i], rfl, rfl, .inl ha, atI_nat (by rw [List.getElem?_map, List.getElem?_eq_getElem z]; rfl), ?_⟩
      rw [List.getD_eq_getElem?_getD, List.getElem?_eq_getElem z] at q
      exact q
    · rw [decide_eq_false (show ¬ ((i : Nat) : Int) < (as.length : Int) by omega)]
      refine iteF ?_
      rw [List.getD_eq_getElem?_getD, List.getElem?_eq_none (by omega)] at q
      exact q
theorem ok_added {f f1 f2 : Addr} {fd fd1 fd2 : FuncData} {k : Nat} (F : Fun K "added" "added" s_added f fd) (T : TxtL mg) (F_trimmed : Fun K "trimmed" "trimmed" s_trimmed f1 fd1) (b_trimmed : Binds K fd1 ["factors"] []) (g_trimmed : mg "trimmed" = some (.ref f1)) (G_trimmed : FnOk P w K mg base CX0 1 f1 fd1 ["factors"] spTrim)
    (F_factor_at : Fun K "factor_at" "factor_at" s_factor_at f2 fd2) (b_factor_at : Binds K fd2 ["factors", "k"] []) (g_factor_at : mg "factor_at" = some (.ref f2)) (G_factor_at : FnOk P w K mg base CX0 1 f2 fd2 ["factors", "k"] spFactorAt) : FnOk P w K mg base CX0 (k + 2) f fd ["one", "other"] spAdded := by
  refine F.ok sc_added (fun vs H Q E h => ?_) (fun cdv A outer s H vs Q E hr h => ?_)
  · obtain ⟨a, b, as, bs, rfl, _⟩ := h
    rfl
  · obtain ⟨a, b, as, bs, rfl, ha, hb, la, lb, q⟩ := h
    refine ⟨_, (pss_cons (ps_set (i := 2) sc_added.nd rfl (.inl rfl) (pe_callB (call_max2 (by rfl)) (by rfl) T.n_max (by decide +kernel) (pa_cons (pe_callB call_len_seq (by rfl) T.n_len (by decide +kernel) (pa_cons (pv 0) pa_nil)) (pa_cons (pe_callB call_len_seq (by rfl) T.n_len (by decide +kernel) (pa_cons (pv 1) pa_nil)) pa_nil))))
  (pss_one (ps_ret (pe_call G_trimmed (hr.mono (by omega)) (by rfl) g_trimmed F_trimmed.kp b_trimmed .nil pass0 (pa_cons (pe_lc (own := [("k", 3)]) (g := gName 3) rfl sc_added.nd (pi_range1 (by rfl) T.n_range (pa_cons (pv 2) pa_nil)) (blkOk_by (own := [("k", 3)]) (N := ["one", "other", "many", "k"]) (sc := defScope s_added) (by decide +kernel)) (fun _ _ _ _ _ => (pg_name (i := 3) sc_added.nd rfl (.inl rfl))) (fun _ _ _ _ _ => pts_nil) (fun _ _ _ _ _ => (pe_op op_add (pe_call G_factor_at (hr.mono (by omega)) (by rfl) g_factor_at F_factor_at.kp b_factor_at .nil pass0 (pa_cons (pv 0) (pa_cons (pv 3) pa_nil))) (pe_call G_factor_at (hr.mono (by omega)) (by rfl) g_factor_at F_factor_at.kp b_factor_at .nil pass0 (pa_cons (pv 1) (pa_cons (pv 3) pa_nil)))))) pa_nil))))), ?_⟩
    clear G_trimmed G_factor_at
    refine ⟨_, rfl, a, _, rfl, .inr (.inl ha), _, rfl, b, _, rfl, .inr (.inl hb), _, _, rfl, ?_⟩
    rw [List.length_map, List.length_map]
    have em : (if (bs.length : Int) > (as.length : Int) then (bs.length : Int) else (as.length : Int)) = ((max as.length bs.length : Nat) : Int) := by
      split <;> omega
    rw [em]
    generalize hm : max as.length bs.length = m
    have lm : m ≤ 900 := by omega
    refine ⟨_, rfl, _, rfl, by omega, by omega, fun L nL => ?_⟩
    refine lc_it (walk_range (n := m)) (fun i H5 => Same H H5 ∧ H5 L = some (.lst (((List.range i).map fun k => as.getD k 0 + bs.getD k 0).map V.int))) ⟨same_upd nL, upd_same⟩ (fun _ _ _ _ => True.intro) ?_ ?_
    · rintro i z H5 H6 hi ⟨s5, hL⟩ ⟨rfl, ez⟩
      have hi' : i < m := by omega
      have ez' : z = V.int (0 + (i : Nat)) := ez
      subst ez'
      rw [Int.zero_add]
      refine ⟨rfl, ?_⟩
      unfold tYes
      dsimp only
      rw [if_pos rfl]
      refine ⟨_, rfl, _, rfl, ⟨a, as, i, rfl, rd_same ha s5, ?_⟩⟩
      refine ⟨_, rfl, _, rfl, ⟨b, bs, i, rfl, rd_same hb s5, ?_⟩⟩
      refine ⟨_, _, rfl, rfl, _, hL, ?_, same_at s5 nL, ?_⟩
      · rw [List.length_map, List.length_map, List.length_range]
        exact small1000 (by omega)
      · rw [upd_same, List.range_succ, List.map_append, List.map_append]
        rfl
    · rintro H5 ⟨s5, hL⟩
      have hz : (((m : Nat) : Int) - 0).toNat = m ∨ True := .inr True.intro
      refine ⟨L, addL as bs, rfl, .inl (by unfold addL; rw [hm]; exact hL), by rw [addL_len]; omega, fun r H' s6 er => q r H' (s5.trans s6) er⟩
theorem ok_is_from_zero {f f1 : Addr} {fd fd1 : FuncData} {k : Nat} (F : Fun K "is_from_zero" "is_from_zero" s_is_from_zero f fd) (F_is_integer : Fun K "is_integer" "is_integer" s_is_integer f1 fd1) (b_is_integer : Binds K fd1 ["thing"] []) (g_is_integer : mg "is_integer" = some (.ref f1)) (G_is_integer : FnOk P w K mg base CX0 1 f1 fd1 ["thing"] spIsInt) :
    FnOk P w K mg base CX0 (k + 2) f fd ["thing"] spFromZero := by
  refine F.ok sc_is_from_zero (fun vs H Q E h => ?_) (fun cdv A outer s H vs Q E hr h => ?_)
  · obtain ⟨i, rfl, _⟩ := h
    rfl
  · obtain ⟨i, rfl, q⟩ := h
    refine ⟨_, (pss_one (ps_ret (pe_and (pe_call G_is_integer (hr.mono (by omega)) (by rfl) g_is_integer F_is_integer.kp b_is_integer .nil pass0 (pa_cons (pv 0) pa_nil)) (pe_one (pe_cmpR op_ge (pv 0) pe_int (nomark _)))))), ?_⟩
    clear G_is_integer
    refine ⟨_, rfl, ⟨_, .int i, rfl, .int i, true, rfl, ?_⟩⟩
    refine iteT ?_
    exact ⟨_, rfl, _, _, rfl, rfl, q⟩
theorem ok_factors_beside {d : LayD} {mc : Value} {f f1 : Addr} {fd fd1 : FuncData} {k : Nat} (F : Fun K "factors_beside" "factors_beside" s_factors_beside f fd) (T : TxtL mg) (D : LayF P K mg d) (LG : LayG K d.lay mc) (F_is_from_zero : Fun K "is_from_zero" "is_from_zero" s_is_from_zero f1 fd1) (b_is_from_zero : Binds K fd1 ["thing"] []) (g_is_from_zero : mg "is_from_zero" = some (.ref f1))
    (G_is_from_zero : FnOk P w K mg base CX0 2 f1 fd1 ["thing"] spFromZero) : FnOk P w K mg base CX0 (k + 3) f fd ["thing"] (spBeside d.lay) := by
  refine F.ok sc_factors_beside (fun vs H Q E h => ?_) (fun cdv A outer s H vs Q E hr h => ?_)
  · obtain ⟨x, rfl, _⟩ := h
    rfl
  · obtain ⟨x, rfl, h⟩ := h
    refine ⟨_, (pss_cons (ps_if (pt_val (pe_callB call_isi (by rfl) T.n_isinstance (by decide +kernel) (pa_cons (pv 0) (pa_cons (pe_glob (v := .ref d.lay) (by rfl) D.gLay rfl) pa_nil))))
   (pss_one (ps_ret (pe_fld (pv 0) rfl)))
   pss_nil)
  (pss_one (ps_ret (pe_ifExp (pt_val (pe_call G_is_from_zero (hr.mono (by omega)) (by rfl) g_is_from_zero F_is_from_zero.kp b_is_from_zero .nil pass0 (pa_cons (pv 0) pa_nil))) (pe_tup (pa_cons (pv 0) pa_nil)) pe_non)))), ?_⟩
    clear G_is_from_zero
    rcases h with ⟨a, ns, rfl, ⟨dx, r, ha, hr', h3, h4⟩, q⟩ | ⟨i, rfl, h0, q⟩
    · refine ⟨_, rfl, _, _, _, _, true, rfl, .own _, .base (.ins ha D.lay LG.ca LG.cn LG.ct LG.cm), LG.isL, _, rfl, ?_⟩
      refine iteT ?_
      exact ⟨_, rfl, a, d.lay, dx, _, .ref r, rfl, ha, D.lay, D.naF, rfl, q r hr'⟩
    · refine ⟨_, rfl, _, _, _, _, false, rfl, .own _, .base (.int i), LG.isI, _, rfl, ?_⟩
      refine iteF ?_
      refine ⟨_, rfl, ⟨i, rfl, _, rfl, ?_⟩⟩
      rw [decide_eq_true h0]
      refine iteT ?_
      exact ⟨_, rfl, by show 1 ≤ sizeLine; decide, fun p np => q p _ (same_upd np) (.inl upd_same)⟩
theorem ok_add {d : LayD} {f f1 f2 f3 : Addr} {fd fd1 fd2 : FuncData} {k : Nat} (F : Fun K "__add__" "Layout.__add__" s_Layoutadd f fd) (D : LayF P K mg d) (M_Layout : Mk K d.lay f3) (R_Layout : FnR P w K mg base (L2.CX P w) 3 f3 (spMk d.lay))
    (F_factors_beside : Fun K "factors_beside" "factors_beside" s_factors_beside f1 fd1) (b_factors_beside : Binds K fd1 ["thing"] []) (g_factors_beside : mg "factors_beside" = some (.ref f1)) (G_factors_beside : FnOk P w K mg base CX0 3 f1 fd1 ["thing"] (spBeside d.lay))
    (F_added : Fun K "added" "added" s_added f2 fd2) (b_added : Binds K fd2 ["one", "other"] []) (g_added : mg "added" = some (.ref f2)) (G_added : FnOk P w K mg base CX0 2 f2 fd2 ["one", "other"] spAdded) : FnOk P w K mg base CX0 (k + 5) f fd ["self", "other"] (spAdd d.lay) := by
  refine F.ok sc_Layoutadd (fun vs H Q E h => ?_) (fun cdv A outer s H vs Q E hr h => ?_)
  · obtain ⟨a, ns, y, ms, rfl, _⟩ := h
    rfl
  · obtain ⟨a, ns, y, ms, rfl, hl, hy, q⟩ := h
    refine ⟨_, (pss_cons (ps_set (i := 2) sc_Layoutadd.nd rfl (.inl rfl) (pe_call G_factors_beside (hr.mono (by omega)) (by rfl) g_factors_beside F_factors_beside.kp b_factors_beside .nil pass0 (pa_cons (pv 1) pa_nil)))
  (pss_cons (ps_if (pt_cmpR op_isN (pv 2) pe_non (nomark _))
   (pss_one (ps_ret pe_dead))
   pss_nil)
  (pss_one (ps_ret (pe_makeI M_Layout R_Layout (hr.mono (by omega)) (by rfl) D.gLay (pa_cons (pe_call G_added (hr.mono (by omega)) (by rfl) g_added F_added.kp b_added .nil pass0 (pa_cons (pe_fld (pv 0) rfl) (pa_cons (pv 2) pa_nil))) pa_nil)))))), ?_⟩
    clear R_Layout G_factors_beside G_added
    obtain ⟨m1, m2⟩ := hy.pos
    obtain ⟨dx, r, ha, hr', h3, h4⟩ := id hl
    have rest : ∀ b H1, Same H H1 → Rd H1 b (.tup (ms.map V.int)) → spAdded [.ref r, .ref b] H1 (fun v H2 => ∃ a ns, [v] = [V.ref a] ∧ IntsAt H2 a ns ∧ ns.length ≤ 1000 ∧ (∀ n ∈ ns, 0 ≤ n) ∧ (trimN ns).length ≤ 41 ∧ ∀ x H', Same H2 H' → H2 x = none → LayAt d.lay H' x (trimN ns) → Q (.ref x) H') E0 := by
      intro b H1 s1 eb
      refine ⟨r, b, ns, ms, rfl, rd_same hr' s1, eb, by omega, by omega, fun r2 H2 s2 er => ?_⟩
      refine ⟨r2, trimN (addL ns ms), rfl, .inr er, Nat.le_trans (trimN_len _) (by rw [addL_len]; omega), fun n hn => addL_pos h4 m1 n (List.mem_of_mem_take hn), Nat.le_trans (trimN_len _) (Nat.le_trans (trimN_len _) (by rw [addL_len]; omega)), fun x H' s3 nx l => ?_⟩
      rw [trim_trim] at l
      exact q x H' ((s1.trans s2).trans s3) ((s1.trans s2).free nx) l
    rcases hy with ⟨b, rfl, lb⟩ | ⟨i, rfl, h0, rfl⟩
    · refine ⟨_, rfl, ⟨_, rfl, .inl ⟨b, ms, rfl, lb, fun rb hrb => ?_⟩⟩⟩
      refine ⟨_, rfl, rfl, _, rfl, iteF ?_⟩
      exact ⟨_, rfl, a, d.lay, dx, _, .ref r, rfl, ha, D.lay, D.naF, rfl, _, rfl, rest rb H (same_rfl _) hrb⟩
    · refine ⟨_, rfl, ⟨_, rfl, .inr ⟨i, rfl, h0, fun rb H1 s1 hrb => ?_⟩⟩⟩
      refine ⟨_, rfl, rfl, _, rfl, iteF ?_⟩
      exact ⟨_, rfl, a, d.lay, dx, _, .ref r, rfl, s1 _ _ ha, D.lay, D.naF, rfl, _, rfl, rest rb H1 s1 hrb⟩
end
end My

namespace My
open PySem PySem.Spec PyProof.Rows L2
theorem bindJ0 (T : Addr) (kV doc pm : Value) (an : Option Addr) (cdv ct : Value) : ∃ k, bindArgs (PySem.W.fnOf "joined" "Layout.joined" (defArgs s_Layoutjoined) (defBody s_Layoutjoined) (defScope s_Layoutjoined) (.ref T) kV doc pm an cdv ct) ⟨[], []⟩ = seqItems? (.ref T) >>= k ∧ ∀ v, k (some #[v]) = (newTuple [] >>= fun t => pure [(("first" : Str), v), (("layouts" : Str), t)]) := ⟨_, rfl, fun _ => rfl⟩
theorem bindJ1 (T : Addr) (kV doc pm : Value) (an : Option Addr) (cdv ct : Value) (a : Value) : ∃ k, bindArgs (PySem.W.fnOf "joined" "Layout.joined" (defArgs s_Layoutjoined) (defBody s_Layoutjoined) (defScope s_Layoutjoined) (.ref T) kV doc pm an cdv ct) ⟨[a], []⟩ = seqItems? (.ref T) >>= k ∧ ∀ v, k (some #[v]) = (newTuple [] >>= fun t => pure [(("first" : Str), a), (("layouts" : Str), t)]) := ⟨_, rfl, fun _ => rfl⟩
theorem bindJ2 (T : Addr) (kV doc pm : Value) (an : Option Addr) (cdv ct : Value) (a b : Value) (r : List Value) : ∃ k, bindArgs (PySem.W.fnOf "joined" "Layout.joined" (defArgs s_Layoutjoined) (defBody s_Layoutjoined) (defScope s_Layoutjoined) (.ref T) kV doc pm an cdv ct) ⟨a :: b :: r, []⟩ = seqItems? (.ref T) >>= k ∧ ∀ v, k (some #[v]) = (newTuple (b :: r) >>= fun t => pure [(("first" : Str), a), (("layouts" : Str), t)]) := ⟨_, rfl, fun _ => rfl⟩
/-- the def joined as it stands: its default is 0 -/
structure JoinK (K : PySem.W.Frag) (f : Addr) : Prop where
  ex : ∃ (oc : Value) (od : Option Addr) (T : Addr) (kV doc pm : Value) (an : Option Addr) (cdv ct : Value) (osl : Array (Option Value)) (o : Obj) (tk : Tok) (n : Nat),
    K.lookup f = some ⟨oc, od, .func (PySem.W.fnOf "joined" "Layout.joined" (defArgs s_Layoutjoined) (defBody s_Layoutjoined) (defScope s_Layoutjoined) (.ref T) kV doc pm an cdv ct), osl⟩ ∧ PySem.W.codeIn K cdv "Layout.joined" = true ∧ K.lookup T = some o ∧ o.data = .seq #[.int 0 tk] n
  kp : PySem.W.keepIn K (.ref f) = true
section
variable {P : Program} {w : World} {K : PySem.W.Frag} {mg : Str → Option Value} {base : Heap}
theorem joined_body {d : LayD} {mc : Value} {f f1 f3 : Addr} {k : Nat} (D : LayF P K mg d) (LG : LayG K d.lay mc) (M_Layout : Mk K d.lay f3) (R_Layout : FnR P w K mg base (L2.CX P w) 3 f3 (spMk d.lay)) (M_add : OwnM K d.lay "__add__" f1) (R_add : FnR P w K mg base CX0 5 f1 (spAdd d.lay))
    (cdv : Value) (A : Around) (outer : List Env) (s : Shared) (H : Hp) (vs : List V) (Q : VK) (E : XK) (hr : Room (k + 5) (A.deeper (envOfC "Layout.joined" (defScope s_Layoutjoined) s.heap.objs.size f cdv))) (h : spJoinB d.lay vs H Q E) :
    ∃ t, PSs (cxOf CX0 P w K mg base ["first", "layouts", "total", "layout"] "Layout.joined" (defScope s_Layoutjoined) f cdv A outer s H E).nox (defBody s_Layoutjoined) t ∧ t { nx := fun _ H' => Q .non H', rt := Q } (L2.start ["first", "layouts", "total", "layout"] vs) H := by
  obtain ⟨y, ms, p, ls, rfl, hy, hp, hls, q⟩ := h
  refine ⟨_, (pss_cons (ps_set (i := 2) sc_Layoutjoined.nd rfl (.inl rfl) (pe_op ((op_binO rfl LG.first M_add R_add (hr.mono (by omega)) pass0).or (op_binI rfl rfl LG.first LG.addI M_add R_add (hr.mono (by omega)) pass0)) (pe_makeI M_Layout R_Layout (hr.mono (by omega)) (by rfl) D.gLay (pa_cons (pe_tup pa_nil) pa_nil)) (pv 0)))
  (pss_cons (ps_for PassesOwn.never rfl (pi_tup (pv 1)) (pg_name (i := 3) sc_Layoutjoined.nd rfl (.inl rfl))
   (pss_one (ps_set (i := 2) sc_Layoutjoined.nd rfl (.inl rfl) (pe_op (op_binO rfl LG.first M_add R_add (hr.mono (by omega)) pass0) (pv 2) (pv 3)))))
  (pss_one (ps_ret (pv 2))))), ?_⟩
  clear R_Layout R_add
  refine ⟨by show 0 ≤ sizeLine; decide, fun p0 np0 => ?_⟩
  have s0 := same_upd (o := .tup []) np0
  have e0 : (upd H p0 (.tup [])) p0 = some (.tup []) := upd_same
  generalize upd H p0 (.tup []) = H0 at s0 e0 ⊢
  refine ⟨p0, [], rfl, .inr (.inl e0), by simp, (fun n hn => nomatch hn), Nat.zero_le _, fun x1 H1 s1 nx1 l1 => ?_⟩
  have tn : trimN [] = [] := rfl
  rw [tn] at l1
  have s01 := s0.trans s1
  obtain ⟨dx1, r1, hx1, _⟩ := id l1
  have step : ∀ (x2 : Addr) (H2 : Hp), Same H1 H2 → H1 x2 = none → LayAt d.lay H2 x2 (trimN (addL [] ms)) → ∀ (Z : L2.St → Hp → Prop), (∀ σ H3, (∃ tt z, σ = [some y, some (.ref p), some (.ref tt), z] ∧ Same H H3 ∧ H tt = none ∧ LayAt d.lay H3 tt ((ls.map (·.2)).foldl (fun acc m => trimN (addL acc m)) (trimN (addL [] ms)))) → Z σ H3) →
      iTup K (tVar 1) [some y, some (.ref p), some (.ref x2), none] H2 fun J H4 => ∃ W : Nat → Nat → L2.St → Hp → Prop, (∃ m, W 0 m [some y, some (.ref p), some (.ref x2), none] H4) ∧ ∀ i m σ H, W i m σ H → (J.stop i H ∧ Z σ H) ∨ (J.go i H ∧ ∃ N : L2.St → Hp → Prop, (∀ σ' H', N σ' H' → ∃ m', m' < m ∧ W (i + 1) m' σ' H') ∧ ∀ x H', J.yld i H x H' → gName 3 x σ H' fun σ2 H2 => (tOp (rBinO d.lay (spAdd d.lay) E0) (tVar 2) (tVar 3)) σ2 H2 fun v H5 => N (σ2.set 2 (some v)) H5) := by
    intro x2 H2 s2 nx2 l2 Z hz
    have s02 := s01.trans s2
    refine ⟨_, rfl, p, rfl, ⟨_, .inl (.inl (s02 _ _ hp))⟩, ?_⟩
    refine for_it (D := { nx := Z, rt := fun _ _ => True, ct := Z, bk := Z }) (tb := fun D σ2 H2 => (tOp (rBinO d.lay (spAdd d.lay) E0) (tVar 2) (tVar 3)) σ2 H2 fun v H5 => D.nx (σ2.set 2 (some v)) H5) (walk_tup (xs := ls.map fun l => V.ref l.1)) (fun i σ H5 => Same H H5 ∧ ∃ tt z, σ = [some y, some (.ref p), some (.ref tt), z] ∧ H tt = none ∧ LayAt d.lay H5 tt (((ls.take i).map (·.2)).foldl (fun acc m => trimN (addL acc m)) (trimN (addL [] ms))))
      ⟨s02, x2, none, rfl, s01.free nx2, l2⟩ (fun i σ H5 _ h => .inl (.inl (h.1 _ _ hp))) ?_ ?_
    · rintro i x σ H5 H6 hi ⟨s5, tt, z, rfl, ntt, l5⟩ ⟨rfl, ez⟩
      rw [List.length_map] at hi
      rw [List.getElem?_map, List.getElem?_eq_getElem hi] at ez
      obtain rfl : V.ref ls[i].1 = x := Option.some.inj ez
      have lx := (hls _ (List.getElem_mem hi)).same s5
      obtain ⟨dx5, r5, h5, _⟩ := id l5
      obtain ⟨dx6, r6, h6, _⟩ := id lx
      refine ⟨_, rfl, _, rfl, tt, dx5, _, ls[i].1, dx6, _, rfl, h5, rfl, h6, ⟨tt, _, _, _, rfl, l5, .inl ⟨_, rfl, lx⟩, fun x7 H7 s7 nx7 l7 => ?_⟩⟩
      refine ⟨s5.trans s7, x7, _, rfl, s5.free nx7, ?_⟩
      rw [List.take_add_one, List.getElem?_eq_getElem hi, List.map_append, List.foldl_append]
      exact l7
    · rintro σ H5 ⟨s5, tt, z, rfl, ntt, l5⟩
      rw [List.length_map, List.take_length] at l5
      exact hz _ _ ⟨tt, z, rfl, s5, ntt, l5⟩
  have fin : ∀ σ H3, (∃ tt z, σ = [some y, some (.ref p), some (.ref tt), z] ∧ Same H H3 ∧ H tt = none ∧ LayAt d.lay H3 tt ((ls.map (·.2)).foldl (fun acc m => trimN (addL acc m)) (trimN (addL [] ms)))) → (tVar 2) σ H3 Q := by
    rintro σ H3 ⟨tt, z, rfl, s3, ntt, l3⟩
    exact ⟨_, rfl, q tt H3 s3 ntt l3⟩
  refine ⟨y, rfl, ?_⟩
  rcases hy with ⟨b, rfl, lb⟩ | ⟨i, rfl, i0, rfl⟩
  · have lb1 := lb.same s01
    obtain ⟨dxb, rb, hb, _⟩ := id lb1
    exact .inl ⟨x1, dx1, _, b, dxb, _, rfl, hx1, rfl, hb, ⟨x1, [], _, _, rfl, l1, .inl ⟨b, rfl, lb1⟩, fun x2 H2 s2 nx2 l2 => step x2 H2 s2 nx2 l2 _ fin⟩⟩
  · exact .inr ⟨x1, dx1, _, i, rfl, hx1, rfl, ⟨x1, [], _, _, rfl, l1, .inr ⟨i, rfl, i0, rfl⟩, fun x2 H2 s2 nx2 l2 => step x2 H2 s2 nx2 l2 _ fin⟩⟩
theorem joined_at {d : LayD} {mc : Value} {f f1 f3 : Addr} {k : Nat} (J : JoinK K f) (D : LayF P K mg d) (LG : LayG K d.lay mc) (M_Layout : Mk K d.lay f3) (R_Layout : FnR P w K mg base (L2.CX P w) 3 f3 (spMk d.lay)) (M_add : OwnM K d.lay "__add__" f1) (R_add : FnR P w K mg base CX0 5 f1 (spAdd d.lay)) :
    FnR P w K mg base CX0 (k + 6) f (spJoined d.lay) := by
  obtain ⟨oc, od, T, kV, doc, pm, an, cdv, ct, osl, o, tk, n, lk, hcd, lT, oT⟩ := J.ex
  intro A outer s H us vs Q E hr e0 rv hsp
  obtain ⟨ls, rfl, few, hls, q⟩ := hsp
  have KX : K.In s.heap := e0.mod.kin.keeps fun b o e => (e0.bs b o e).1
  have hn : H s.heap.objs.size = Option.none := e0.hok.fresh (Nat.le_refl _)
  have go : ∀ (y : V) (u : Value) (ms : List Int) (r2 : List (Addr × List Int)) (u2 : List Value), RelV y u → Vals (r2.map fun l => V.ref l.1) u2 → r2.length ≤ 100 → BesideAt d.lay H y ms → LaysAt d.lay H r2 →
      (∃ k, bindArgs (PySem.W.fnOf "joined" "Layout.joined" (defArgs s_Layoutjoined) (defBody s_Layoutjoined) (defScope s_Layoutjoined) (.ref T) kV doc pm an cdv ct) ⟨us, []⟩ = seqItems? (.ref T) >>= k ∧ k (some #[.int 0 tk]) = (newTuple u2 >>= fun t => pure [(("first" : Str), u), (("layouts" : Str), t)])) →
      (∀ x H', Same H H' → H x = none → LayAt d.lay H' x ((r2.map (·.2)).foldl (fun acc m => trimN (addL acc m)) (trimN (addL [] ms))) → Q (.ref x) H') →
      codeAny (model P w) A (.call (.ref f) ⟨us, []⟩) (CR CX0 outer P w H s Q E) s := by
    intro y u ms r2 u2 ry r2v few2 hy hl2 ⟨kk, hb1, hb2⟩ hq
    have hz : u2.length ≤ sizeLine := by
      rw [← r2v.length, List.length_map]
      exact Nat.le_of_lt (small1000 (by omega))
    have hz' : (r2.map fun l : Addr × List Int => V.ref l.1).length ≤ sizeLine := by rw [r2v.length]; exact hz
    refine StX.run_bnd (ps := ["first", "layouts"]) lk hcd sc_Layoutjoined hr e0 (G := fun xs H2 => ∃ p, H p = Option.none ∧ xs = [y, V.ref p] ∧ H2 = upd H p (.tup (r2.map fun l : Addr × List Int => V.ref l.1))) (fun A' Ex Q' h => ?_) fun s2 H2 xs ⟨p, hp, ex, eH⟩ hr' => ?_
    · rw [hb1]
      refine wpAny_bind (wpAny_seqItems (KX T o lT) oT ?_)
      rw [hb2]
      refine wpAny_bind (wpAny_newTuple (wpAny_pure ?_) hz)
      have new : ObjOk P w (upd H s.heap.objs.size (.tup (r2.map fun l : Addr × List Int => V.ref l.1))) (s.heap.push ({ cls := .type "tuple", data := .seq u2.toArray } : Obj)) s.heap.objs.size (.tup (r2.map fun l : Addr × List Int => V.ref l.1)) := ⟨hz', u2, r2v, ⟨_, Heap.get?_push_size _ rfl, rfl, _, rfl⟩⟩
      have un := StX.un_laid (fs := frs outer) (s := s) (o := ({ cls := .type "tuple", data := .seq u2.toArray } : Obj)) (u := .tup (r2.map fun l : Addr × List Int => V.ref l.1)) hn
      exact h _ _ [y, V.ref s.heap.objs.size] [u, Value.ref s.heap.objs.size] (StX.env0_laid e0 new) un rfl (fun e s' z => z) (.cons ry (.cons rfl .nil)) rfl ⟨_, hn, rfl, rfl⟩
    · subst ex eH
      have s1 : Same H (upd H p (.tup (r2.map fun l : Addr × List Int => V.ref l.1))) := same_upd hp
      obtain ⟨t, ht, qt⟩ := joined_body (k := k) (f := f) D LG M_Layout R_Layout M_add R_add cdv A outer s2 _ [y, V.ref p] Q E hr' ⟨y, ms, p, r2, rfl, hy.same s1, upd_same, hl2.same s1, fun x H' s2 nx l => hq x H' (s1.trans s2) (s1.free nx) l⟩
      exact ⟨t, ht.nox, qt⟩
  match ls, us, rv, few, hls, q with
  | [], _, .nil, _, _, q =>
    obtain ⟨kk, h1, h2⟩ := bindJ0 T kV doc pm an cdv ct
    exact go (.int 0) (.int 0 tk) [0] [] [] ⟨tk, rfl⟩ .nil (Nat.zero_le _) (.inr ⟨0, rfl, Int.le_refl _, rfl⟩) (fun _ m => nomatch m) ⟨kk, h1, h2 _⟩ q
  | [l], [u], .cons ru .nil, _, hls, q =>
    obtain ⟨kk, h1, h2⟩ := bindJ1 T kV doc pm an cdv ct u
    exact go _ u l.2 [] [] ru .nil (Nat.zero_le _) (.inl ⟨l.1, rfl, hls l List.mem_cons_self⟩) (fun _ m => nomatch m) ⟨kk, h1, h2 _⟩ q
  | l :: m :: r, u :: u2 :: ur, .cons ru (.cons ru2 rur), few, hls, q =>
    obtain ⟨kk, h1, h2⟩ := bindJ2 T kV doc pm an cdv ct u u2 ur
    exact go _ u l.2 (m :: r) (u2 :: ur) ru (.cons ru2 rur) (by simp at few ⊢; omega) (.inl ⟨l.1, rfl, hls l List.mem_cons_self⟩) (fun z hz => hls z (List.mem_cons_of_mem _ hz)) ⟨kk, h1, h2 _⟩ q
end
end My

namespace My
open PySem PySem.Spec PyProof.Rows L2
abbrev s_law_trimmed : Stmt := topS 27
theorem sc_law_trimmed : FnScope ["factors", "some"] ["factors"] (defScope s_law_trimmed) := ⟨rfl, rfl, rfl, by decide +kernel, rfl, by decide +kernel, by decide +kernel⟩
theorem at_last (l : List V) (x : V) : atI (l ++ [x]) (-1) = some x := by
  unfold atI ixN
  rw [List.length_append, List.length_cons, List.length_nil, if_neg (by decide), if_pos (by omega), Option.bind_some]
  rw [show (-1 + ((l.length + (0 + 1) : Nat) : Int)).toNat = l.length by omega]
  simp
theorem last_get (l : List V) (x : V) : (l ++ [x])[(l ++ [x]).length - 1]? = some x := by simp
structure spLTrim (K : PySem.W.Frag) (vs : List V) (H : Hp) (Q : VK) (E : XK) : Prop where
  ex : ∃ a ns, vs = [.ref a] ∧ SqL K H a (ns.map V.int) ∧ ns.length ≤ 900 ∧ ∀ l H', Same H H' → H l = none → H' l = some (.lst ((trimN ns).map V.int)) → Q (.ref l) H'
section
variable {P : Program} {w : World} {K : PySem.W.Frag} {mg : Str → Option Value} {base : Heap}
theorem ok_law_trimmed {f : Addr} {fd : FuncData} {k : Nat} (F : Fun K "_law_trimmed" "_law_trimmed" s_law_trimmed f fd) (T : TxtL mg) : FnOk P w K mg base CX0 (k + 1) f fd ["factors"] (spLTrim K) := by
  refine F.ok sc_law_trimmed (fun vs H Q E h => ?_) (fun cdv A outer s H vs Q E hr h => ?_)
  · obtain ⟨a, ns, rfl, _⟩ := h
    rfl
  · obtain ⟨a, ns, rfl, ha, hl9, q⟩ := h
    refine ⟨_, (pss_cons (ps_set (i := 1) sc_law_trimmed.nd rfl (.inl rfl) (pe_callTy call_list_of (by rfl) T.n_list (by decide +kernel) (pa_cons (pv 0) pa_nil)))
  (pss_cons (ps_while PassesOwn.never (PW.pt (pw_and (pt_cmpR (op_neNil hr.units) (pv 1) (pe_lst pa_nil) (nomark _)) (pw_and1 (pt_cmpR op_eq (pe_ix ix_list (pv 1) (pe_un un_neg pe_int) (fun _ _ => rfl)) pe_int (nomark _)))))
   (pss_one (ps_expr (pe_bm0 PySem.F.plainAttrs_list PySem.F.slot_list_pop PySem.F.type_list_pop mt_pop (pv 1)))))
  (pss_one (ps_ret (pv 1))))), ?_⟩
    refine ⟨_, rfl, a, _, rfl, .inl ha, fun l nl => ?_⟩
    have hl : (upd H l (.lst (ns.map V.int))) l = some (.lst (ns.map V.int)) := upd_same
    have s7 := same_upd (o := .lst (ns.map V.int)) nl
    generalize upd H l (.lst (ns.map V.int)) = H7 at hl s7 ⊢
    refine ⟨fun j σ H8 => j ≤ ns.length ∧ lastN ns j = lastN ns ns.length ∧ Same H H8 ∧ H8 l = some (.lst ((ns.take j).map V.int)) ∧ σ = [some (.ref a), some (.ref l)], ⟨ns.length, Nat.le_refl _, rfl, s7, by rw [hl, List.take_length], rfl⟩, ?_⟩
    rintro j σ H8 ⟨hj, hlast, s8, hl8, rfl⟩
    refine ⟨_, rfl, by show 0 ≤ sizeLine; decide, fun b2 nb2 => ?_⟩
    have hl9 : (upd H8 b2 (.lst [])) l = some (.lst ((ns.take j).map V.int)) := by
      rw [upd_ne (ne_of_none hl8 nb2)]
      exact hl8
    refine ⟨l, b2, _, rfl, rfl, hl9, upd_same, _, rfl, ?_⟩
    have s9 := s8.trans (same_upd (o := .lst []) nb2)
    generalize upd H8 b2 (.lst []) = H9 at s9 hl9 ⊢
    cases j with
    | zero =>
      refine iteF ?_
      refine iteF ?_
      have tm : trimN ns = ns.take 0 := by
        unfold trimN
        rw [← hlast, show lastN ns 0 = 0 from rfl]
      exact ⟨_, rfl, q l H9 s9 nl (by rw [hl9, tm])⟩
    | succ i =>
      have hi : i < ns.length := hj
      have ts : (ns.take (i + 1)).map V.int = (ns.take i).map V.int ++ [V.int ns[i]] := by
        rw [List.take_add_one, List.getElem?_eq_getElem hi, List.map_append]
        rfl
      have ne : (!((ns.take (i + 1)).map V.int).isEmpty) = true := by
        rw [ts]
        simp
      rw [ne]
      refine iteT ?_
      have hl10 := hl9
      rw [ts] at hl10
      refine ⟨_, rfl, _, rfl, l, _, _, _, rfl, rfl, .inl (.inl hl10), at_last _ _, rfl, decide (ns[i] = 0), eqI _ 0, ?_⟩
      by_cases hz : ns[i] = 0
      · rw [decide_eq_true hz]
        refine iteT ?_
        have gz : ns[i]? = some 0 := by rw [List.getElem?_eq_getElem hi, hz]
        refine ⟨fun σ' H' => i ≤ ns.length ∧ lastN ns i = lastN ns ns.length ∧ Same H H' ∧ H' l = some (.lst ((ns.take i).map V.int)) ∧ σ' = [some (.ref a), some (.ref l)], fun σ' H' h => ⟨i, by omega, h⟩, ?_⟩
        refine ⟨_, rfl, .inl ⟨rfl, _, .inl (.inl hl10)⟩, l, _, _, rfl, rfl, hl10, last_get _ _, Nat.le_of_lt hi, by rw [← hlast, last_go gz], same_at s9 nl, ?_, rfl⟩
        rw [upd_same, List.dropLast_concat]
      · rw [decide_eq_false hz]
        refine iteF ?_
        have z0 : ns[i]? ≠ some 0 := fun z => by
          rw [List.getElem?_eq_getElem hi] at z
          exact hz (Option.some.inj z)
        have tm : trimN ns = ns.take (i + 1) := by
          unfold trimN
          rw [← hlast, last_stay z0]
        exact ⟨_, rfl, q l H9 s9 nl (by rw [hl9, tm])⟩
end
end My

namespace My
open PySem PySem.Spec PyProof.Rows L2
abbrev s_law_right : Stmt := topS 28
theorem sc_law_right : FnScope ["layout", "factors", "points", "factor", "spot", "due", "point", "total", "unit"] ["layout", "factors", "points"] (defScope s_law_right) := ⟨rfl, rfl, rfl, by decide +kernel, rfl, by decide +kernel, by decide +kernel⟩
theorem go_nox {P : Program} {w : World} {K : PySem.W.Frag} {mg : Str → Option Value} {base : Heap} {k : Nat} {f : Addr} {fd : FuncData} {ps N : List Str} {sp : Sp} {x qual : Str} {st : Stmt} (F : Fun K x qual st f fd) (S : FnScope N ps (defScope st)) (many : ∀ vs H Q E, sp vs H Q E → vs.length = ps.length)
    (hb : ∀ (cdv : Value) (A : Around) (outer : List Env) (s : Shared) (H : Hp) (vs : List V) (Q : VK) (E : XK), Room k (A.deeper (envOfC qual (defScope st) s.heap.objs.size f cdv)) → (A.deeper (envOfC qual (defScope st) s.heap.objs.size f cdv)).guards = some [] →
      sp vs H Q E → ∃ t, PSs (cxOf CX0 P w K mg base N qual (defScope st) f cdv A outer s H E).nox (defBody st) t ∧ t { nx := fun _ H' => Q .non H', rt := Q } (L2.start N vs) H) : FnG P w K mg base CX0 (k + 1) f fd ps sp :=
  go_of F S many fun cdv A outer s H vs Q E hr quiet h => by
    obtain ⟨t, ht, q⟩ := hb cdv A outer s H vs Q E hr quiet h
    exact ⟨t, ht.nox, q⟩
/-! ### small things -/
theorem ty_rd {K : PySem.W.Frag} {H : Hp} {r : Addr} {xs : List V} (h : Rd H r (.tup xs)) : TyX K H (.ref r) (.type "tuple") := by
  rcases h with e | ⟨o, e⟩
  · exact .base (.tup e)
  · exact .fTuple e
theorem rp_int {H : Hp} {i : Int} {Q : VK} (h : i.natAbs < 10 ^ 50) (q : Q (.str (PyData.int i).shown) H) : rReprE [.int i] H Q := by
  obtain ⟨a, b⟩ := sm_show (.int i) (by simpa only [smB, decide_eq_true_eq] using h)
  refine .inl ⟨_, .int i, rfl, .int i, a, fun _ => rfl, by simp [PyData.depth], ?_, q⟩
  rw [sizeLine_eq]
  simp only [nodes] at b
  omega
theorem rp_bl {H : Hp} {i : Bool} {Q : VK} (q : Q (.str (PyData.bool i).shown) H) : rReprE [.bl i] H Q := by
  obtain ⟨a, b⟩ := sm_show (.bool i) rfl
  refine .inl ⟨_, .bool i, rfl, .bl i, a, fun _ => rfl, by simp [PyData.depth], ?_, q⟩
  rw [sizeLine_eq]
  simp only [nodes] at b
  omega
theorem eqvAll_ints : ∀ ns : List Int, PyData.eqvAll (ns.map PyData.int) (ns.map PyData.int) = true
  | [] => by simp [PyData.eqvAll]
  | n :: r => by
    rw [List.map_cons]
    simp [PyData.eqvAll, PyData.eqv, eqvAll_ints r]
theorem eqvT_ints (ns : List Int) : PyData.eqv (.tuple (ns.map PyData.int)) (.tuple (ns.map PyData.int)) = true := by
  rw [PyData.eqv]
  exact eqvAll_ints ns
theorem shT_ints (ns : List Int) : SeqAt.shaped (.tuple (ns.map PyData.int)) = true := by
  have h := dep_ints ns
  exact sh_of (by simp only [PyData.canLay0]; exact lay_ints ns) (by simp only [PyData.depth]; omega)
theorem horn_r (ns : List Int) (p : Int) : hornI ns p = ns.foldr (fun f v => v * p + f) 0 := by
  unfold hornI
  rw [List.foldl_reverse]
theorem getI_bound {ns : List Int} {m : Nat} (h : ∀ n ∈ ns, n.natAbs < m) (hm : 0 < m) (i : Int) : (getI ns i).natAbs < m := by
  unfold getI
  split
  · rename_i z
    rw [List.getD_eq_getElem?_getD, List.getElem?_eq_getElem (by omega)]
    exact h _ (List.getElem_mem _)
  · exact hm
structure spRight (C : Addr) (vs : List V) (H : Hp) (Q : VK) (E : XK) : Prop where
  ex : ∃ (a : Addr) (ns : List Int) (b p : Addr) (ps : List Int), vs = [.ref a, .ref b, .ref p] ∧ LayAt C H a ns ∧ H b = some (.lst (ns.map V.int)) ∧ H p = some (.lst (ps.map V.int)) ∧ (∀ n ∈ ns, n.natAbs < 10 ^ 18) ∧ (∀ z ∈ ps, -1000000000 ≤ z ∧ z ≤ 1000000000) ∧ ∀ H', Same H H' → Q (.bl true) H'
section
variable {P : Program} {w : World} {K : PySem.W.Frag} {mg : Str → Option Value} {base : Heap}
theorem go_law_right {d : LayD} {mc : Value} {f fT fC f1 f2 f3 f4 f5 : Addr} {p1 p2 : Addr} {fd fdT fdC : FuncData} {k : Nat} (F : Fun K "_law_right" "_law_right" s_law_right f fd) (T : TxtL mg) (D : LayF P K mg d) (LG : LayG K d.lay mc)
    (P_total : PropOf K d.lay "total" p1 fT) (b_total : Binds K fdT ["self"] []) (G_total : FnOk P w K mg base CX0 1 fT fdT ["self"] (spTotal d.lay)) (P_constant : PropOf K d.lay "constant" p2 fC) (b_constant : Binds K fdC ["self"] []) (G_constant : FnOk P w K mg base CX0 1 fC fdC ["self"] (spConst d.lay))
    (M_getitem : OwnM K d.lay "__getitem__" f1) (R_getitem : FnR P w K mg base CX0 1 f1 (spItem d.lay)) (M_contains : OwnM K d.lay "__contains__" f2) (R_contains : FnR P w K mg base CX0 3 f2 (spHas d.lay)) (M_len : OwnM K d.lay "__len__" f3) (R_len : FnR P w K mg base CX0 1 f3 (spLen d.lay))
    (M_bool : OwnM K d.lay "__bool__" f4) (R_bool : FnR P w K mg base CX0 1 f4 (spTruth d.lay)) (C_call : StX.CallO K d.lay f5) (R_call : FnR P w K mg base CX0 1 f5 (spValue d.lay)) : FnG P w K mg base CX0 (k + 4) f fd ["layout", "factors", "points"] (spRight d.lay) := by
  refine go_nox F sc_law_right (fun vs H Q E h => ?_) (fun cdv A outer s H vs Q E hr quiet h => ?_)
  · obtain ⟨a, ns, b, p, ps, rfl, _⟩ := h
    rfl
  · obtain ⟨a, ns, b, p, ps, rfl, hl, hb, hp, nb, pb, q⟩ := h
    refine ⟨_, (pss_cons (ps_if (PW.pt (pw_or (pt_not (pt_val (pe_callB call_isi (by rfl) T.n_isinstance (by decide +kernel) (pa_cons (pe_fld (pv 0) rfl) (pa_cons (pe_bltn (v := .ty "tuple") (by rfl) T.n_tuple (by decide +kernel) rfl) pa_nil))))) (pw_or (pt_cmpR (op_neD hr.units) (pe_fld (pv 0) rfl) (pe_callTy call_tuple_of (by rfl) T.n_tuple (by decide +kernel) (pa_cons (pv 1) pa_nil)) (nomark _)) (pw_or1 (pt_cmpR op_ne (pe_fld (pv 0) rfl) (pe_op op_sub (pe_callB call_len_seq (by rfl) T.n_len (by decide +kernel) (pa_cons (pv 1) pa_nil)) pe_int) (nomark _))))))
   (pss_one (ps_ret pe_bl))
   pss_nil)
  (pss_cons (ps_if (PW.pt (pw_or (pt_cmpR op_ne (pe_prop (pv 0) D.lay P_total G_total (hr.mono (by omega)) b_total .nil pass0 rfl) (pe_callB (cr_sum (by rfl)) (by rfl) T.n_sum (by decide +kernel) (pa_cons (pv 1) pa_nil)) (nomark _)) (pw_or1 (pt_cmpR op_ne (pe_callB (call_reprE quiet hr.units) (by rfl) T.n_repr (by decide +kernel) (pa_cons (pe_prop (pv 0) D.lay P_constant G_constant (hr.mono (by omega)) b_constant .nil pass0 rfl) pa_nil)) (pe_callB (call_reprE quiet hr.units) (by rfl) T.n_repr (by decide +kernel) (pa_cons (pe_cmpR op_lt (pe_callB call_len_seq (by rfl) T.n_len (by decide +kernel) (pa_cons (pv 1) pa_nil)) pe_int (nomark _)) pa_nil)) (nomark _)))))
   (pss_one (ps_ret pe_bl))
   pss_nil)
  (pss_cons (ps_if (pt_cmpR op_ne (pe_callTy (call_boolO M_bool R_bool (hr.mono (by omega)) pass0) (by rfl) T.n_bool (by decide +kernel) (pa_cons (pv 0) pa_nil)) (pe_cmpR (op_neD hr.units) (pv 1) (pe_lst pa_nil) (nomark _)) (nomark _))
   (pss_one (ps_ret pe_bl))
   pss_nil)
  (pss_cons (ps_if (pt_cmpR op_ne (pe_callB (call_lenO M_len R_len (hr.mono (by omega)) pass0) (by rfl) T.n_len (by decide +kernel) (pa_cons (pv 0) pa_nil)) (pe_callB call_len_seq (by rfl) T.n_len (by decide +kernel) (pa_cons (pe_lc (own := [("factor", 3)]) (g := gName 3) rfl sc_law_right.nd (pi_list (pv 1)) (blkOk_by (own := [("factor", 3)]) (N := ["layout", "factors", "points", "factor", "spot", "due", "point", "total", "unit"]) (sc := defScope s_law_right) (by decide +kernel)) (fun _ _ _ _ _ => (pg_name (i := 3) sc_law_right.nd rfl (.inl rfl))) (fun _ _ _ _ _ => (pts_one (pt_cmpR op_ne (pv 3) pe_int (nomark _)))) (fun _ _ _ _ _ => (pv 3))) pa_nil)) (nomark _))
   (pss_one (ps_ret pe_bl))
   pss_nil)
  (pss_cons (ps_for PassesOwn.never rfl (pi_range2 (by rfl) T.n_range (pa_cons (pe_op op_sub pe_int pe_int) (pa_cons (pe_op op_add (pe_callB call_len_seq (by rfl) T.n_len (by decide +kernel) (pa_cons (pv 1) pa_nil)) pe_int) pa_nil))) (pg_name (i := 4) sc_law_right.nd rfl (.inl rfl))
   (pss_cons (ps_set (i := 5) sc_law_right.nd rfl (.inl rfl) (pe_ifExp (pt_chain op_le op_lt pe_int (pv 4) (pe_callB call_len_seq (by rfl) T.n_len (by decide +kernel) (pa_cons (pv 1) pa_nil))) (pe_ix ix_list (pv 1) (pv 4) (fun _ _ => rfl)) pe_int))
  (pss_one (ps_if (PW.pt (pw_or (pt_cmpR op_ne (pe_callB (call_reprE quiet hr.units) (by rfl) T.n_repr (by decide +kernel) (pa_cons (pe_ixO M_getitem R_getitem (hr.mono (by omega)) pass0 (pv 0) (pv 4) (fun _ _ => rfl)) pa_nil)) (pe_callB (call_reprE quiet hr.units) (by rfl) T.n_repr (by decide +kernel) (pa_cons (pv 5) pa_nil)) (nomark _)) (pw_or1 (pt_cmpR op_ne (pe_cmpR (op_inO M_contains R_contains (hr.mono (by omega)) pass0) (pv 4) (pv 0) rfl) (pe_cmpR op_ne (pv 5) pe_int (nomark _)) (nomark _)))))
   (pss_one (ps_ret pe_bl))
   pss_nil))))
  (pss_cons (ps_for PassesOwn.never rfl (pi_list (pv 2)) (pg_name (i := 6) sc_law_right.nd rfl (.inl rfl))
   (pss_cons (ps_asg (pe_tup (pa_cons pe_int (pa_cons pe_int pa_nil))) (pg_tup rfl (pgs_cons (pg_name (i := 7) sc_law_right.nd rfl (.inl rfl)) (pgs_cons (pg_name (i := 8) sc_law_right.nd rfl (.inl rfl)) pgs_nil))))
  (pss_cons (ps_for PassesOwn.never rfl (pi_list (pv 1)) (pg_name (i := 3) sc_law_right.nd rfl (.inl rfl))
   (pss_one (ps_par (i := 7) (j := 8) (by rfl) sc_law_right.nd rfl rfl (by decide) rfl rfl (pa_cons (pe_op op_add (pv 7) (pe_op op_mul (pv 3) (pv 8))) (pa_cons (pe_op op_mul (pv 8) (pv 6)) pa_nil)) (by rfl))))
  (pss_one (ps_if (pt_cmpR op_ne (StX.pe_callO (pv 0) C_call R_call (hr.mono (by omega)) pass0 (pa_cons (pv 6) pa_nil)) (pv 7) (nomark _))
   (pss_one (ps_ret pe_bl))
   pss_nil)))))
  (pss_one (ps_ret pe_bl)))))))), ?_⟩
    clear G_total G_constant R_getitem R_contains R_len R_bool R_call
    have hl0 := hl
    obtain ⟨dx, r, ha, hr', h3, h4⟩ := hl0
    -- isinstance(layout.factors, tuple), layout.factors != tuple(factors)
    refine ⟨_, rfl, a, d.lay, dx, _, .ref r, rfl, ha, D.lay, D.naF, rfl, _, _, _, _, true, rfl, .ty "tuple", ty_rd hr', kit_ty (by decide +kernel), _, rfl, ?_⟩
    refine iteF ?_
    refine ⟨_, rfl, a, d.lay, dx, _, .ref r, rfl, ha, D.lay, D.naF, rfl, _, rfl, b, _, rfl, .inl ⟨.inl (.inl hb), fun t nt => ?_⟩⟩
    have s1 := same_upd (o := .tup (ns.map V.int)) nt
    have e1 : (upd H t (.tup (ns.map V.int))) t = some (.tup (ns.map V.int)) := upd_same
    generalize upd H t (.tup (ns.map V.int)) = H1 at s1 e1 ⊢
    refine ⟨_, _, .tup (.inl (rd_same hr' s1)) (dp_ints ns), .tup (.inl (.inl e1)) (dp_ints ns), shT_ints ns, shT_ints ns, _, rfl, ?_⟩
    rw [eqvT_ints]
    refine iteF ?_
    have hb1 := s1 _ _ hb
    have ha1 := s1 _ _ ha
    have l1 := hl.same s1
    refine ⟨_, rfl, a, d.lay, dx, _, _, rfl, ha1, D.lay, D.naD, rfl, _, rfl, b, _, rfl, .inl (.inl (.inl hb1)), _, _, rfl, rfl, rfl, false, ?_, ?_⟩
    · rw [List.length_map]
      exact ne_self _
    refine iteF ?_
    -- total, constant
    refine ⟨_, rfl, a, dx, _, rfl, ha1, ⟨⟨a, ns, rfl, l1, ?_⟩⟩⟩
    refine ⟨_, rfl, b, ns, rfl, .inl (.inl hb1), rfl, false, ne_self _, ?_⟩
    refine iteF ?_
    refine ⟨_, rfl, a, dx, _, rfl, ha1, ⟨⟨a, ns, rfl, l1, ?_⟩⟩⟩
    refine rp_bl ?_
    refine ⟨_, rfl, b, _, rfl, .inl (.inl (.inl hb1)), _, _, rfl, rfl, ?_⟩
    refine rp_bl ?_
    rw [show decide (((ns.map V.int).length : Int) < 2) = decide (ns.length < 2) from decide_eq_decide.mpr (by rw [List.length_map]; omega)]
    refine ⟨rfl, false, ne_self _, ?_⟩
    refine iteF ?_
    -- bool(layout) != (factors != [])
    refine ⟨_, rfl, _, rfl, a, dx, _, rfl, ha1, ⟨⟨a, ns, rfl, l1, _, rfl, ?_⟩⟩⟩
    refine ⟨_, rfl, by show 0 ≤ sizeLine; decide, fun o2 no2 => ?_⟩
    have s2 := same_upd (o := .lst []) no2
    have eo2 : (upd H1 o2 (.lst [])) o2 = some (.lst []) := upd_same
    generalize upd H1 o2 (.lst []) = H2 at s2 eo2 ⊢
    have hb2 := s2 _ _ hb1
    refine ⟨_, _, .lst (.inl (.inl hb2)) (dp_ints ns), .lst (.inl (.inl eo2)) .nil, sh_ints ns, sh_nil, ?_⟩
    rw [eqv_nil, show decide (ns.map PyData.int = []) = ns.isEmpty by cases ns <;> rfl]
    refine ⟨rfl, false, ne_self _, ?_⟩
    refine iteF ?_
    -- len
    have ha2 := s2 _ _ ha1
    have l2 := l1.same s2
    refine ⟨_, rfl, a, dx, _, rfl, ha2, ⟨⟨a, ns, rfl, l2, fun H3 s3 => ?_⟩⟩⟩
    have lf := List.length_filter_le (fun n : Int => !decide (n = 0)) ns
    refine ⟨_, rfl, by omega, by omega, ?_⟩
    have hb3 := s3 _ _ hb2
    refine ⟨_, rfl, b, rfl, ⟨_, .inl (.inl hb3)⟩, fun L nL => ?_⟩
    refine lc_it (walk_list (xs := ns.map V.int)) (fun i H5 => Same H3 H5 ∧ H5 L = some (.lst (((ns.take i).filter fun n => !decide (n = 0)).map V.int))) ⟨same_upd nL, upd_same⟩ (fun i H5 _ h => .inl (.inl (h.1 _ _ hb3))) ?_ ?_
    · rintro i z H5 H6 hi ⟨s5, hL⟩ ⟨rfl, ez⟩
      rw [List.length_map] at hi
      rw [List.getElem?_map, List.getElem?_eq_getElem hi] at ez
      obtain rfl : V.int ns[i] = z := Option.some.inj ez
      have tk : (ns.take (i + 1)).filter (fun n => !decide (n = 0)) = (ns.take i).filter (fun n => !decide (n = 0)) ++ [ns[i]].filter (fun n => !decide (n = 0)) := by
        rw [List.take_add_one, List.getElem?_eq_getElem hi, List.filter_append]
        rfl
      refine ⟨rfl, ?_⟩
      refine ⟨_, rfl, rfl, _, bl_int, ?_⟩
      cases e : decide (ns[i] = 0) with
      | true =>
        refine iteF ⟨s5, ?_⟩
        rw [tk, hL, List.filter_cons_of_neg (by rw [e]; simp)]
        simp
      | false =>
        refine iteT ?_
        refine ⟨_, rfl, _, hL, small1000 ?_, same_at s5 nL, ?_⟩
        · rw [List.length_map]
          exact Nat.le_trans (List.length_filter_le _ _) (by rw [List.length_take]; omega)
        · rw [upd_same, tk, List.filter_cons_of_pos (by rw [e]; rfl), List.map_append]
          rfl
    rintro H4 ⟨s4, hL⟩
    rw [List.length_map, List.take_length] at hL
    refine ⟨L, _, rfl, .inl (.inl (.inl hL)), rfl, false, ?_, ?_⟩
    · rw [List.length_map]
      exact ne_self _
    refine iteF ?_
    have sH4 := ((s1.trans s2).trans s3).trans s4
    clear hL s4 hb3 s3 lf l2 ha2 eo2 hb2 s2 ha1 l1 hb1 e1 s1
    -- for spot in range(..)
    have hb4 := sH4 _ _ hb
    refine ⟨_, _, rfl, rfl, _, rfl, b, _, rfl, .inl (.inl (.inl hb4)), _, _, rfl, rfl, ?_⟩
    refine ⟨_, _, rfl, ⟨by decide, by decide, by rw [List.length_map]; omega, by rw [List.length_map]; omega⟩, for_range (fun i σ H5 => Same H H5 ∧ ∃ v4 v5, σ = [some (.ref a), some (.ref b), some (.ref p), none, v4, v5, none, none, none]) ⟨sH4, none, none, rfl⟩ ?_ ?_⟩
    · rintro i σ H5 hi ⟨s5, v4, v5, rfl⟩
      have ha5 := s5 _ _ ha
      have hb5 := s5 _ _ hb
      have l5 := hl.same s5
      generalize (0 : Int) - 3 + (i : Nat) = z
      have gb : (getI ns z).natAbs < 10 ^ 50 := Nat.lt_trans (getI_bound nb (by decide) z) (by decide)
      refine ⟨_, rfl, _, _, rfl, rfl, _, rfl, ?_⟩
      by_cases z0 : 0 ≤ z
      · rw [decide_eq_true z0]
        refine iteT ?_
        refine ⟨_, rfl, b, _, rfl, .inl (.inl (.inl hb5)), _, _, rfl, rfl, _, rfl, ?_⟩
        rw [List.length_map]
        by_cases z1 : z < (ns.length : Int)
        · rw [decide_eq_true z1]
          refine iteT ?_
          obtain ⟨j, rfl⟩ : ∃ j : Nat, z = (j : Int) := ⟨z.toNat, by omega⟩
          have hj : j < ns.length := by omega
          refine ⟨_, rfl, _, rfl, b, _, _, V.int ns[j], rfl, rfl, .inl (.inl hb5), atI_nat (by rw [List.getElem?_map, List.getElem?_eq_getElem hj]; rfl), ?_⟩
          have e : ns[j] = getI ns (j : Int) := by
            unfold getI
            rw [if_pos ⟨by omega, by omega⟩, Int.toNat_natCast, List.getD_eq_getElem?_getD, List.getElem?_eq_getElem hj]
            rfl
          rw [e]
          refine ⟨_, rfl, _, rfl, a, dx, _, rfl, ha5, ⟨⟨a, ns, _, rfl, l5, ?_⟩⟩⟩
          refine rp_int gb ?_
          refine ⟨_, rfl, rp_int gb ?_⟩
          refine ⟨rfl, false, ne_self _, ?_⟩
          refine iteF ?_
          refine ⟨_, rfl, _, rfl, a, dx, _, rfl, ha5, ⟨⟨a, ns, _, rfl, l5, _, rfl, ?_⟩⟩⟩
          refine ⟨_, rfl, rfl, ?_⟩
          rw [bl_int]
          refine ⟨rfl, false, ne_self _, ?_⟩
          refine iteF ?_
          exact ⟨s5, _, _, rfl⟩
        · rw [decide_eq_false z1]
          refine iteF ?_
          have e : getI ns z = 0 := if_neg (by omega)
          refine ⟨_, rfl, _, rfl, a, dx, _, rfl, ha5, ⟨⟨a, ns, _, rfl, l5, ?_⟩⟩⟩
          refine rp_int gb ?_
          refine ⟨_, rfl, rp_int (by decide) ?_⟩
          rw [e]
          refine ⟨rfl, false, ne_self _, ?_⟩
          refine iteF ?_
          refine ⟨_, rfl, _, rfl, a, dx, _, rfl, ha5, ⟨⟨a, ns, _, rfl, l5, _, rfl, ?_⟩⟩⟩
          refine ⟨_, rfl, rfl, ?_⟩
          rw [bl_int]
          rw [e]
          refine ⟨rfl, false, ne_self _, ?_⟩
          refine iteF ?_
          exact ⟨s5, _, _, rfl⟩
      · rw [decide_eq_false z0]
        refine iteF ?_
        refine ⟨_, rfl, iteF ?_⟩
        have e : getI ns z = 0 := if_neg (by omega)
        refine ⟨_, rfl, _, rfl, a, dx, _, rfl, ha5, ⟨⟨a, ns, _, rfl, l5, ?_⟩⟩⟩
        refine rp_int gb ?_
        refine ⟨_, rfl, rp_int (by decide) ?_⟩
        rw [e]
        refine ⟨rfl, false, ne_self _, ?_⟩
        refine iteF ?_
        refine ⟨_, rfl, _, rfl, a, dx, _, rfl, ha5, ⟨⟨a, ns, _, rfl, l5, _, rfl, ?_⟩⟩⟩
        refine ⟨_, rfl, rfl, ?_⟩
        rw [bl_int]
        rw [e]
        refine ⟨rfl, false, ne_self _, ?_⟩
        refine iteF ?_
        exact ⟨s5, _, _, rfl⟩
    rintro σ H5 ⟨s5, v4, v5, rfl⟩
    -- for point in points
    have hp5 := s5 _ _ hp
    refine ⟨_, rfl, p, rfl, ⟨_, .inl (.inl hp5)⟩, for_it (walk_list (xs := ps.map V.int)) (fun i σ H6 => Same H H6 ∧ ∃ v3 v6 v7 v8, σ = [some (.ref a), some (.ref b), some (.ref p), v3, v4, v5, v6, v7, v8]) ⟨s5, none, none, none, none, rfl⟩ (fun i σ H6 _ h => .inl (.inl (h.1 _ _ hp))) ?_ ?_⟩
    · rintro i x σ H6 H7 hi ⟨s6, v3, v6, v7, v8, rfl⟩ ⟨rfl, ez⟩
      rw [List.length_map] at hi
      rw [List.getElem?_map, List.getElem?_eq_getElem hi] at ez
      obtain rfl : V.int ps[i] = x := Option.some.inj ez
      have pp := pb _ (List.getElem_mem hi)
      generalize ps[i] = pt at pp ⊢
      refine ⟨by show 2 ≤ sizeLine; decide, fun p8 np8 => ⟨p8, _, rfl, .inl (.inl upd_same), rfl, _, _, rfl, _, _, rfl, rfl, ?_⟩⟩
      have s8 := s6.trans (same_upd (o := .tup [V.int 0, V.int 1]) np8)
      generalize upd H7 p8 (.tup [V.int 0, V.int 1]) = H8 at s8 ⊢
      have hb8 := s8 _ _ hb
      refine ⟨_, rfl, b, rfl, ⟨_, .inl (.inl hb8)⟩, for_it (walk_list (xs := ns.map V.int)) (fun i σ H9 => Same H H9 ∧ ∃ (u3 : Option V) (tot un : Int), σ = [some (.ref a), some (.ref b), some (.ref p), u3, v4, v5, some (.int pt), some (.int tot), some (.int un)] ∧ tot + un * (ns.drop i).foldr (fun f v => v * pt + f) 0 = ns.foldr (fun f v => v * pt + f) 0) ⟨s8, v3, 0, 1, rfl, by rw [List.drop_zero]; omega⟩ (fun i σ H9 _ h => .inl (.inl (h.1 _ _ hb))) ?_ ?_⟩
      · rintro i x σ H9 H10 hi ⟨s9, u3, tot, un, rfl, inv⟩ ⟨rfl, ez⟩
        rw [List.length_map] at hi
        rw [List.getElem?_map, List.getElem?_eq_getElem hi] at ez
        obtain rfl : V.int ns[i] = x := Option.some.inj ez
        have fb := nb _ (List.getElem_mem hi)
        rw [List.drop_eq_getElem_cons hi, List.foldr_cons] at inv
        generalize ns[i] = fc at fb inv ⊢
        refine ⟨_, rfl, _, rfl, _, rfl, _, _, rfl, rfl, .inl ⟨by omega, by omega⟩, _, _, rfl, rfl, _, rfl, _, rfl, _, _, rfl, rfl, .inr ⟨by omega, by omega⟩, _, _, rfl, ?_⟩
        refine ⟨s9, _, _, _, rfl, ?_⟩
        rw [← inv]
        generalize List.foldr (fun f v => v * pt + f) 0 (List.drop (i + 1) ns) = hh
        rw [Int.mul_add, Int.add_assoc, Int.mul_comm fc un, Int.mul_assoc un pt hh, Int.mul_comm pt hh]
        omega
      · rintro σ H9 ⟨s9, u3, tot, un, rfl, inv⟩
        rw [List.length_map, List.drop_length, List.foldr_nil, Int.mul_zero, Int.add_zero, ← horn_r] at inv
        have ha9 := s9 _ _ ha
        refine ⟨_, rfl, a, rfl, _, rfl, .inr ⟨dx, _, ha9⟩, ⟨⟨a, ns, pt, rfl, hl.same s9, pp.1, pp.2, fun H' s' => ?_⟩⟩⟩
        refine ⟨_, rfl, rfl, false, ?_, ?_⟩
        · rw [inv]
          exact ne_self _
        refine iteF ?_
        exact ⟨s9.trans s', _, _, _, _, rfl⟩
    · rintro σ H6 ⟨s6, v3, v6, v7, v8, rfl⟩
      exact q _ s6
end
end My

namespace My
open PySem PySem.Spec PyProof.Rows L2
abbrev s_law_some_factors : Stmt := topS 26
theorem sc_law_some_factors : FnScope ["pot", "many", "most", "found", "turn"] ["pot", "many", "most"] (defScope s_law_some_factors) := ⟨rfl, rfl, rfl, by decide +kernel, rfl, by decide +kernel, by decide +kernel⟩
structure TxtM (mg : Str → Option Value) : Prop where
  n_range : mg "range" = none
/-- a list of drawn factors -/
structure spSome (vs : List V) (H : Hp) (Q : VK) (E : XK) : Prop where
  ex : ∃ (p c : Addr) (many : Nat) (most : Int), vs = [.ref p, .int (many : Nat), .int most] ∧ Pot H p c ∧ many ≤ 100 ∧ 2 ≤ most ∧ most ≤ 1000000000 ∧ ∀ (l : Addr) (ns : List Int) (H' : Hp), H l = none → Pot H' p c → But p H H' → H' l = some (.lst (ns.map V.int)) → ns.length ≤ many → (∀ n ∈ ns, 0 ≤ n ∧ n ≤ most) → Q (.ref l) H'
section
variable {P : Program} {w : World} {K : PySem.W.Frag} {mg : Str → Option Value} {base : Heap}
theorem ok_some_factors {f fb fp : Addr} {fd fdb fdp : FuncData} {k : Nat} (F : Fun K "_law_some_factors" "_law_some_factors" s_law_some_factors f fd) (T : TxtM mg) (F__law_below : Fun K "_law_below" "_law_below" s_law_below fb fdb) (b__law_below : Binds K fdb ["pot", "bound"] []) (g__law_below : mg "_law_below" = some (.ref fb))
    (G__law_below : FnOk P w K mg base CX0 2 fb fdb ["pot", "bound"] spBelow) (F__law_pick : Fun K "_law_pick" "_law_pick" s_law_pick fp fdp) (b__law_pick : Binds K fdp ["pot", "items"] []) (g__law_pick : mg "_law_pick" = some (.ref fp))
    (G__law_pick : FnOk P w K mg base CX0 3 fp fdp ["pot", "items"] (spPick K)) : FnOk P w K mg base CX0 (k + 4) f fd ["pot", "many", "most"] spSome := by
  refine F.ok sc_law_some_factors (fun vs H Q E h => ?_) (fun cdv A outer s H vs Q E hr h => ?_)
  · obtain ⟨p, c, many, most, rfl, _⟩ := h
    rfl
  · obtain ⟨p, c, many, most, rfl, hP, m100, mo2, mo9, q⟩ := h
    refine ⟨_, (pss_cons (ps_set (i := 3) sc_law_some_factors.nd rfl (.inl rfl) (pe_lst pa_nil))
  (pss_cons (ps_for PassesOwn.never rfl (pi_range1 (by rfl) T.n_range (pa_cons (pe_call G__law_below (hr.mono (by omega)) (by rfl) g__law_below F__law_below.kp b__law_below .nil pass0 (pa_cons (pv 0) (pa_cons (pe_op op_add (pv 1) pe_int) pa_nil))) pa_nil)) (pg_name (i := 4) sc_law_some_factors.nd rfl (.inl rfl))
   (pss_one (ps_expr (pe_bm PySem.F.plainAttrs_list PySem.F.slot_list_append PySem.F.type_list_append mt_append (pv 3) (pa_cons (pe_call G__law_pick (hr.mono (by omega)) (by rfl) g__law_pick F__law_pick.kp b__law_pick .nil pass0 (pa_cons (pv 0) (pa_cons (pe_lst (pa_cons pe_int (pa_cons pe_int (pa_cons pe_int (pa_cons pe_int (pa_cons pe_int (pa_cons (pe_call G__law_below (hr.mono (by omega)) (by rfl) g__law_below F__law_below.kp b__law_below .nil pass0 (pa_cons (pv 0) (pa_cons (pe_op op_add (pv 2) pe_int) pa_nil))) pa_nil))))))) pa_nil))) pa_nil)))))
  (pss_one (ps_ret (pv 3))))), ?_⟩
    clear G__law_below G__law_pick
    refine ⟨by show 0 ≤ sizeLine; decide, fun l nl => ?_⟩
    have s1 := same_upd (o := .lst []) nl
    have hl1 : (upd H l (.lst [])) l = some (.lst []) := upd_same
    have hP1 := hP.same s1
    obtain ⟨ns0, p0, am0, sz0, hp0, hc0, hl0⟩ := id hP
    have npl : p ≠ l := ne_of_none hp0 nl
    have ncl : c ≠ l := ne_of_none hc0 nl
    have b1 : But p H (upd H l (.lst [])) := But.of (s1 _ _ hp0) s1
    generalize upd H l (.lst []) = H1 at s1 hl1 hP1 b1 ⊢
    refine ⟨_, rfl, _, rfl, _, _, rfl, rfl, p, c, _, rfl, hP1, by omega, by omega, fun v H2 v0 v1 hP2 b2 => ?_⟩
    obtain ⟨n, rfl⟩ : ∃ n : Nat, v = (n : Int) := ⟨v.toNat, by omega⟩
    have hn : n ≤ many := by omega
    refine ⟨_, rfl, by omega, by omega, ?_⟩
    refine for_range (n := n) (fun j σ H3 => Pot H3 p c ∧ But p H H3 ∧ (∃ ns : List Int, H3 l = some (.lst (ns.map V.int)) ∧ ns.length ≤ j ∧ ∀ z ∈ ns, 0 ≤ z ∧ z ≤ most) ∧ ∃ w4, σ = [some (.ref p), some (.int (many : Nat)), some (.int most), some (.ref l), w4])
      ⟨hP2, b1.trans b2, ⟨[], b2.1 _ _ hl1 (Ne.symm npl), Nat.le_refl _, fun _ z => nomatch z⟩, none, rfl⟩ ?_ ?_
    · rintro j σ H3 hj ⟨hP3, b3, ⟨ns, hl3, ln, hns⟩, w4, rfl⟩
      refine ⟨_, rfl, .inl ⟨rfl, _, .inl (.inl hl3)⟩, _, rfl, _, rfl, _, rfl, _, _, rfl, rfl, p, c, _, rfl, hP3, by omega, by omega, fun y H4 y0 y1 hP4 b4 => ?_⟩
      have hl4 := b4.1 _ _ hl3 (Ne.symm npl)
      refine ⟨by show 6 ≤ sizeLine; decide, fun L nL => ?_⟩
      have sL := same_upd (o := .lst [.int 0, .int 0, .int 1, .int 1, .int 2, .int y]) nL
      have hL : (upd H4 L (.lst [.int 0, .int 0, .int 1, .int 1, .int 2, .int y])) L = some (.lst [.int 0, .int 0, .int 1, .int 1, .int 2, .int y]) := upd_same
      have hP5 := hP4.same sL
      have b5 : But p H (upd H4 L (.lst [.int 0, .int 0, .int 1, .int 1, .int 2, .int y])) := (b3.trans b4).same sL
      have hl5 := sL _ _ hl4
      have npL : p ≠ L := by
        obtain ⟨ns4, p4, am4, sz4, hp4, _, _⟩ := id hP4
        exact ne_of_none hp4 nL
      generalize upd H4 L (.lst [.int 0, .int 0, .int 1, .int 1, .int 2, .int y]) = H5 at sL hL hP5 b5 hl5 ⊢
      refine ⟨p, c, L, _, rfl, hP5, .inl (.inl hL), (fun z => nomatch z), by show 6 < 1073741824; decide, fun H' hb => .inl (.inl (hb.1 _ _ hL (Ne.symm npL))), fun x H6 hx hP6 b6 => ?_⟩
      have hl6 := b6.1 _ _ hl5 (Ne.symm npl)
      have b7 := b5.trans b6
      obtain ⟨xi, rfl, x0, x1⟩ : ∃ xi : Int, x = .int xi ∧ 0 ≤ xi ∧ xi ≤ most := by
        simp only [List.mem_cons, List.not_mem_nil, or_false] at hx
        rcases hx with rfl | rfl | rfl | rfl | rfl | rfl <;> exact ⟨_, rfl, by omega, by omega⟩
      have npl6 : p ≠ l ∧ c ≠ l := ⟨npl, ncl⟩
      refine ⟨l, _, _, rfl, rfl, hl6, ?_, ?_, ?_, ⟨ns ++ [xi], ?_, ?_, ?_⟩, _, rfl⟩
      · rw [List.length_map]
        exact small1000 (by omega)
      · obtain ⟨ns6, p6, am6, sz6, hp6, hc6, hl7⟩ := hP6
        exact ⟨ns6, p6, am6, sz6, by rw [upd_ne npl]; exact hp6, by rw [upd_ne ncl]; exact hc6, hl7⟩
      · refine ⟨fun b o e nb => ?_, ?_⟩
        · rw [upd_ne (ne_of_none e nl)]
          exact b7.1 b o e nb
        · rw [upd_ne npl]
          exact b7.2
      · rw [upd_same, List.map_append]
        rfl
      · rw [List.length_append, List.length_singleton]
        omega
      · intro z hz
        rcases List.mem_append.mp hz with hz | hz
        · exact hns z hz
        · rw [List.mem_singleton.mp hz]
          exact ⟨x0, x1⟩
    · rintro σ H3 ⟨hP3, b3, ⟨ns, hl3, ln, hns⟩, w4, rfl⟩
      exact ⟨_, rfl, q l ns H3 nl hP3 b3 hl3 (by omega) hns⟩
end
end My

namespace My
open PySem PySem.Spec PyProof.Rows L2
/-! ### an expression, then what follows, with a word between them -/
def tCutE (te : TE) : TE := fun σ H Q => ∃ M : VK, te σ H M ∧ ∀ v H', M v H' → Q v H'
theorem pe_cut {X : Cx} {e : Expr} {te : TE} (h : PE X e te) : PE X e (tCutE te) := ⟨fun pins s σ H Q I ⟨M, hm, hq⟩ => thn (h.run pins s σ H M I hm) fun v s' ⟨x, H', I', r, m⟩ => ⟨x, H', I', r, hq x H' m⟩⟩
/-! ### trimmed lists -/
theorem lastN_zero {as : List Int} : ∀ {m k : Nat}, lastN as m ≤ k → k < m → as[k]? = some 0
  | 0, k, _, h => absurd h (Nat.not_lt_zero _)
  | m + 1, k, h1, h2 => by
    by_cases z : as[m]? = some 0
    · rw [last_go z] at h1
      by_cases e : k = m
      · rw [e]
        exact z
      · exact lastN_zero h1 (by omega)
    · rw [last_stay z] at h1
      omega
theorem getD_trim (as : List Int) (k : Nat) : (trimN as).getD k 0 = as.getD k 0 := by
  unfold trimN
  rw [List.getD_eq_getElem?_getD, List.getD_eq_getElem?_getD]
  by_cases h : k < lastN as as.length
  · rw [List.getElem?_take_of_lt h]
  · rw [List.getElem?_take_eq_none (by omega)]
    by_cases h2 : k < as.length
    · rw [lastN_zero (by omega) h2]
      rfl
    · rw [List.getElem?_eq_none (by omega)]
theorem trim_full {as : List Int} (h : trimN as = as) : lastN as as.length = as.length := by
  have z := congrArg List.length h
  unfold trimN at z
  rw [List.length_take] at z
  have y := lastN_le as as.length
  omega
theorem trim_le {as bs : List Int} (hb : trimN bs = bs) (e : ∀ k, as.getD k 0 = bs.getD k 0) : bs.length ≤ as.length := by
  rcases Nat.lt_or_ge as.length bs.length with lt | ge
  · have full := trim_full hb
    have nz : bs[lastN bs bs.length - 1]? ≠ some 0 := fun z => by
      have y := lastN_last bs bs.length z
      omega
    rw [full] at nz
    have ek := e (bs.length - 1)
    rw [List.getD_eq_getElem?_getD, List.getD_eq_getElem?_getD, List.getElem?_eq_none (by omega), List.getElem?_eq_getElem (by omega)] at ek
    rw [List.getElem?_eq_getElem (by omega)] at nz
    exact absurd (congrArg some ek.symm) nz
  · exact ge
theorem trim_same {as bs : List Int} (ha : trimN as = as) (hb : trimN bs = bs) (e : ∀ k, as.getD k 0 = bs.getD k 0) : as = bs := by
  have l1 := trim_le hb e
  have l2 := trim_le ha fun k => (e k).symm
  refine List.ext_getElem (by omega) fun k h1 h2 => ?_
  have ek := e k
  rw [List.getD_eq_getElem?_getD, List.getD_eq_getElem?_getD, List.getElem?_eq_getElem h1, List.getElem?_eq_getElem h2] at ek
  exact ek
theorem trim_ext {as bs : List Int} (e : ∀ k, as.getD k 0 = bs.getD k 0) : trimN as = trimN bs := trim_same (trim_trim as) (trim_trim bs) fun k => by rw [getD_trim, getD_trim, e k]
theorem getD_addL (as bs : List Int) (k : Nat) : (addL as bs).getD k 0 = as.getD k 0 + bs.getD k 0 := by
  unfold addL
  rw [List.getD_eq_getElem?_getD, List.getElem?_map]
  by_cases h : k < max as.length bs.length
  · rw [List.getElem?_range h]
    rfl
  · rw [List.getElem?_eq_none (by rw [List.length_range]; omega), List.getD_eq_getElem?_getD, List.getD_eq_getElem?_getD, List.getElem?_eq_none (by omega), List.getElem?_eq_none (by omega)]
    rfl
theorem trim_ones (k : Nat) : trimN (List.replicate k (0 : Int) ++ [1]) = List.replicate k 0 ++ [1] := by
  unfold trimN
  have len : (List.replicate k (0 : Int) ++ [1]).length = k + 1 := by simp
  have st : (List.replicate k (0 : Int) ++ [1])[k]? ≠ some 0 := by
    rw [List.getElem?_append_right (by simp), List.length_replicate, Nat.sub_self]
    simp
  rw [len, last_stay st, ← len, List.take_length]
theorem trim_one (n : Int) : trimN [n] = if n = 0 then [] else [n] := by
  unfold trimN
  show List.take (lastN [n] 1) [n] = _
  by_cases h : n = 0
  · rw [if_pos h, last_go (by rw [h]; rfl)]
    rfl
  · rw [if_neg h, last_stay (by intro z; exact h (Option.some.inj z))]
    rfl
/-- the law's own sum -/
def bothL (due other : List Int) (m : Nat) : List Int := (List.range m).map fun s => due.getD s 0 + 2 * other.getD s 0
theorem getD_both {due other : List Int} {m : Nat} (h1 : due.length ≤ m) (h2 : other.length ≤ m) (k : Nat) : (bothL due other m).getD k 0 = due.getD k 0 + 2 * other.getD k 0 := by
  unfold bothL
  rw [List.getD_eq_getElem?_getD, List.getElem?_map]
  by_cases h : k < m
  · rw [List.getElem?_range h]
    rfl
  · rw [List.getElem?_eq_none (by rw [List.length_range]; omega), List.getD_eq_getElem?_getD, List.getD_eq_getElem?_getD, List.getElem?_eq_none (by omega), List.getElem?_eq_none (by omega)]
    rfl
theorem join_both {due other : List Int} {m : Nat} (h1 : due.length ≤ m) (h2 : other.length ≤ m) : joinL [trimN other, due, trimN other] = trimN (bothL due other m) := by
  simp only [joinL, List.foldl_cons, List.foldl_nil]
  refine trim_ext fun k => ?_
  rw [getD_addL, getD_trim, getD_addL, getD_trim, getD_addL, getD_trim, getD_both h1 h2, List.getD_nil]
  omega
theorem join_one {due : List Int} (h : trimN due = due) : joinL [due] = due := by
  simp only [joinL, List.foldl_nil]
  rw [trim_ext (bs := due) (fun k => by rw [getD_addL, List.getD_nil]; omega), h]
theorem mem_trim {as : List Int} {n : Int} (h : n ∈ trimN as) : n ∈ as := List.mem_of_mem_take h
theorem getD_bound {as : List Int} {m : Int} (hm : 0 ≤ m) (h : ∀ n ∈ as, 0 ≤ n ∧ n ≤ m) (k : Nat) : 0 ≤ as.getD k 0 ∧ as.getD k 0 ≤ m := by
  rw [List.getD_eq_getElem?_getD]
  by_cases hk : k < as.length
  · rw [List.getElem?_eq_getElem hk]
    exact h _ (List.getElem_mem hk)
  · rw [List.getElem?_eq_none (by omega)]
    exact ⟨Int.le_refl _, hm⟩
theorem abs_small {x y : Int} (h1 : 0 ≤ x ∧ x ≤ 1000000000) (h2 : 0 ≤ y ∧ y ≤ 5) : (x + 2 * y).natAbs < 10 ^ 18 := by
  have e : (x + 2 * y).natAbs ≤ 1000000010 := by omega
  exact Nat.lt_of_le_of_lt e (by decide)
theorem both_bound {due other : List Int} {m : Nat} (h1 : ∀ n ∈ due, 0 ≤ n ∧ n ≤ 1000000000) (h2 : ∀ n ∈ other, 0 ≤ n ∧ n ≤ 5) : ∀ n ∈ bothL due other m, n.natAbs < 10 ^ 18 := by
  intro n hn
  unfold bothL at hn
  obtain ⟨k, _, rfl⟩ := List.mem_map.mp hn
  exact abs_small (getD_bound (by decide) h1 k) (getD_bound (by decide) h2 k)
/-! ### what the pot's calls leave alone -/
theorem LayAt.upd {C a l : Addr} {H : Hp} {ns : List Int} {xs : List V} {o : HO} (h : LayAt C H a ns) (e : H l = some (.lst xs)) : LayAt C (L2.upd H l o) a ns := by
  obtain ⟨dx, r, h1, h2, h3, h4⟩ := h
  refine ⟨dx, r, ?_, ?_, h3, h4⟩
  · rw [upd_ne (fun z => by rw [z, e] at h1; cases h1)]
    exact h1
  · rcases h2 with z | ⟨ob, z⟩
    · exact .inl (by rw [upd_ne (fun y => by rw [y, e] at z; cases z)]; exact z)
    · exact .inr ⟨ob, by rw [upd_ne (fun y => by rw [y, e] at z; cases z)]; exact z⟩
theorem LayAt.but {C a p : Addr} {H H' : Hp} {ns : List Int} {xs : List V} (h : LayAt C H a ns) (e : H p = some (.lst xs)) (b : But p H H') : LayAt C H' a ns := by
  obtain ⟨dx, r, h1, h2, h3, h4⟩ := h
  refine ⟨dx, r, b.1 _ _ h1 (fun z => by rw [z, e] at h1; cases h1), ?_, h3, h4⟩
  rcases h2 with z | ⟨ob, z⟩
  · exact .inl (b.1 _ _ z (fun y => by rw [y, e] at z; cases z))
  · exact .inr ⟨ob, b.1 _ _ z (fun y => by rw [y, e] at z; cases z)⟩
theorem Pot.lst {H : Hp} {p c : Addr} (h : Pot H p c) : ∃ xs, H p = some (.lst xs) := by
  obtain ⟨ns, pl, am, sz, h1, _⟩ := h
  exact ⟨_, h1⟩
/-- what a turn holds: the pot, the layout, the two lists -/
structure Held (C p c : Addr) (x dl pt : Addr) (due ps : List Int) (H : Hp) : Prop where
  pot : Pot H p c
  lay : LayAt C H x due
  ed : H dl = some (.lst (due.map V.int))
  ep : H pt = some (.lst (ps.map V.int))
  nd : dl ≠ p
  np : pt ≠ p
theorem Held.same {C p c x dl pt : Addr} {due ps : List Int} {H H' : Hp} (h : Held C p c x dl pt due ps H) (s : Same H H') : Held C p c x dl pt due ps H' := ⟨h.pot.same s, h.lay.same s, s _ _ h.ed, s _ _ h.ep, h.nd, h.np⟩
theorem Held.but {C p c x dl pt : Addr} {due ps : List Int} {H H' : Hp} (h : Held C p c x dl pt due ps H) (hP : Pot H' p c) (b : But p H H') : Held C p c x dl pt due ps H' := by
  obtain ⟨xs, e⟩ := h.pot.lst
  exact ⟨hP, h.lay.but e b, b.1 _ _ h.ed h.nd, b.1 _ _ h.ep h.np, h.nd, h.np⟩
theorem Held.right {C p c x dl pt : Addr} {due ps : List Int} {H : Hp} {Q : VK} {E : XK} (h : Held C p c x dl pt due ps H) (nb : ∀ n ∈ due, n.natAbs < 10 ^ 18) (pb : ∀ z ∈ ps, -1000000000 ≤ z ∧ z ≤ 1000000000) (q : ∀ H', Held C p c x dl pt due ps H' → Same H H' → Q (.bl true) H') : spRight C [.ref x, .ref dl, .ref pt] H Q E := ⟨x, due, dl, pt, ps, rfl, h.lay, h.ed, h.ep, nb, pb, fun H' s => q H' (h.same s) s⟩
def spLaw (K : PySem.W.Frag) : Sp := fun vs H Q _ => ∃ (a : Addr) (ns : List Int), vs = [.ref a] ∧ SqL K H a (ns.map V.int) ∧ ns.length ≤ 63 ∧ ∀ H', Q (.bl true) H'
structure Def (P : Program) (w : World) (K : PySem.W.Frag) (mg : Str → Option Value) (base : Heap) (x : Str) (st : Stmt) (ps : List Str) (k : Nat) (sp : Sp) (f : Addr) (fd : FuncData) : Prop where
  F : Fun K x x st f fd
  b : Binds K fd ps []
  g : mg x = some (.ref f)
  G : FnOk P w K mg base CX0 k f fd ps sp
end My

namespace My
open PySem PySem.Spec PyProof.Rows L2
abbrev s_law : Stmt := topS 29
theorem sc_law : FnScope ["script", "pot", "turn", "some", "handed", "layout", "due", "points", "size", "number", "other", "width", "both", "joined", "t", "one", "spot"] ["script"] (defScope s_law) := ⟨rfl, rfl, rfl, by decide +kernel, rfl, by decide +kernel, by decide +kernel⟩
theorem max3 (i j : Nat) : ∃ m : Nat, nuMax3 (.int (i : Nat)) (.int (j : Nat)) (.int 1) = some (.int (m : Nat)) ∧ i ≤ m ∧ j ≤ m ∧ m ≤ i + j + 1 := by
  have two : ∀ a b : Nat, nuMax2 (.int (a : Nat)) (.int (b : Nat)) = some (.int ((if a < b then b else a : Nat) : Nat)) := by
    intro a b
    show some (if decide (((a : Nat) : Int) < ((b : Nat) : Int)) = true then V.int (b : Nat) else V.int (a : Nat)) = _
    by_cases h : a < b
    · rw [if_pos h, decide_eq_true (show ((a : Nat) : Int) < ((b : Nat) : Int) by omega)]
      rfl
    · rw [if_neg h, decide_eq_false (show ¬ ((a : Nat) : Int) < ((b : Nat) : Int) by omega)]
      rfl
  refine ⟨if (if i < j then j else i) < 1 then 1 else (if i < j then j else i), ?_, ?_⟩
  · unfold nuMax3
    rw [two, Option.bind_some]
    exact two _ 1
  · by_cases h : i < j
    · simp only [if_pos h]
      by_cases h2 : j < 1
      · simp only [if_pos h2]; omega
      · simp only [if_neg h2]; omega
    · simp only [if_neg h]
      by_cases h2 : i < 1
      · simp only [if_pos h2]; omega
      · simp only [if_neg h2]; omega
theorem fl0 (m : Nat) : (List.replicate m [V.int 0]).flatten = (List.replicate m (0 : Int)).map V.int := by simp
theorem cat_at (ds : List Int) {m s : Nat} (h : s < m) : atI (ds.map V.int ++ (List.replicate m [V.int 0]).flatten) (s : Int) = some (V.int (ds.getD s 0)) := by
  rw [fl0, ← List.map_append]
  refine atI_nat ?_
  rw [List.getElem?_map, List.getD_eq_getElem?_getD]
  by_cases k : s < ds.length
  · rw [List.getElem?_append_left k, List.getElem?_eq_getElem k]
    rfl
  · rw [List.getElem?_append_right (by omega), List.getElem?_eq_none (l := ds) (by omega), List.getElem?_replicate, if_pos (by omega)]
    rfl
theorem cat_len (ds : List Int) (m : Nat) (h : ds.length + m ≤ 1000) : (ds.map V.int).length + (List.replicate (Int.toNat ((m : Nat) : Int)) [V.int 0]).flatten.length ≤ sizeLine := by
  rw [fl0, Int.toNat_natCast, List.length_map, List.length_map, List.length_replicate]
  exact Nat.le_of_lt (small1000 h)
theorem tr1 : trimN (List.replicate 1 (0 : Int) ++ [1]) = [0, 1] := by decide +kernel
theorem tr2 : trimN (List.replicate 2 (0 : Int) ++ [1]) = [0, 0, 1] := by decide +kernel
theorem tn1 : trimN [(1 : Int)] = [1] := by decide +kernel
theorem j7 : joinL [[0, 1], [1], [0, 1], [0, 0, 1], [1], [1], [0, 1]] = [3, 3, 1] := by decide +kernel
/-- [0] * k, by the heaps -/
theorem rep_len (k : Nat) (h : k ≤ 900) : [V.int 0].length * Int.toNat ((k : Nat) : Int) ≤ sizeLine := by
  rw [Int.toNat_natCast]
  exact Nat.le_of_lt (small1000 (show 1 * k ≤ 1000 by omega))
theorem getI_far {ns : List Int} {i : Int} (h : i < 0 ∨ (ns.length : Int) ≤ i) : getI ns i = 0 := if_neg (by omega)
section
variable {P : Program} {w : World} {K : PySem.W.Frag} {mg : Str → Option Value} {base : Heap}
theorem go_law {d : LayD} {mc : Value} {f f1 f2 f3 f4 f5 f6 fL g1 g2 g3 g4 g5 q3 q4 q5 : Addr} {fd fd1 fd2 fd3 fd4 fd5 fd6 : FuncData} (F : Fun K "law" "law" s_law f fd) (T : TxtL mg) (D : LayF P K mg d) (LG : LayG K d.lay mc)
    (D1 : Def P w K mg base "_law_pot_of" s_law_pot_of ["script"] 1 (spPotOf K) f1 fd1) (D2 : Def P w K mg base "_law_below" s_law_below ["pot", "bound"] 2 spBelow f2 fd2) (D3 : Def P w K mg base "_law_pick" s_law_pick ["pot", "items"] 3 (spPick K) f3 fd3)
    (D4 : Def P w K mg base "_law_some_factors" s_law_some_factors ["pot", "many", "most"] 4 spSome f4 fd4) (D5 : Def P w K mg base "_law_trimmed" s_law_trimmed ["factors"] 1 (spLTrim K) f5 fd5)
    (F__law_right : Fun K "_law_right" "_law_right" s_law_right f6 fd6) (b__law_right : Binds K fd6 ["layout", "factors", "points"] []) (g__law_right : mg "_law_right" = some (.ref f6)) (G__law_right : FnG P w K mg base CX0 4 f6 fd6 ["layout", "factors", "points"] (spRight d.lay))
    (M_Layout : Mk K d.lay fL) (R_Layout : FnR P w K mg base (L2.CX P w) 3 fL (spMk d.lay)) (M_getitem : OwnM K d.lay "__getitem__" g1) (R_getitem : FnR P w K mg base CX0 1 g1 (spItem d.lay)) (M_contains : OwnM K d.lay "__contains__" g2) (R_contains : FnR P w K mg base CX0 3 g2 (spHas d.lay))
    (S_trees : SMet K d.lay mc "trees" q3 g3) (R_trees : FnR P w K mg base CX0 5 g3 (spTrees d.lay)) (S_number : SMet K d.lay mc "number" q4 g4) (R_number : FnR P w K mg base CX0 5 g4 (spNumber d.lay)) (S_joined : SMet K d.lay mc "joined" q5 g5) (R_joined : FnR P w K mg base CX0 6 g5 (spJoined d.lay)) :
    FnG P w K mg base CX0 8 f fd ["script"] (spLaw K) := by
  have ⟨F__law_pot_of, b__law_pot_of, g__law_pot_of, G__law_pot_of⟩ := D1
  have ⟨F__law_below, b__law_below, g__law_below, G__law_below⟩ := D2
  have ⟨F__law_pick, b__law_pick, g__law_pick, G__law_pick⟩ := D3
  have ⟨F__law_some_factors, b__law_some_factors, g__law_some_factors, G__law_some_factors⟩ := D4
  have ⟨F__law_trimmed, b__law_trimmed, g__law_trimmed, G__law_trimmed⟩ := D5
  refine go_nox F sc_law (fun vs H Q E h => ?_) (fun cdv A outer s H vs Q E hr quiet h => ?_)
  · obtain ⟨a, ns, rfl, _⟩ := h
    rfl
  · obtain ⟨a, ns, rfl, hS, hl, q⟩ := h
    refine ⟨_, (pss_cons (ps_set (i := 1) sc_law.nd rfl (.inl rfl) (pe_call G__law_pot_of (hr.mono (by omega)) (by rfl) g__law_pot_of F__law_pot_of.kp b__law_pot_of .nil pass0 (pa_cons (pv 0) pa_nil)))
  (pss_cons (ps_for PassesOwn.never rfl (pi_range1 (by rfl) T.n_range (pa_cons pe_int pa_nil)) (pg_name (i := 2) sc_law.nd rfl (.inl rfl))
   (pss_cons (ps_set (i := 3) sc_law.nd rfl (.inl rfl) (pe_call G__law_some_factors (hr.mono (by omega)) (by rfl) g__law_some_factors F__law_some_factors.kp b__law_some_factors .nil pass0 (pa_cons (pv 1) (pa_cons pe_int (pa_cons (pe_op op_pow pe_int pe_int) pa_nil)))))
  (pss_cons (ps_set (i := 4) sc_law.nd rfl (.inl rfl) (pe_cut (pe_ifExp (pt_cmpR op_eq (pe_call G__law_below (hr.mono (by omega)) (by rfl) g__law_below F__law_below.kp b__law_below .nil pass0 (pa_cons (pv 1) (pa_cons pe_int pa_nil))) pe_int (nomark _)) (pv 3) (pe_callTy call_tuple_of (by rfl) T.n_tuple (by decide +kernel) (pa_cons (pv 3) pa_nil)))))
  (pss_cons (ps_asg (pe_tup (pa_cons (pe_makeI M_Layout R_Layout (hr.mono (by omega)) (by rfl) D.gLay (pa_cons (pv 4) pa_nil)) (pa_cons (pe_call G__law_trimmed (hr.mono (by omega)) (by rfl) g__law_trimmed F__law_trimmed.kp b__law_trimmed .nil pass0 (pa_cons (pv 3) pa_nil)) pa_nil))) (pg_tup rfl (pgs_cons (pg_name (i := 5) sc_law.nd rfl (.inl rfl)) (pgs_cons (pg_name (i := 6) sc_law.nd rfl (.inr rfl)) pgs_nil))))
  (pss_cons (ps_expr (pe_bm PySem.F.plainAttrs_list PySem.F.slot_list_append PySem.F.type_list_append mt_append (pv 3) (pa_cons pe_int pa_nil)))
  (pss_cons (ps_expr (pe_bm0 PySem.F.plainAttrs_list PySem.F.slot_list_reverse PySem.F.type_list_reverse mt_reverse (pv 3)))
  (pss_cons (ps_set (i := 7) sc_law.nd rfl (.inl rfl) (pe_lst (pa_cons pe_int (pa_cons pe_int (pa_cons (pe_op op_sub pe_int pe_int) (pa_cons pe_int (pa_cons (pe_op op_sub (pe_call G__law_below (hr.mono (by omega)) (by rfl) g__law_below F__law_below.kp b__law_below .nil pass0 (pa_cons (pv 1) (pa_cons (pe_op op_pow pe_int pe_int) pa_nil))) pe_int) pa_nil)))))))
  (pss_cons (ps_if (PW.pt (pw_or (pt_not (pt_val (pe_callG G__law_right (hr.mono (by omega)) quiet (by rfl) g__law_right F__law_right.kp b__law_right .nil pass0 (pa_cons (pv 5) (pa_cons (pv 6) (pa_cons (pv 7) pa_nil)))))) (pw_or (pt_cmpR op_ne (pe_ixO M_getitem R_getitem (hr.mono (by omega)) pass0 (pv 5) (pe_op op_pow pe_int pe_int) (fun _ _ => rfl)) pe_int (nomark _)) (pw_or1 (pt_cmpR (op_inO M_contains R_contains (hr.mono (by omega)) pass0) (pe_op op_sub pe_int (pe_op op_pow pe_int pe_int)) (pv 5) rfl)))))
   (pss_one (ps_ret pe_bl))
   pss_nil)
  (pss_cons (ps_par (i := 8) (j := 9) (by rfl) sc_law.nd rfl rfl (by decide) rfl rfl (pa_cons (pe_call G__law_below (hr.mono (by omega)) (by rfl) g__law_below F__law_below.kp b__law_below .nil pass0 (pa_cons (pv 1) (pa_cons pe_int pa_nil))) (pa_cons (pe_call G__law_pick (hr.mono (by omega)) (by rfl) g__law_pick F__law_pick.kp b__law_pick .nil pass0 (pa_cons (pv 1) (pa_cons (pe_lst (pa_cons pe_int (pa_cons pe_int (pa_cons (pe_call G__law_below (hr.mono (by omega)) (by rfl) g__law_below F__law_below.kp b__law_below .nil pass0 (pa_cons (pv 1) (pa_cons (pe_op op_pow pe_int pe_int) pa_nil))) pa_nil)))) pa_nil))) pa_nil)) (by rfl))
  (pss_cons (ps_if (pt_not (pt_val (pe_callG G__law_right (hr.mono (by omega)) quiet (by rfl) g__law_right F__law_right.kp b__law_right .nil pass0 (pa_cons (pe_smeth (pe_glob (v := .ref d.lay) (by rfl) D.gLay rfl) LG.rd S_trees R_trees (hr.mono (by omega)) pass0 (pa_cons (pv 8) pa_nil)) (pa_cons (pe_op op_cat (pe_op op_rep (pe_lst (pa_cons pe_int pa_nil)) (pv 8)) (pe_lst (pa_cons pe_int pa_nil))) (pa_cons (pv 7) pa_nil))))))
   (pss_one (ps_ret pe_bl))
   pss_nil)
  (pss_cons (ps_if (pt_not (pt_val (pe_callG G__law_right (hr.mono (by omega)) quiet (by rfl) g__law_right F__law_right.kp b__law_right .nil pass0 (pa_cons (pe_smeth (pe_glob (v := .ref d.lay) (by rfl) D.gLay rfl) LG.rd S_number R_number (hr.mono (by omega)) pass0 (pa_cons (pv 9) pa_nil)) (pa_cons (pe_cut (pe_ifExp (pt_cmpR op_gt (pv 9) pe_int (nomark _)) (pe_lst (pa_cons (pv 9) pa_nil)) (pe_lst pa_nil))) (pa_cons (pv 7) pa_nil))))))
   (pss_one (ps_ret pe_bl))
   pss_nil)
  (pss_cons (ps_set (i := 10) sc_law.nd rfl (.inr rfl) (pe_call G__law_some_factors (hr.mono (by omega)) (by rfl) g__law_some_factors F__law_some_factors.kp b__law_some_factors .nil pass0 (pa_cons (pv 1) (pa_cons pe_int (pa_cons pe_int pa_nil)))))
  (pss_cons (ps_set (i := 11) sc_law.nd rfl (.inr rfl) (pe_callB (call_max3Nu (by rfl)) (by rfl) T.n_max (by decide +kernel) (pa_cons (pe_callB call_len_seq (by rfl) T.n_len (by decide +kernel) (pa_cons (pv 6) pa_nil)) (pa_cons (pe_callB call_len_seq (by rfl) T.n_len (by decide +kernel) (pa_cons (pv 10) pa_nil)) (pa_cons pe_int pa_nil)))))
  (pss_cons (ps_setLc (i := 12) (own := [("spot", 16)]) (g := gName 16) rfl sc_law.nd rfl rfl (sw_true rfl rfl rfl (by decide +kernel)) (pi_range1 (by rfl) T.n_range (pa_cons (pv 11) pa_nil)) (blkOk_by (own := [("spot", 16)]) (N := ["script", "pot", "turn", "some", "handed", "layout", "due", "points", "size", "number", "other", "width", "both", "joined", "t", "one", "spot"]) (sc := defScope s_law) (by decide +kernel)) (fun _ _ _ _ _ => (pg_name (i := 16) sc_law.nd rfl (.inl rfl))) (fun _ _ _ _ _ => pts_nil) (fun _ _ _ _ _ => (pe_op op_add (pe_ix (r := rIxL K) ix_list (pe_op op_cat (pv 6) (pe_op op_rep (pe_lst (pa_cons pe_int pa_nil)) (pv 11))) (pv 16) (fun _ _ => rfl)) (pe_op op_mul pe_int (pe_ix (r := rIxL K) ix_list (pe_op op_cat (pv 10) (pe_op op_rep (pe_lst (pa_cons pe_int pa_nil)) (pv 11))) (pv 16) (fun _ _ => rfl))))))
  (pss_cons (ps_set (i := 13) sc_law.nd rfl (.inl rfl) (pe_smeth (pe_glob (v := .ref d.lay) (by rfl) D.gLay rfl) LG.rd S_joined R_joined (hr.mono (by omega)) pass0 (pa_cons (pe_makeI M_Layout R_Layout (hr.mono (by omega)) (by rfl) D.gLay (pa_cons (pv 10) pa_nil)) (pa_cons (pv 5) (pa_cons (pe_makeI M_Layout R_Layout (hr.mono (by omega)) (by rfl) D.gLay (pa_cons (pv 10) pa_nil)) pa_nil)))))
  (pss_cons (ps_if (PW.pt (pw_or (pt_not (pt_val (pe_callG G__law_right (hr.mono (by omega)) quiet (by rfl) g__law_right F__law_right.kp b__law_right .nil pass0 (pa_cons (pv 13) (pa_cons (pe_call G__law_trimmed (hr.mono (by omega)) (by rfl) g__law_trimmed F__law_trimmed.kp b__law_trimmed .nil pass0 (pa_cons (pv 12) pa_nil)) (pa_cons (pv 7) pa_nil)))))) (pw_or1 (pt_not (pt_val (pe_callG G__law_right (hr.mono (by omega)) quiet (by rfl) g__law_right F__law_right.kp b__law_right .nil pass0 (pa_cons (pe_smeth0 (pe_glob (v := .ref d.lay) (by rfl) D.gLay rfl) LG.rd S_joined R_joined (hr.mono (by omega)) pass0) (pa_cons (pe_lst pa_nil) (pa_cons (pv 7) pa_nil)))))))))
   (pss_one (ps_ret pe_bl))
   pss_nil)
  (pss_cons (ps_if (PW.pt (pw_or (pt_not (pt_val (pe_callG G__law_right (hr.mono (by omega)) quiet (by rfl) g__law_right F__law_right.kp b__law_right .nil pass0 (pa_cons (pe_smeth (pe_glob (v := .ref d.lay) (by rfl) D.gLay rfl) LG.rd S_joined R_joined (hr.mono (by omega)) pass0 (pa_cons (pv 5) pa_nil)) (pa_cons (pv 6) (pa_cons (pv 7) pa_nil)))))) (pw_or1 (pt_not (pt_val (pe_callG G__law_right (hr.mono (by omega)) quiet (by rfl) g__law_right F__law_right.kp b__law_right .nil pass0 (pa_cons (pv 5) (pa_cons (pv 6) (pa_cons (pv 7) pa_nil)))))))))
   (pss_one (ps_ret pe_bl))
   pss_nil)
  (pss_cons (ps_par (i := 14) (j := 15) (by rfl) sc_law.nd rfl rfl (by decide) rfl rfl (pa_cons (pe_smeth (pe_glob (v := .ref d.lay) (by rfl) D.gLay rfl) LG.rd S_trees R_trees (hr.mono (by omega)) pass0 (pa_cons pe_int pa_nil)) (pa_cons (pe_smeth (pe_glob (v := .ref d.lay) (by rfl) D.gLay rfl) LG.rd S_number R_number (hr.mono (by omega)) pass0 (pa_cons pe_int pa_nil)) pa_nil)) (by rfl))
  (pss_one (ps_if (pt_cmpR (op_neD hr.units) (pe_fld (pe_smeth (pe_glob (v := .ref d.lay) (by rfl) D.gLay rfl) LG.rd S_joined R_joined (hr.mono (by omega)) pass0 (pa_cons (pv 14) (pa_cons (pv 15) (pa_cons (pv 14) (pa_cons (pe_smeth (pe_glob (v := .ref d.lay) (by rfl) D.gLay rfl) LG.rd S_trees R_trees (hr.mono (by omega)) pass0 (pa_cons pe_int pa_nil)) (pa_cons (pv 15) (pa_cons (pv 15) (pa_cons (pv 14) pa_nil)))))))) rfl) (pe_tup (pa_cons pe_int (pa_cons pe_int (pa_cons pe_int pa_nil)))) (nomark _))
   (pss_one (ps_ret pe_bl))
   pss_nil))))))))))))))))))))
  (pss_one (ps_ret pe_bl)))), ?_⟩
    clear G__law_pot_of G__law_below G__law_pick G__law_some_factors G__law_trimmed G__law_right R_Layout R_getitem R_contains R_trees R_number R_joined D1 D2 D3 D4 D5
    refine ⟨_, rfl, a, ns, rfl, hS, hl, fun p c H1 s1 np nc hP1 => ?_⟩
    clear hS s1
    refine ⟨8, rfl, by decide, by decide, for_range (n := 8) (fun i σ H => Pot H p c ∧ ∃ u2 u3 u4 u5 u6 u7 u8 u9 ua ub uc ud ue uf ug : Option V, σ = [some (.ref a), some (.ref p), u2, u3, u4, u5, u6, u7, u8, u9, ua, ub, uc, ud, ue, uf, ug]) ⟨hP1, none, none, none, none, none, none, none, none, none, none, none, none, none, none, none, rfl⟩ ?_ ?_⟩
    · rintro i σ H2 hi ⟨hP2, u2, u3, u4, u5, u6, u7, u8, u9, ua, ub, uc, ud, ue, uf, ug, rfl⟩
      clear hP1 np nc H1
      -- some, handed
      refine ⟨_, rfl, _, _, rfl, rfl, ⟨by decide, by decide, by decide⟩, ⟨p, c, 14, 10 ^ 9, rfl, hP2, by decide, by decide, by decide, fun l fs H3 nl hP3 b3 el lf bf => ?_⟩⟩
      obtain ⟨xs2, e2⟩ := hP2.lst
      have nlp : l ≠ p := fun z => by rw [z, e2] at nl; cases nl
      have ncl : c ≠ l := by
        obtain ⟨ms, pl, am, sz, h1, h2, h3⟩ := hP2
        exact ne_of_none h2 nl
      clear b3 nl e2 hP2
      refine ⟨fun v H' => Pot H' p c ∧ H' l = some (.lst (fs.map V.int)) ∧ ∃ hd, v = .ref hd ∧ IntsAt H' hd fs, ?_, ?_⟩
      · refine ⟨_, rfl, p, c, _, rfl, hP3, by decide, by decide, fun v H4 v0 v1 hP4 b4 => ?_⟩
        have el4 := b4.1 _ _ el nlp
        refine ⟨rfl, decide (v = 0), eqI _ 0, ?_⟩
        by_cases z : v = 0
        · rw [decide_eq_true z]
          refine iteT ?_
          exact ⟨_, rfl, hP4, el4, l, rfl, .inl el4⟩
        · rw [decide_eq_false z]
          refine iteF ?_
          refine ⟨_, rfl, l, _, rfl, .inl ⟨.inl (.inl el4), fun t nt => ?_⟩⟩
          have st := same_upd (o := .tup (fs.map V.int)) nt
          exact ⟨hP4.same st, st _ _ el4, t, rfl, .inr (.inl upd_same)⟩
      rintro v H4 ⟨hP4, el4, hd, rfl, ih⟩
      clear hP3 el
      have lf9 : fs.length ≤ 900 := by omega
      have bf0 : ∀ n ∈ fs, 0 ≤ n := fun n hn => (bf n hn).1
      -- layout, due
      refine ⟨_, rfl, hd, fs, rfl, ih, by omega, bf0, trim_len1 _ (by omega), fun x H5 s5 nx lx => ?_⟩
      refine ⟨_, rfl, ⟨l, fs, rfl, .inl (.inl (s5 _ _ el4)), lf9, fun dl H6 s6 ndl ed => ?_⟩⟩
      refine ⟨by show 2 ≤ sizeLine; decide, fun tp ntp => ⟨tp, _, rfl, .inl (.inl upd_same), rfl, _, _, rfl, _, _, rfl, rfl, ?_⟩⟩
      have s7 := s6.trans (same_upd (o := .tup [V.ref x, V.ref dl]) ntp)
      have ed7 := (same_upd (o := .tup [V.ref x, V.ref dl]) ntp) _ _ ed
      generalize upd H6 tp (.tup [V.ref x, V.ref dl]) = H7 at s7 ed7 ⊢
      have el7 := s7 _ _ (s5 _ _ el4)
      have hP7 := (hP4.same s5).same s7
      have lx7 := lx.same s7
      have ndlp : dl ≠ p := fun z => by
        obtain ⟨xs, e⟩ := (hP4.same s5).lst
        rw [z, e] at ndl
        cases ndl
      have ndll : dl ≠ l := fun z => by rw [z, s5 _ _ el4] at ndl; cases ndl
      clear s7 ed s6 ndl lx nx s5 ih el4 hP4
      have due9 : ∀ n ∈ trimN fs, 0 ≤ n ∧ n ≤ 1000000000 := fun n hn => bf n (mem_trim hn)
      have td : trimN (trimN fs) = trimN fs := trim_trim fs
      have ld : (trimN fs).length ≤ 14 := Nat.le_trans (trimN_len _) lf
      generalize trimN fs = due at ed7 lx7 due9 td ld ⊢
      have nb : ∀ n ∈ due, n.natAbs < 10 ^ 18 := fun n hn => Nat.lt_of_le_of_lt (show n.natAbs ≤ 1000000000 by have := due9 n hn; omega) (by decide)
      -- some.append(7); some.reverse()
      refine ⟨_, rfl, .inl ⟨rfl, _, .inl (.inl el7)⟩, l, _, _, rfl, rfl, el7, small1000 (by rw [List.length_map]; omega), ?_⟩
      have bl7 : But l H7 (upd H7 l (.lst (fs.map V.int ++ [V.int 7]))) := but_upd
      have el8 : (upd H7 l (.lst (fs.map V.int ++ [V.int 7]))) l = some (.lst (fs.map V.int ++ [V.int 7])) := upd_same
      have lx8 := lx7.upd (o := .lst (fs.map V.int ++ [V.int 7])) el7
      generalize upd H7 l (.lst (fs.map V.int ++ [V.int 7])) = H8 at bl7 el8 lx8 ⊢
      refine ⟨_, rfl, .inl ⟨rfl, _, .inl (.inl el8)⟩, l, _, rfl, rfl, el8, ?_⟩
      have bl8 : But l H8 (upd H8 l (.lst (fs.map V.int ++ [V.int 7]).reverse)) := but_upd
      have lx9 := lx8.upd (o := .lst (fs.map V.int ++ [V.int 7]).reverse) el8
      generalize upd H8 l (.lst (fs.map V.int ++ [V.int 7]).reverse) = H9 at bl8 lx9 ⊢
      have b79 := bl7.trans bl8
      have ed9 := b79.1 _ _ ed7 ndll
      have hP9 : Pot H9 p c := hP7.but b79 (Ne.symm nlp) ncl
      clear b79 bl8 lx8 el8 bl7 lx7 ed7 hP7 el7 nlp ncl ndll bf0 lf9 bf lf
      -- points
      refine ⟨_, _, rfl, rfl, _, rfl, _, _, rfl, rfl, ⟨by decide, by decide, by decide⟩, p, c, _, rfl, hP9, by decide, by decide, fun v HA v0 v1 hPA bA => ?_⟩
      have v2 : v < 1000000 := v1
      have lxA : LayAt d.lay HA x due := by
        obtain ⟨xs, e⟩ := hP9.lst
        exact lx9.but e bA
      have edA := bA.1 _ _ ed9 ndlp
      refine ⟨_, _, rfl, rfl, by show 5 ≤ sizeLine; decide, fun pt npt => ?_⟩
      have pb : ∀ z ∈ ([0, 1, 0 - 1, 2, v - 500000] : List Int), -1000000000 ≤ z ∧ z ≤ 1000000000 := by
        intro z hz
        simp only [List.mem_cons, List.not_mem_nil, or_false] at hz
        omega
      have ept : (upd HA pt (.lst [V.int 0, V.int 1, V.int (0 - 1), V.int 2, V.int (v - 500000)])) pt = some (.lst (([0, 1, 0 - 1, 2, v - 500000] : List Int).map V.int)) := upd_same
      have sA := same_upd (o := .lst [V.int 0, V.int 1, V.int (0 - 1), V.int 2, V.int (v - 500000)]) npt
      generalize upd HA pt (.lst [V.int 0, V.int 1, V.int (0 - 1), V.int 2, V.int (v - 500000)]) = HB at ept sA ⊢
      generalize ([0, 1, 0 - 1, 2, v - 500000] : List Int) = ps at pb ept
      have nptp : pt ≠ p := fun z => by
        obtain ⟨xs, e⟩ := hPA.lst
        rw [z, e] at npt
        cases npt
      have hh : Held d.lay p c x dl pt due ps HB := ⟨hPA.same sA, lxA.same sA, sA _ _ edA, ept, ndlp, nptp⟩
      clear ept sA npt lxA edA hPA bA hP9 ed9 lx9 v2 v1 v0 ndlp nptp
      -- the first test
      refine ⟨_, rfl, _, rfl, _, rfl, hh.right nb pb fun HC hC _ => ⟨_, rfl, ?_⟩⟩
      clear hh
      refine iteF ?_
      obtain ⟨dx, r, hx, _⟩ := id hC.lay
      refine ⟨_, rfl, _, _, rfl, rfl, ⟨by decide, by decide, by decide⟩, x, dx, _, rfl, hx, ⟨⟨x, due, _, rfl, hC.lay, ?_⟩⟩⟩
      rw [getI_far (i := 10 ^ Int.toNat 30) (.inr (by have : (14 : Int) ≤ 10 ^ Int.toNat 30 := by decide
                                                      omega))]
      refine ⟨rfl, false, ne_self _, ?_⟩
      refine iteF ?_
      refine ⟨_, _, rfl, rfl, ⟨by decide, by decide, by decide⟩, _, _, rfl, rfl, _, rfl, x, dx, _, rfl, hx, ⟨⟨x, due, _, rfl, hC.lay, _, rfl, false, ?_, ?_⟩⟩⟩
      · rw [getI_far (i := 0 - 10 ^ Int.toNat 30) (.inl (by decide))]
        rfl
      refine iteF ?_
      clear hx
      -- size, number
      refine ⟨_, rfl, p, c, _, rfl, hC.pot, by decide, by decide, fun sz HD d0 d1 hPD bD => ?_⟩
      have hD := hC.but hPD bD
      clear hC bD hPD
      refine ⟨_, rfl, _, rfl, _, _, rfl, rfl, ⟨by decide, by decide, by decide⟩, p, c, _, rfl, hD.pot, by decide, by decide, fun y HE y0 y1 hPE bE => ?_⟩
      have y2 : y < 1000000000000 := y1
      have hE := hD.but hPE bE
      clear hD bE hPE y1
      refine ⟨by show 3 ≤ sizeLine; decide, fun L nL => ?_⟩
      have sL := same_upd (o := .lst [V.int 0, V.int 1, V.int y]) nL
      have eL : (upd HE L (.lst [V.int 0, V.int 1, V.int y])) L = some (.lst [V.int 0, V.int 1, V.int y]) := upd_same
      have npL : L ≠ p := fun z => by
        obtain ⟨xs, e⟩ := hE.pot.lst
        rw [z, e] at nL
        cases nL
      generalize upd HE L (.lst [V.int 0, V.int 1, V.int y]) = HF at sL eL ⊢
      have hF := hE.same sL
      clear hE nL sL
      refine ⟨p, c, L, _, rfl, hF.pot, .inl (.inl eL), (fun z => nomatch z), by show 3 < 1073741824; decide, fun H' hb => .inl (.inl (hb.1 _ _ eL npL)), fun vv HG hv hPG bG => ?_⟩
      have hG := hF.but hPG bG
      clear hF bG hPG eL npL
      obtain ⟨nn, rfl, n0, n1⟩ : ∃ nn : Int, vv = .int nn ∧ 0 ≤ nn ∧ nn < 1000000000000 := by
        simp only [List.mem_cons, List.not_mem_nil, or_false] at hv
        rcases hv with rfl | rfl | rfl <;> exact ⟨_, rfl, by omega, by omega⟩
      obtain ⟨kz, rfl⟩ : ∃ kz : Nat, sz = (kz : Int) := ⟨sz.toNat, by omega⟩
      have hkz : kz ≤ 40 := by omega
      clear d0 d1 hv y0 y2
      refine ⟨_, _, rfl, ?_⟩
      -- Layout.trees(size)
      refine ⟨rfl, _, rfl, ⟨kz, rfl, hkz, fun x2 HH sH nx2 lx2 => ?_⟩⟩
      rw [trim_ones] at lx2
      have hH := hG.same sH
      clear hG sH nx2
      refine ⟨by show 1 ≤ sizeLine; decide, fun p1 np1 => ⟨_, rfl, p1, _, _, rfl, rfl, upd_same, by omega, by omega, rep_len kz (by omega), fun p2 np2 => ?_⟩⟩
      have sa := (same_upd (o := .lst [V.int 0]) np1).trans (same_upd (o := .lst (List.replicate (Int.toNat (kz : Nat)) [V.int 0]).flatten) np2)
      have e2 : (upd (upd HH p1 (.lst [V.int 0])) p2 (.lst (List.replicate (Int.toNat (kz : Nat)) [V.int 0]).flatten)) p2 = some (.lst ((List.replicate kz (0 : Int)).map V.int)) := by rw [upd_same, fl0, Int.toNat_natCast]
      generalize upd (upd HH p1 (.lst [V.int 0])) p2 (.lst (List.replicate (Int.toNat (kz : Nat)) [V.int 0]).flatten) = HI at sa e2 ⊢
      refine ⟨by show 1 ≤ sizeLine; decide, fun p3 np3 => ?_⟩
      have e23 := (same_upd (o := .lst [V.int 1]) np3) _ _ e2
      have e3 : (upd HI p3 (.lst [V.int 1])) p3 = some (.lst [V.int 1]) := upd_same
      have sb := sa.trans (same_upd (o := .lst [V.int 1]) np3)
      generalize upd HI p3 (.lst [V.int 1]) = HJ at e23 e3 sb ⊢
      refine ⟨p2, p3, _, _, rfl, rfl, e23, e3, small1000 (by simp; omega), fun p4 np4 => ?_⟩
      have e4 : (upd HJ p4 (.lst ((List.replicate kz (0 : Int)).map V.int ++ [V.int 1]))) p4 = some (.lst ((List.replicate kz (0 : Int) ++ [1]).map V.int)) := by
        rw [upd_same, List.map_append]
        rfl
      have sc := sb.trans (same_upd (o := .lst ((List.replicate kz (0 : Int)).map V.int ++ [V.int 1])) np4)
      generalize upd HJ p4 (.lst ((List.replicate kz (0 : Int)).map V.int ++ [V.int 1])) = HK at e4 sc ⊢
      have hK := hH.same sc
      refine ⟨_, rfl, ⟨x2, _, p4, pt, ps, rfl, lx2.same sc, e4, hK.ep, fun z hz => ?_, pb, fun HL sL => ⟨_, rfl, ?_⟩⟩⟩
      · rcases List.mem_append.mp hz with hz | hz
        · rw [(List.mem_replicate.mp hz).2]
          decide
        · rw [List.mem_singleton.mp hz]
          decide
      have hL := hK.same sL
      clear hK sL sc e4 sb e3 e23 sa e2 hH lx2 np1 np2 np3 np4
      refine iteF ?_
      -- Layout.number(number)
      refine ⟨rfl, _, rfl, ⟨nn, rfl, n0, fun x3 HM sM nx3 lx3 => ?_⟩⟩
      have hM := hL.same sM
      clear hL sM nx3
      refine ⟨fun v H' => ∃ l3, v = .ref l3 ∧ Same HM H' ∧ H' l3 = some (.lst ((trimN [nn]).map V.int)), ?_, ?_⟩
      · refine ⟨_, rfl, _, _, rfl, rfl, _, rfl, ?_⟩
        rw [trim_one]
        by_cases z : nn = 0
        · rw [decide_eq_false (show ¬ (0 : Int) < nn by omega)]
          refine iteF ?_
          rw [if_pos z]
          exact ⟨by show 0 ≤ sizeLine; decide, fun l3 nl3 => ⟨l3, rfl, same_upd nl3, upd_same⟩⟩
        · rw [decide_eq_true (show (0 : Int) < nn by omega)]
          refine iteT ?_
          rw [if_neg z]
          exact ⟨_, rfl, by show 1 ≤ sizeLine; decide, fun l3 nl3 => ⟨l3, rfl, same_upd nl3, upd_same⟩⟩
      rintro v HN ⟨l3, rfl, sN, e3⟩
      have hN := hM.same sN
      refine ⟨_, rfl, ⟨x3, _, l3, pt, ps, rfl, lx3.same sN, e3, hN.ep, fun z hz => ?_, pb, fun HO sO => ⟨_, rfl, ?_⟩⟩⟩
      · rw [List.mem_singleton.mp (mem_trim hz)]
        exact Nat.lt_of_le_of_lt (show nn.natAbs ≤ 1000000000000 by omega) (by decide)
      have hO := hN.same sO
      clear hN sO e3 sN hM lx3
      refine iteF ?_
      -- other, width, both
      refine ⟨_, rfl, ⟨p, c, 9, 5, rfl, hO.pot, by decide, by decide, by decide, fun lo os HP nlo hPP bP elo llo bos => ?_⟩⟩
      have hP := hO.but hPP bP
      clear hO bP hPP nlo
      obtain ⟨m, hm, m1, m2, m3⟩ := max3 due.length os.length
      refine ⟨_, rfl, dl, _, rfl, .inl (.inl (.inl hP.ed)), _, rfl, lo, _, rfl, .inl (.inl (.inl elo)), _, _, _, _, rfl, (by rw [List.length_map, List.length_map]; exact hm), ?_⟩
      refine ⟨_, rfl, _, rfl, by omega, by omega, fun L nL => ?_⟩
      refine lc_it (walk_range (n := m)) (fun i H5 => Same HP H5 ∧ H5 L = some (.lst ((bothL due os i).map V.int))) ⟨same_upd nL, upd_same⟩ (fun _ _ _ _ => True.intro) ?_ ?_
      · rintro i z H5 H6 hi ⟨s5, hL⟩ ⟨rfl, ez⟩
        have hi' : i < m := by omega
        have ez' : z = V.int (0 + (i : Nat)) := ez
        subst ez'
        rw [Int.zero_add]
        refine ⟨rfl, ?_⟩
        unfold tYes
        dsimp only
        rw [if_pos rfl]
        refine ⟨_, rfl, by show 1 ≤ sizeLine; decide, fun p1 np1 => ⟨_, rfl, p1, _, _, rfl, rfl, upd_same, by omega, by omega, rep_len m (by omega), fun p2 np2 => ?_⟩⟩
        have sa := (same_upd (o := .lst [V.int 0]) np1).trans (same_upd (o := .lst (List.replicate (Int.toNat (m : Nat)) [V.int 0]).flatten) np2)
        have e2 : (upd (upd H6 p1 (.lst [V.int 0])) p2 (.lst (List.replicate (Int.toNat (m : Nat)) [V.int 0]).flatten)) p2 = some (.lst (List.replicate (Int.toNat (m : Nat)) [V.int 0]).flatten) := upd_same
        generalize upd (upd H6 p1 (.lst [V.int 0])) p2 (.lst (List.replicate (Int.toNat (m : Nat)) [V.int 0]).flatten) = H7 at sa e2 ⊢
        refine ⟨dl, p2, _, _, rfl, rfl, sa _ _ (s5 _ _ hP.ed), e2, cat_len due m (by omega), fun p3 np3 => ?_⟩
        have e3 : (upd H7 p3 (.lst (due.map V.int ++ (List.replicate (Int.toNat (m : Nat)) [V.int 0]).flatten))) p3 = some (.lst (due.map V.int ++ (List.replicate m [V.int 0]).flatten)) := upd_same
        have sb := sa.trans (same_upd (o := .lst (due.map V.int ++ (List.replicate (Int.toNat (m : Nat)) [V.int 0]).flatten)) np3)
        generalize upd H7 p3 (.lst (due.map V.int ++ (List.replicate (Int.toNat (m : Nat)) [V.int 0]).flatten)) = H8 at sb e3 ⊢
        refine ⟨_, rfl, p3, _, _, _, rfl, rfl, .inl (.inl e3), cat_at due hi', ?_⟩
        clear e3 e2 sa
        refine ⟨_, rfl, by show 1 ≤ sizeLine; decide, fun p4 np4 => ⟨_, rfl, p4, _, _, rfl, rfl, upd_same, by omega, by omega, rep_len m (by omega), fun p5 np5 => ?_⟩⟩
        have sc := (same_upd (o := .lst [V.int 0]) np4).trans (same_upd (o := .lst (List.replicate (Int.toNat (m : Nat)) [V.int 0]).flatten) np5)
        have e5 : (upd (upd H8 p4 (.lst [V.int 0])) p5 (.lst (List.replicate (Int.toNat (m : Nat)) [V.int 0]).flatten)) p5 = some (.lst (List.replicate (Int.toNat (m : Nat)) [V.int 0]).flatten) := upd_same
        generalize upd (upd H8 p4 (.lst [V.int 0])) p5 (.lst (List.replicate (Int.toNat (m : Nat)) [V.int 0]).flatten) = H9 at sc e5 ⊢
        have sd := (s5.trans sb).trans sc
        refine ⟨lo, p5, _, _, rfl, rfl, sd _ _ elo, e5, cat_len os m (by omega), fun p6 np6 => ?_⟩
        have e6 : (upd H9 p6 (.lst (os.map V.int ++ (List.replicate (Int.toNat (m : Nat)) [V.int 0]).flatten))) p6 = some (.lst (os.map V.int ++ (List.replicate m [V.int 0]).flatten)) := upd_same
        have sw := (sb.trans sc).trans (same_upd (o := .lst (os.map V.int ++ (List.replicate (Int.toNat (m : Nat)) [V.int 0]).flatten)) np6)
        have se := sd.trans (same_upd (o := .lst (os.map V.int ++ (List.replicate (Int.toNat (m : Nat)) [V.int 0]).flatten)) np6)
        generalize upd H9 p6 (.lst (os.map V.int ++ (List.replicate (Int.toNat (m : Nat)) [V.int 0]).flatten)) = HA at se e6 sw ⊢
        refine ⟨_, rfl, p6, _, _, _, rfl, rfl, .inl (.inl e6), cat_at os hi', ?_⟩
        refine ⟨_, _, rfl, rfl, .inl ⟨by decide, by decide⟩, _, _, rfl, rfl, _, sw _ _ hL, ?_, same_at se nL, ?_⟩
        · rw [List.length_map]
          unfold bothL
          rw [List.length_map, List.length_range]
          exact small1000 (by omega)
        · rw [upd_same]
          unfold bothL
          rw [List.range_succ, List.map_append, List.map_append]
          rfl
      rintro HQ ⟨sQ, eB⟩
      have hQ := hP.same sQ
      have elq := sQ _ _ elo
      clear hP sQ elo nL hm
      have os0 : ∀ n ∈ os, 0 ≤ n := fun n hn => (bos n hn).1
      have lb9 : (bothL due os m).length ≤ 900 := by
        unfold bothL
        rw [List.length_map, List.length_range]
        omega
      -- joined
      refine ⟨rfl, _, rfl, lo, os, rfl, .inl elq, by omega, os0, trim_len1 _ (by omega), fun xa HR sR nxa lxa => ?_⟩
      have hR := hQ.same sR
      refine ⟨_, rfl, _, rfl, lo, os, rfl, .inl (sR _ _ elq), by omega, os0, trim_len1 _ (by omega), fun xb HS sS nxb lxb => ?_⟩
      have hS := hR.same sS
      refine ⟨[(xa, trimN os), (x, due), (xb, trimN os)], rfl, by show 3 ≤ 100; decide, fun z hz => ?_, fun xj HT sT nxj lxj => ?_⟩
      · simp only [List.mem_cons, List.not_mem_nil, or_false] at hz
        rcases hz with rfl | rfl | rfl
        · exact lxa.same sS
        · exact hS.lay
        · exact lxb
      replace lxj : LayAt d.lay HT xj (joinL [trimN os, due, trimN os]) := lxj
      rw [join_both m1 m2] at lxj
      have hT := hS.same sT
      have eBT := sT _ _ (sS _ _ (sR _ _ eB))
      clear hS hR hQ sT sS sR eB elq lxa lxb nxa nxb nxj
      have nbB : ∀ n ∈ bothL due os m, n.natAbs < 10 ^ 18 := both_bound due9 bos
      refine ⟨_, rfl, _, rfl, ⟨L, bothL due os m, rfl, .inl (.inl eBT), lb9, fun lt HU sU nlt elt => ?_⟩⟩
      have hU := hT.same sU
      refine ⟨_, rfl, ⟨xj, _, lt, pt, ps, rfl, lxj.same sU, elt, hU.ep, fun n hn => nbB n (mem_trim hn), pb, fun HV sV => ⟨_, rfl, ?_⟩⟩⟩
      have hV := hU.same sV
      clear hT hU sU sV elt lxj eBT nbB lb9
      refine iteF ?_
      refine ⟨rfl, ⟨[], rfl, Nat.zero_le _, (fun _ z => nomatch z), fun xe HW sW nxe lxe => ?_⟩⟩
      replace lxe : LayAt d.lay HW xe [] := lxe
      have hW := hV.same sW
      refine ⟨by show 0 ≤ sizeLine; decide, fun le nle => ?_⟩
      have sX := same_upd (o := .lst []) nle
      have eX : (upd HW le (.lst [])) le = some (.lst []) := upd_same
      generalize upd HW le (.lst []) = HX at sX eX ⊢
      have hX := hW.same sX
      refine ⟨_, rfl, ⟨xe, [], le, pt, ps, rfl, lxe.same sX, eX, hX.ep, (fun n hn => nomatch hn), pb, fun HY sY => ⟨_, rfl, ?_⟩⟩⟩
      have hY := hX.same sY
      clear hV hW hX sW sX sY eX lxe nxe nle
      refine iteF ?_
      -- Layout.joined(layout), layout
      refine ⟨rfl, _, rfl, ⟨[(x, due)], rfl, by show 1 ≤ 100; decide, fun z hz => by rw [List.mem_singleton.mp hz]; exact hY.lay, fun xo HZ sZ nxo lxo => ?_⟩⟩
      replace lxo : LayAt d.lay HZ xo (joinL [due]) := lxo
      rw [join_one td] at lxo
      have hZ := hY.same sZ
      refine ⟨_, rfl, _, rfl, ⟨xo, due, dl, pt, ps, rfl, lxo, hZ.ed, hZ.ep, nb, pb, fun G1 t1 => ⟨_, rfl, ?_⟩⟩⟩
      have h1 := hZ.same t1
      clear hY hZ sZ t1 lxo nxo
      refine iteF ?_
      refine ⟨_, rfl, _, rfl, _, rfl, h1.right nb pb fun G2 h2 _ => ⟨_, rfl, ?_⟩⟩
      clear h1
      refine iteF ?_
      -- t, one
      refine ⟨rfl, ⟨1, rfl, by decide, fun xt G3 t3 nxt lxt => ?_⟩⟩
      refine ⟨rfl, ⟨1, rfl, by decide, fun xn G4 t4 nxn lxn => ?_⟩⟩
      rw [tr1] at lxt
      rw [tn1] at lxn
      have h4 := (h2.same t3).same t4
      have lt4 := lxt.same t4
      clear h2 t3 nxt lxt nxn t4
      refine ⟨_, _, rfl, ?_⟩
      refine ⟨rfl, _, rfl, _, rfl, _, rfl, rfl, ⟨2, rfl, by decide, fun x2' G5 t5 nx2' lx2' => ?_⟩⟩
      rw [tr2] at lx2'
      have h5 := h4.same t5
      refine ⟨_, rfl, _, rfl, _, rfl, ⟨[(xt, [0, 1]), (xn, [1]), (xt, [0, 1]), (x2', [0, 0, 1]), (xn, [1]), (xn, [1]), (xt, [0, 1])], rfl, by show 7 ≤ 100; decide, fun z hz => ?_, fun xf G6 t6 nxf lxf => ?_⟩⟩
      · simp only [List.mem_cons, List.not_mem_nil, or_false] at hz
        rcases hz with rfl | rfl | rfl | rfl | rfl | rfl | rfl
        · exact lt4.same t5
        · exact lxn.same t5
        · exact lt4.same t5
        · exact lx2'
        · exact lxn.same t5
        · exact lxn.same t5
        · exact lt4.same t5
      replace lxf : LayAt d.lay G6 xf (joinL [[0, 1], [1], [0, 1], [0, 0, 1], [1], [1], [0, 1]]) := lxf
      rw [j7] at lxf
      have h6 := h5.same t6
      obtain ⟨dxf, rf, hf1, hf2, _⟩ := lxf
      refine ⟨xf, d.lay, dxf, _, .ref rf, rfl, hf1, D.lay, D.naF, rfl, ?_⟩
      refine ⟨by show 3 ≤ sizeLine; decide, fun tq ntq => ?_⟩
      have sq := same_upd (o := .tup [V.int 3, V.int 3, V.int 1]) ntq
      have eq : (upd G6 tq (.tup [V.int 3, V.int 3, V.int 1])) tq = some (.tup (([3, 3, 1] : List Int).map V.int)) := upd_same
      generalize upd G6 tq (.tup [V.int 3, V.int 3, V.int 1]) = G7 at sq eq ⊢
      refine ⟨_, _, .tup (.inl (rd_same hf2 sq)) (dp_ints [3, 3, 1]), .tup (.inl (.inl eq)) (dp_ints [3, 3, 1]), shT_ints _, shT_ints _, _, rfl, ?_⟩
      rw [eqvT_ints]
      refine iteF ?_
      exact ⟨(h6.same sq).pot, _, _, _, _, _, _, _, _, _, _, _, _, _, _, _, rfl⟩
    · rintro σ H3 ⟨hP3, u2, u3, u4, u5, u6, u7, u8, u9, ua, ub, uc, ud, ue, uf, ug, rfl⟩
      exact q _
end
end My

namespace My
open PySem PySem.Spec PyProof.Rows L2
/-! ### the facts of the text -/
abbrev mroVE (C LE : Addr) : List Value := [.ref C, .ref LE, .type "ValueError", .type "Exception", .type "BaseException", .type "object"]
/-- what stands of each of the sixteen classes -/
structure CK (K : PySem.W.Frag) (C LE : Addr) : Prop where
  m : ∃ cd, PySem.W.clsIn K C = some cd ∧ cd.mro = mroVE C LE
  t : PySem.W.typeIn K (.ref C) = some (.type "type")
  k : PySem.W.keepIn K (.ref C) = true
  hg : PySem.W.findIn K (.ref C) "__getattribute__" = some (some (.builtin "BaseException.__getattribute__"))
  hk : PySem.W.findIn K (.ref C) "__getattr__" = some none
  hd : PySem.W.hasDictIn K C = true
  ha : PySem.W.findIn K (.ref C) "__class__" = some (some (.builtin "object.__class__"))
theorem ck_mk {K : PySem.W.Frag} {C LE : Addr} {cd : ClassData} (m : PySem.W.clsIn K C = some cd) (r : cd.mro = mroVE C LE) (t : PySem.W.typeIn K (.ref C) = some (.type "type")) (k : PySem.W.keepIn K (.ref C) = true)
    (hg : PySem.W.findIn K (.ref C) "__getattribute__" = some (some (.builtin "BaseException.__getattribute__"))) (hk : PySem.W.findIn K (.ref C) "__getattr__" = some none) (hd : PySem.W.hasDictIn K C = true) (ha : PySem.W.findIn K (.ref C) "__class__" = some (some (.builtin "object.__class__"))) : CK K C LE := ⟨⟨cd, m, r⟩, t, k, hg, hk, hd, ha⟩
theorem some_cls {K : PySem.W.Frag} {C : Addr} {cd : ClassData} (m : PySem.W.clsIn K C = some cd) : ∃ cd, PySem.W.clsIn K C = some cd := ⟨cd, m⟩
theorem CK.mro {K : PySem.W.Frag} {C LE : Addr} (h : CK K C LE) (v : Value) : PySem.W.mroIn K C v = some ((mroVE C LE).contains v) := by
  obtain ⟨cd, e, r⟩ := h.m
  unfold PySem.W.mroIn
  rw [e, Option.bind_some, r]
  rfl
theorem CK.exc {K : PySem.W.Frag} {C LE : Addr} (h : CK K C LE) (hn : PySem.W.specialIn K (.builtin "object.__class__") "__get__" = some (some (.builtin "getset_descriptor.__get__"))) (ht : PySem.W.takesIn K (.builtin "object.__class__") = some true) : ExcC K C :=
  ⟨h.hg, h.hk, (h.mro _).trans (by rw [show (mroVE C LE).contains (.type "BaseException") = true by simp]), h.hd, h.ha, hn, ht, (h.mro _).trans (by rw [show (mroVE C LE).contains (.type "object") = true by simp])⟩
theorem exm_to {K : PySem.W.Frag} {C D LE : Addr} (hC : CK K C LE) (hD : CK K D LE) : PySem.W.exmOne K (.ref C) (.ref D) = some ((mroVE C LE).contains (.ref D)) := by
  obtain ⟨cd, e, r⟩ := hD.m
  have b1 : (PySem.W.subIn K (.ref D) (.type "BaseException") == some true) = true := by
    rw [show PySem.W.subIn K (.ref D) (.type "BaseException") = PySem.W.mroIn K D (.type "BaseException") from rfl, hD.mro]
    simp
  have b2 : ((PySem.W.clsIn K D).isSome && PySem.W.typeIn K (.ref D) == some (.type "type")) = true := by
    rw [e, hD.t]
    exact (show (true && (some (Value.type "type") == some (Value.type "type"))) = true by decide +kernel)
  show (if (PySem.W.subIn K (.ref D) (.type "BaseException") == some true) = true then (if ((PySem.W.clsIn K D).isSome && PySem.W.typeIn K (.ref D) == some (.type "type")) = true then PySem.W.subIn K (.ref C) (.ref D) else none) else none) = _
  rw [if_pos b1, if_pos b2]
  exact hC.mro _
theorem CK.xf {K : PySem.W.Frag} {C LE : Addr} (h : CK K C LE) : XfC K C := ⟨h.hg, h.hk, (h.mro _).trans (by rw [show (mroVE C LE).contains (.type "BaseException") = true by simp]), h.hd⟩
section
variable {P : Program} {w : World} {K : PySem.W.Frag} {mg : Str → Option Value} {base : Heap}
theorem sup_mk {h : Heap} {x qual : Str} {st : Stmt} {C LE fI cc cda : Addr} {oc doc pm ct : Value} {od an : Option Addr} {osl : Array (Option Value)} {nm q : Str} {N : Addr} {bs bm : List Value} {sn : List Str} {sub : List Value} {ab : Bool} {col : Option Bool} {dd : Option Addr} {k0 k1 k2 k3 k5 : Option Value}
    {ccl : Value} {cdd : Option Addr} {vs : Array Value} {ccs : Array (Option Value)} {file : Str} {tf : Tok} {cl : Value} {cld : Option Addr} {csl : Array (Option Value)} (X : K.In h) (G : h.Ns mainGlobals mg) (c : CK K C LE)
    (gC : PySem.W.nsIn K mainGlobals x = some (some (.ref C))) (lC : K.lookup C = some (excClassObj nm q C N bs bm true sn sub ab col dd k0 k1 k2 k3 k5 "ValueError.__new__")) (rv : PySem.HandSPX.refsVE bm = true)
    (sa : PySem.W.findIn K (.ref C) "__setattr__" = some (some (.builtin "object.__setattr__"))) (iC : PySem.W.findIn K (.ref C) "__init__" = some (some (.ref fI))) (tI : PySem.W.typeIn K (.ref fI) = some (.type "function"))
    (lI : K.lookup fI = some ⟨oc, od, .func (PySem.W.ksFn "__init__" qual (defArgs st) (defBody st) (defScope st) .none .none doc pm an (.ref cda) ct cc), osl⟩) (cdq : PySem.W.codeIn K (.ref cda) qual = true) (lc : K.lookup cda = some ⟨ccl, cdd, .fields vs, ccs⟩) (hv : vs[2]? = some (.str file tf)) (hf : ((P.main.file : Str) == file) = true)
    (lcc : K.lookup cc = some ⟨cl, cld, .cell (some (.ref C)), csl⟩) (noS : PySem.W.nsIn K mainGlobals "super" = some none) (anyC : PySem.W.nsIn K cStatics "thirdparty.any" = some none) (supI : PySem.W.ks_superIn K C C "__init__" = some (some (.builtin "ValueError.__init__"))) (noTop : (P.main.scope.names.lookup ("super" : Str)).isSome = false) :
    SupCls P K mg x qual st C fI cc cda (PySem.W.ksFn "__init__" qual (defArgs st) (defBody st) (defScope st) .none .none doc pm an (.ref cda) ct cc) where
  gC := PySem.W.mg_of X G gC
  ox := ⟨⟨nm, q, N, bs, bm, sn, sub, ab, col, dd, k0, k1, k2, k3, k5, lC, rv⟩, sa, (c.mro _).trans (by rw [show (mroVE C LE).contains (.type "BaseException") = true by simp]), c.t, c.k⟩
  iC := iC
  tI := tI
  fn := ⟨oc, od, doc, pm, an, ct, osl, rfl, lI⟩
  cdq := cdq
  code := ⟨ccl, cdd, vs, ccs, file, tf, lc, hv, hf⟩
  cell := ⟨cl, cld, csl, lcc⟩
  sub := (c.mro _).trans (by rw [show (mroVE C LE).contains (.ref C) = true by simp])
  noS := PySem.W.mg_none_of X G noS
  anyC := anyC
  supI := supI
  subV := (c.mro _).trans (by rw [show (mroVE C LE).contains (.type "ValueError") = true by simp])
  noTop := noTop
theorem plain_mk {h : Heap} {x : Str} {C LE : Addr} (X : K.In h) (G : h.Ns mainGlobals mg) (c : CK K C LE) (gC : PySem.W.nsIn K mainGlobals x = some (some (.ref C))) (q : PySem.W.excIn K C [.type "ValueError", .type "Exception", .type "BaseException", .type "object"] "ValueError.__new__" = true) : PlainCls K mg x C := ⟨PySem.W.mg_of X G gC, q, c.k⟩
/-- a def as the top has written it -/
structure DefK (K : PySem.W.Frag) (mg : Str → Option Value) (x : Str) (st : Stmt) (f : Addr) (fd : FuncData) : Prop where
  g : mg x = some (.ref f)
  F : Fun K x x st f fd
theorem def_mk {h : Heap} {x : Str} {st : Stmt} {f : Addr} {oc : Value} {od an : Option Addr} {osl : Array (Option Value)} {kV doc pm cdv ct : Value} (X : K.In h) (G : h.Ns mainGlobals mg) (g : PySem.W.nsIn K mainGlobals x = some (some (.ref f)))
    (l : K.lookup f = some ⟨oc, od, .func (PySem.W.fnOf x x (defArgs st) (defBody st) (defScope st) .none kV doc pm an cdv ct), osl⟩) (c : PySem.W.codeIn K cdv x = true) (k : PySem.W.keepIn K (.ref f) = true) : DefK K mg x st f (PySem.W.fnOf x x (defArgs st) (defBody st) (defScope st) .none kV doc pm an cdv ct) := ⟨PySem.W.mg_of X G g, fun_mk l c k⟩
structure MethK (K : PySem.W.Frag) (C : Addr) (x qual : Str) (st : Stmt) (f : Addr) (fd : FuncData) : Prop where
  i : PySem.W.findIn K (.ref C) x = some (some (.ref f))
  fn : PySem.W.isFn K (.ref f) = true
  F : Fun K x qual st f fd
theorem meth_mk {x qual : Str} {st : Stmt} {C f : Addr} {oc : Value} {od an : Option Addr} {osl : Array (Option Value)} {kV doc pm cdv ct : Value} (i : PySem.W.findIn K (.ref C) x = some (some (.ref f))) (n : PySem.W.isFn K (.ref f) = true)
    (l : K.lookup f = some ⟨oc, od, .func (PySem.W.fnOf x qual (defArgs st) (defBody st) (defScope st) .none kV doc pm an cdv ct), osl⟩) (c : PySem.W.codeIn K cdv qual = true) (k : PySem.W.keepIn K (.ref f) = true) : MethK K C x qual st f (PySem.W.fnOf x qual (defArgs st) (defBody st) (defScope st) .none kV doc pm an cdv ct) := ⟨i, n, fun_mk l c k⟩
structure MethO (K : PySem.W.Frag) (C : Addr) (x qual : Str) (st : Stmt) (f : Addr) (fd : FuncData) : Prop where
  M : OwnM K C x f
  F : Fun K x qual st f fd
theorem metho_mk {x qual : Str} {st : Stmt} {C f : Addr} {oc : Value} {od an : Option Addr} {osl : Array (Option Value)} {kV doc pm cdv ct : Value} (i : PySem.W.findIn K (.ref C) x = some (some (.ref f))) (n : PySem.W.isFn K (.ref f) = true) (fi : PySem.W.fnIn K f = true)
    (l : K.lookup f = some ⟨oc, od, .func (PySem.W.fnOf x qual (defArgs st) (defBody st) (defScope st) .none kV doc pm an cdv ct), osl⟩) (c : PySem.W.codeIn K cdv qual = true) (k : PySem.W.keepIn K (.ref f) = true) : MethO K C x qual st f (PySem.W.fnOf x qual (defArgs st) (defBody st) (defScope st) .none kV doc pm an cdv ct) := ⟨⟨i, n, fi, k⟩, fun_mk l c k⟩
structure PropK (K : PySem.W.Frag) (C : Addr) (x qual : Str) (st : Stmt) (p f : Addr) (fd : FuncData) : Prop where
  M : PropOf K C x p f
  F : Fun K x qual st f fd
theorem propk_mk {x qual : Str} {st : Stmt} {C p f : Addr} {rest : List Value} {oc : Value} {od an : Option Addr} {osl : Array (Option Value)} {kV doc pm cdv ct : Value} (i : PySem.W.findIn K (.ref C) x = some (some (.ref p))) (g : PySem.W.specialIn K (.ref p) "__get__" = some (some (.builtin "property.__get__"))) (t : PySem.W.takesIn K (.ref p) = some true) (r : PySem.W.recIn K p "property" = some (.ref f :: rest))
    (l : K.lookup f = some ⟨oc, od, .func (PySem.W.fnOf x qual (defArgs st) (defBody st) (defScope st) .none kV doc pm an cdv ct), osl⟩) (c : PySem.W.codeIn K cdv qual = true) (k : PySem.W.keepIn K (.ref f) = true) : PropK K C x qual st p f (PySem.W.fnOf x qual (defArgs st) (defBody st) (defScope st) .none kV doc pm an cdv ct) := ⟨⟨i, g, t, ⟨rest, r⟩⟩, fun_mk l c k⟩
structure StatK (K : PySem.W.Frag) (C : Addr) (x qual : Str) (st : Stmt) (p f : Addr) (fd : FuncData) : Prop where
  M : SMet K C (.type "type") x p f
  F : Fun K x qual st f fd
theorem statk_mk {x qual : Str} {st : Stmt} {C p f : Addr} {rest : List Value} {oc : Value} {od an : Option Addr} {osl : Array (Option Value)} {kV doc pm cdv ct : Value} (i : PySem.W.findCls K (.ref C) (.type "type") x = some (.get (.builtin "staticmethod.__get__") (.ref p) .none (.ref C))) (r : PySem.W.recIn K p "staticmethod" = some (.ref f :: rest))
    (l : K.lookup f = some ⟨oc, od, .func (PySem.W.fnOf x qual (defArgs st) (defBody st) (defScope st) .none kV doc pm an cdv ct), osl⟩) (c : PySem.W.codeIn K cdv qual = true) (k : PySem.W.keepIn K (.ref f) = true) : StatK K C x qual st p f (PySem.W.fnOf x qual (defArgs st) (defBody st) (defScope st) .none kV doc pm an cdv ct) := ⟨⟨i, ⟨rest, r⟩, k⟩, fun_mk l c k⟩
theorem kit_self {K : PySem.W.Frag} (C : Addr) : PySem.W.kitOne K (.ref C) (.ref C) = some true := by
  unfold PySem.W.kitOne
  rw [if_pos (by simp)]
theorem kit_int_own {K : PySem.W.Frag} {C : Addr} {T : String} (c : PySem.W.isClsIn K C = true) (t : PySem.W.typeIn K (.ref C) = some (.type "type")) (s : PySem.W.subIn K (.type T) (.ref C) = some false) : PySem.W.kitOne K (.type T) (.ref C) = some false := by
  unfold PySem.W.kitOne
  rw [if_neg (by simp)]
  show (if ((PySem.W.clsIn K C).isSome && PySem.W.typeIn K (.ref C) == some (.type "type")) = true then PySem.W.subIn K (.type T) (.ref C) else none) = _
  rw [if_pos (by rw [t, show (PySem.W.clsIn K C).isSome = true from c]; decide +kernel)]
  exact s
structure JoinS (K : PySem.W.Frag) (C p f : Addr) : Prop where
  M : SMet K C (.type "type") "joined" p f
  J : JoinK K f
theorem joins_mk {C p f T : Addr} {rest : List Value} {oc : Value} {od an : Option Addr} {osl : Array (Option Value)} {kV doc pm cdv ct : Value} {o : Obj} {tk : Tok} {n : Nat} (i : PySem.W.findCls K (.ref C) (.type "type") "joined" = some (.get (.builtin "staticmethod.__get__") (.ref p) .none (.ref C))) (r : PySem.W.recIn K p "staticmethod" = some (.ref f :: rest))
    (l : K.lookup f = some ⟨oc, od, .func (PySem.W.fnOf "joined" "Layout.joined" (defArgs s_Layoutjoined) (defBody s_Layoutjoined) (defScope s_Layoutjoined) (.ref T) kV doc pm an cdv ct), osl⟩) (c : PySem.W.codeIn K cdv "Layout.joined" = true) (k : PySem.W.keepIn K (.ref f) = true) (lT : K.lookup T = some o) (oT : o.data = .seq #[.int 0 tk] n) : JoinS K C p f := ⟨⟨i, ⟨rest, r⟩, k⟩, ⟨⟨oc, od, T, kV, doc, pm, an, cdv, ct, osl, o, tk, n, l, c, lT, oT⟩, k⟩⟩
theorem all_mk {h : Heap} {C_TooMany fI cc cda C_No C_Lay LE f_Layoutinit f_law_kneaded f_law_pot_of f_law_below f_law_pick f_is_integer f_trimmed f_factor_at f_added f_are_factors f_is_from_zero f_factors_beside f_law_some_factors f_law_trimmed f_law_right f_law fm_add fm_getitem fm_contains fm_len fm_bool fm_call fp_total pp_total fp_constant pp_constant fs_trees ps_trees fs_number ps_number fs_joined ps_joined : Addr} {fd_TooMany fd_Layoutinit fd_law_kneaded fd_law_pot_of fd_law_below fd_law_pick fd_is_integer fd_trimmed fd_factor_at fd_added fd_are_factors fd_is_from_zero fd_factors_beside fd_law_some_factors fd_law_trimmed fd_law_right fd_law fdm_add fdm_getitem fdm_contains fdm_len fdm_bool fdm_call fdp_total fdp_constant fds_trees fds_number : FuncData} {tD : Tok} {fa : Addr} {g_radd : Addr} {fo ro : Option Value} (X : K.In h) (G : h.Ns mainGlobals mg) (hfa : mg "law" = some (.ref fa))
    (k_TooMany : CK K C_TooMany LE) (k_No : CK K C_No LE) (s_TooMany : CK K C_TooMany LE → SupCls P K mg "TooMany" "TooMany.__init__" i_TooMany C_TooMany fI cc cda fd_TooMany) (no_limit : PySem.W.findIn K (.ref C_TooMany) "limit" = some none)
    (p_No : CK K C_No LE → PlainCls K mg "NoLayout" C_No) (nd : C_No ≠ C_TooMany ∧ C_No ≠ LE)
    (gLay : PySem.W.nsIn K mainGlobals "Layout" = some (some (.ref C_Lay))) (pg : PySem.W.plainGet K C_Lay Str.empty = true) (hd : PySem.W.hasDictIn K C_Lay = true) (po : PySem.W.plainOver K C_Lay = true) (sa : PySem.W.findIn K (.ref C_Lay) "__setattr__" = some (some (.builtin "object.__setattr__")))
    (naF : PySem.W.findIn K (.ref C_Lay) "factors" = some none) (naD : PySem.W.findIn K (.ref C_Lay) "degree" = some none) (mk : PySem.W.makesIn K C_Lay = true) (kp : PySem.W.keepIn K (.ref C_Lay) = true)
    (m_init : MethK K C_Lay "__init__" "Layout.__init__" s_Layoutinit f_Layoutinit fd_Layoutinit) (b_Layoutinit : Binds K fd_Layoutinit ["self", "factors"] [])
    (g_MOST : PySem.W.nsIn K mainGlobals "MOST_DEGREE" = some (some (.int 40 tD)))
    (tyC : PySem.W.typeIn K (.ref C_Lay) = some (.type "type"))
    (clsC : PySem.W.isClsIn K C_Lay = true)
    (ca : PySem.W.findIn K (.ref C_Lay) "__class__" = some (some (.builtin "object.__class__")))
    (cn : PySem.W.specialIn K (.builtin "object.__class__") "__get__" = some (some (.builtin "getset_descriptor.__get__")))
    (ct : PySem.W.takesIn K (.builtin "object.__class__") = some true)
    (cm : PySem.W.mroIn K C_Lay (.type "object") = some true)
    (rdI : PySem.W.readsIn K C_Lay (.type "type") = true)
    (rdG : PySem.W.specialIn K (.ref C_Lay) "__getattribute__" = some (some (.builtin "type.__getattribute__")))
    (fst : PySem.W.selfFirst K C_Lay = true)
    (raR : PySem.W.findIn K (.ref C_Lay) "__radd__" = some (some (.ref g_radd)))
    (raF : PySem.W.findIn K (.type "int") "__add__" = some fo)
    (raO : PySem.W.findIn K (.type "int") "__radd__" = some ro)
    (raS : PySem.W.subIn K (.type "int") (.ref C_Lay) = some false)
    (m_add : MethO K C_Lay "__add__" "Layout.__add__" s_Layoutadd fm_add fdm_add) (bm_add : Binds K fdm_add ["self", "other"] [])
    (m_getitem : MethO K C_Lay "__getitem__" "Layout.__getitem__" s_Layoutgetitem fm_getitem fdm_getitem) (bm_getitem : Binds K fdm_getitem ["self", "at"] [])
    (m_contains : MethO K C_Lay "__contains__" "Layout.__contains__" s_Layoutcontains fm_contains fdm_contains) (bm_contains : Binds K fdm_contains ["self", "x"] [])
    (m_len : MethO K C_Lay "__len__" "Layout.__len__" s_Layoutlen fm_len fdm_len) (bm_len : Binds K fdm_len ["self"] [])
    (m_bool : MethO K C_Lay "__bool__" "Layout.__bool__" s_Layoutbool fm_bool fdm_bool) (bm_bool : Binds K fdm_bool ["self"] [])
    (m_call : MethO K C_Lay "__call__" "Layout.__call__" s_Layoutcall fm_call fdm_call) (bm_call : Binds K fdm_call ["self", "n"] [])
    (pr_total : PropK K C_Lay "total" "Layout.total" s_Layouttotal pp_total fp_total fdp_total) (bp_total : Binds K fdp_total ["self"] [])
    (pr_constant : PropK K C_Lay "constant" "Layout.constant" s_Layoutconstant pp_constant fp_constant fdp_constant) (bp_constant : Binds K fdp_constant ["self"] [])
    (st_trees : StatK K C_Lay "trees" "Layout.trees" s_Layouttrees ps_trees fs_trees fds_trees) (bs_trees : Binds K fds_trees ["k"] [])
    (st_number : StatK K C_Lay "number" "Layout.number" s_Layoutnumber ps_number fs_number fds_number) (bs_number : Binds K fds_number ["n"] [])
    (st_joined : JoinS K C_Lay ps_joined fs_joined)
    (d_law_kneaded : DefK K mg "_law_kneaded" s_law_kneaded f_law_kneaded fd_law_kneaded)
    (d_law_pot_of : DefK K mg "_law_pot_of" s_law_pot_of f_law_pot_of fd_law_pot_of)
    (d_law_below : DefK K mg "_law_below" s_law_below f_law_below fd_law_below)
    (d_law_pick : DefK K mg "_law_pick" s_law_pick f_law_pick fd_law_pick)
    (d_is_integer : DefK K mg "is_integer" s_is_integer f_is_integer fd_is_integer)
    (d_trimmed : DefK K mg "trimmed" s_trimmed f_trimmed fd_trimmed)
    (d_factor_at : DefK K mg "factor_at" s_factor_at f_factor_at fd_factor_at)
    (d_added : DefK K mg "added" s_added f_added fd_added)
    (d_are_factors : DefK K mg "are_factors" s_are_factors f_are_factors fd_are_factors)
    (d_is_from_zero : DefK K mg "is_from_zero" s_is_from_zero f_is_from_zero fd_is_from_zero)
    (d_factors_beside : DefK K mg "factors_beside" s_factors_beside f_factors_beside fd_factors_beside)
    (d_law_some_factors : DefK K mg "_law_some_factors" s_law_some_factors f_law_some_factors fd_law_some_factors)
    (d_law_trimmed : DefK K mg "_law_trimmed" s_law_trimmed f_law_trimmed fd_law_trimmed)
    (d_law_right : DefK K mg "_law_right" s_law_right f_law_right fd_law_right)
    (d_law : DefK K mg "law" s_law f_law fd_law)
    (b_law_kneaded : Binds K fd_law_kneaded ["seed", "lap"] [])
    (b_law_pot_of : Binds K fd_law_pot_of ["script"] [])
    (b_law_below : Binds K fd_law_below ["pot", "bound"] [])
    (b_law_pick : Binds K fd_law_pick ["pot", "items"] [])
    (b_is_integer : Binds K fd_is_integer ["thing"] [])
    (b_trimmed : Binds K fd_trimmed ["factors"] [])
    (b_factor_at : Binds K fd_factor_at ["factors", "k"] [])
    (b_added : Binds K fd_added ["one", "other"] [])
    (b_are_factors : Binds K fd_are_factors ["thing"] [])
    (b_is_from_zero : Binds K fd_is_from_zero ["thing"] [])
    (b_factors_beside : Binds K fd_factors_beside ["thing"] [])
    (b_law_some_factors : Binds K fd_law_some_factors ["pot", "many", "most"] [])
    (b_law_trimmed : Binds K fd_law_trimmed ["factors"] [])
    (b_law_right : Binds K fd_law_right ["layout", "factors", "points"] [])
    (b_law : Binds K fd_law ["script"] [])
    (n_int : PySem.W.nsIn K mainGlobals "int" = some none)
    (n_range : PySem.W.nsIn K mainGlobals "range" = some none)
    (n_abs : PySem.W.nsIn K mainGlobals "abs" = some none)
    (n_enumerate : PySem.W.nsIn K mainGlobals "enumerate" = some none)
    (n_len : PySem.W.nsIn K mainGlobals "len" = some none)
    (n_isinstance : PySem.W.nsIn K mainGlobals "isinstance" = some none)
    (n_bool : PySem.W.nsIn K mainGlobals "bool" = some none)
    (n_list : PySem.W.nsIn K mainGlobals "list" = some none)
    (n_tuple : PySem.W.nsIn K mainGlobals "tuple" = some none)
    (n_all : PySem.W.nsIn K mainGlobals "all" = some none)
    (n_sum : PySem.W.nsIn K mainGlobals "sum" = some none)
    (n_max : PySem.W.nsIn K mainGlobals "max" = some none)
    (n_repr : PySem.W.nsIn K mainGlobals "repr" = some none)
    (bindL : ∀ (s : Shared) (v : Value), BindsTo s fd_law ⟨[v], []⟩ [("script", v)]) :
    ∃ fd : FuncData, (∀ (s : Shared) (v : Value), BindsTo s fd ⟨[v], []⟩ [("script", v)]) ∧ ∀ base : Heap, K.In base → base.Ns mainGlobals mg → FnG P w K mg base CX0 8 fa fd ["script"] (spLaw K) := by
  have e := hfa.symm.trans d_law.g
  cases e
  refine ⟨fd_law, bindL, fun base _ _ => ?_⟩
  have TD : TxtD mg := { n_int := PySem.W.mg_none_of X G n_int, n_range := PySem.W.mg_none_of X G n_range, n_abs := PySem.W.mg_none_of X G n_abs, n_enumerate := PySem.W.mg_none_of X G n_enumerate, n_len := PySem.W.mg_none_of X G n_len }
  have TF : TxtF mg := { n_isinstance := PySem.W.mg_none_of X G n_isinstance, n_int := PySem.W.mg_none_of X G n_int, n_bool := PySem.W.mg_none_of X G n_bool, n_len := PySem.W.mg_none_of X G n_len, n_list := PySem.W.mg_none_of X G n_list, n_tuple := PySem.W.mg_none_of X G n_tuple, n_all := PySem.W.mg_none_of X G n_all }
  have TM : TxtM mg := { n_range := PySem.W.mg_none_of X G n_range }
  have TL : TxtL mg := { n_len := PySem.W.mg_none_of X G n_len, n_bool := PySem.W.mg_none_of X G n_bool, n_sum := PySem.W.mg_none_of X G n_sum, n_max := PySem.W.mg_none_of X G n_max, n_range := PySem.W.mg_none_of X G n_range, n_isinstance := PySem.W.mg_none_of X G n_isinstance, n_list := PySem.W.mg_none_of X G n_list, n_tuple := PySem.W.mg_none_of X G n_tuple, n_repr := PySem.W.mg_none_of X G n_repr }
  have TY : TxtY mg tD := { n_len := PySem.W.mg_none_of X G n_len, g_MOST_DEGREE := PySem.W.mg_of X G g_MOST }
  let d : LayD := { too := ⟨C_TooMany, fI, cc, cda, fd_TooMany⟩, no := C_No, lay := C_Lay }
  have n1 : ∀ A B : Addr, A ≠ B → (Value.ref A == Value.ref B) = false := fun A B z => beq_eq_false_iff_ne.mpr fun q => z (by cases q; rfl)
  have D : LayF P K mg d := {
    too := s_TooMany k_TooMany
    noL := no_limit
    no := p_No k_No
    noB := (k_No.mro _).trans (by rw [show (mroVE C_No LE).contains (.type "BaseException") = true by simp])
    noT := k_No.t
    lay := ⟨pg, hd, po, sa⟩
    gLay := PySem.W.mg_of X G gLay
    exNN := (exm_to k_No k_No).trans (by rw [show (mroVE C_No LE).contains (.ref C_No) = true by simp])
    exTN := (exm_to k_TooMany k_No).trans (by rw [show (mroVE C_TooMany LE).contains (.ref C_No) = false by simp [mroVE, nd.1, nd.2]])
    exTT := (exm_to k_TooMany k_TooMany).trans (by rw [show (mroVE C_TooMany LE).contains (.ref C_TooMany) = true by simp])
    xf := k_TooMany.xf
    naF := naF
    naD := naD }
  have M : Mk K d.lay f_Layoutinit := ⟨mk, m_init.i, m_init.fn, kp⟩
  have G_law_pot_of := ok_pot_of (P := P) (w := w) (base := base) (k := 0) d_law_pot_of.F TD
  have G_law_below := ok_below (P := P) (w := w) (base := base) (k := 0) d_law_below.F TD d_law_kneaded.F b_law_kneaded d_law_kneaded.g
  have G_law_pick := ok_pick (P := P) (w := w) (base := base) (k := 0) d_law_pick.F TD d_law_below.F b_law_below d_law_below.g G_law_below
  have G_is_integer := ok_is_integer (P := P) (w := w) (base := base) (k := 0) d_is_integer.F TF
  have G_trimmed := ok_trimmed (P := P) (w := w) (base := base) (k := 0) d_trimmed.F TF
  have G_are_factors := ok_are_factors (P := P) (w := w) (base := base) (k := 0) d_are_factors.F TF d_is_integer.F b_is_integer d_is_integer.g G_is_integer
  have G_law_some_factors := ok_some_factors (P := P) (w := w) (base := base) (k := 0) d_law_some_factors.F TM d_law_below.F b_law_below d_law_below.g G_law_below d_law_pick.F b_law_pick d_law_pick.g G_law_pick
  have GI := ok_Layoutinit (P := P) (w := w) (base := base) (k := 0) m_init.F TY D d_are_factors.F b_are_factors d_are_factors.g G_are_factors d_trimmed.F b_trimmed d_trimmed.g G_trimmed
  have RL := mk_of_lay GI b_Layoutinit
  have LG : LayG K d.lay (.type "type") := ⟨kit_self _, kit_int_own clsC tyC raS, ca, cn, ct, cm, ⟨rdI, rdG⟩, fst, ⟨⟨_, raR, .inr ⟨_, rfl⟩⟩, ⟨_, raF⟩, ⟨_, raO⟩, raS⟩⟩
  have G_factor_at := ok_factor_at (P := P) (w := w) (base := base) (k := 0) d_factor_at.F TL
  have G_added := ok_added (P := P) (w := w) (base := base) (k := 0) d_added.F TL d_trimmed.F b_trimmed d_trimmed.g G_trimmed d_factor_at.F b_factor_at d_factor_at.g G_factor_at
  have G_is_from_zero := ok_is_from_zero (P := P) (w := w) (base := base) (k := 0) d_is_from_zero.F d_is_integer.F b_is_integer d_is_integer.g G_is_integer
  have G_factors_beside := ok_factors_beside (P := P) (w := w) (base := base) (k := 0) d_factors_beside.F TL D LG d_is_from_zero.F b_is_from_zero d_is_from_zero.g G_is_from_zero
  have R_add : FnR P w K mg base CX0 _ _ _ := (ok_add (P := P) (w := w) (base := base) (k := 0) m_add.F D M RL d_factors_beside.F b_factors_beside d_factors_beside.g G_factors_beside d_added.F b_added d_added.g G_added).raw bm_add .nil
  simp only [List.append_nil] at R_add
  have R_getitem : FnR P w K mg base CX0 _ _ _ := (ok_getitem (P := P) (w := w) (base := base) (k := 0) m_getitem.F D).raw bm_getitem .nil
  simp only [List.append_nil] at R_getitem
  have R_contains : FnR P w K mg base CX0 _ _ _ := (ok_contains (P := P) (w := w) (base := base) (k := 0) m_contains.F D m_getitem.M R_getitem).raw bm_contains .nil
  simp only [List.append_nil] at R_contains
  have R_len : FnR P w K mg base CX0 _ _ _ := (ok_len (P := P) (w := w) (base := base) (k := 0) m_len.F TL D).raw bm_len .nil
  simp only [List.append_nil] at R_len
  have R_bool : FnR P w K mg base CX0 _ _ _ := (ok_bool (P := P) (w := w) (base := base) (k := 0) m_bool.F TL D).raw bm_bool .nil
  simp only [List.append_nil] at R_bool
  have R_call : FnR P w K mg base CX0 _ _ _ := (ok_call (P := P) (w := w) (base := base) (k := 0) m_call.F D).raw bm_call .nil
  simp only [List.append_nil] at R_call
  have GP_total := ok_total (P := P) (w := w) (base := base) (k := 0) pr_total.F TL D
  have GP_constant := ok_constant (P := P) (w := w) (base := base) (k := 0) pr_constant.F TL D
  have R_trees : FnR P w K mg base CX0 _ _ _ := (ok_trees (P := P) (w := w) (base := base) (k := 0) st_trees.F D M RL).raw bs_trees .nil
  simp only [List.append_nil] at R_trees
  have R_number : FnR P w K mg base CX0 _ _ _ := (ok_number (P := P) (w := w) (base := base) (k := 0) st_number.F D M RL).raw bs_number .nil
  simp only [List.append_nil] at R_number
  have RJ := joined_at (P := P) (w := w) (base := base) (k := 0) st_joined.J D LG M RL m_add.M R_add
  have G_law_trimmed := ok_law_trimmed (P := P) (w := w) (base := base) (k := 0) d_law_trimmed.F TL
  have GR := go_law_right (P := P) (w := w) (base := base) (k := 0) d_law_right.F TL D LG pr_total.M bp_total GP_total pr_constant.M bp_constant GP_constant m_getitem.M R_getitem m_contains.M R_contains m_len.M R_len m_bool.M R_bool ⟨m_call.M.at_, m_call.M.fn, m_call.M.fi⟩ R_call
  exact go_law d_law.F TL D LG ⟨d_law_pot_of.F, b_law_pot_of, d_law_pot_of.g, G_law_pot_of⟩ ⟨d_law_below.F, b_law_below, d_law_below.g, G_law_below⟩ ⟨d_law_pick.F, b_law_pick, d_law_pick.g, G_law_pick⟩ ⟨d_law_some_factors.F, b_law_some_factors, d_law_some_factors.g, G_law_some_factors⟩ ⟨d_law_trimmed.F, b_law_trimmed, d_law_trimmed.g, G_law_trimmed⟩ d_law_right.F b_law_right d_law_right.g GR M RL m_getitem.M R_getitem m_contains.M R_contains st_trees.M R_trees st_number.M R_number st_joined.M RJ
end
end My

open PySem PySem.W PyProof.Rows
theorem PySem.Challenge.cw_layoutswap_k03_layouts_holds : PySem.Challenge.rw_layoutswap_k03_layouts.Holds := by
  w_on; o_law; k_head; (case hw => w_witness2)
  k_fill
  refine My.walk_ofG (l := PySem.Challenge.rw_layoutswap_k03_layouts) (n := 63) (k := 8) (x := "script") (sp := My.spLaw) rfl (by decide) rfl ⟨rfl, by decide, by decide⟩ (fun w h Y => PySem.W.kIn_of Y) ?F (fun K H a ns hl hS => ⟨a, ns, rfl, hS, Nat.le_trans hl (by decide), fun _ => rfl⟩)
  case F =>
    intro w mg fa h KX G hmg
    refine' My.all_mk KX G hmg ?k_TooMany ?k_No ?s_TooMany ?no_limit ?p_No ?nd ?gLay ?pg ?hd ?po ?sa ?naF ?naD ?mk ?kp ?m_init ?b_Layoutinit ?g_MOST ?tyC ?clsC ?ca ?cn ?ct ?cm ?rdI ?rdG ?fst ?raR ?raF ?raO ?raS ?m_add ?bm_add ?m_getitem ?bm_getitem ?m_contains ?bm_contains ?m_len ?bm_len ?m_bool ?bm_bool ?m_call ?bm_call ?pr_total ?bp_total ?pr_constant ?bp_constant ?st_trees ?bs_trees ?st_number ?bs_number ?st_joined ?d_law_kneaded ?d_law_pot_of ?d_law_below ?d_law_pick ?d_is_integer ?d_trimmed ?d_factor_at ?d_added ?d_are_factors ?d_is_from_zero ?d_factors_beside ?d_law_some_factors ?d_law_trimmed ?d_law_right ?d_law ?b_law_kneaded ?b_law_pot_of ?b_law_below ?b_law_pick ?b_is_integer ?b_trimmed ?b_factor_at ?b_added ?b_are_factors ?b_is_from_zero ?b_factors_beside ?b_law_some_factors ?b_law_trimmed ?b_law_right ?b_law ?n_int ?n_range ?n_abs ?n_enumerate ?n_len ?n_isinstance ?n_bool ?n_list ?n_tuple ?n_all ?n_sum ?n_max ?n_repr ?bindL
    (case gLay => k_is); (case g_MOST => k_is)
    (case s_TooMany => (intro c; refine' My.sup_mk KX G c ?zzgC ?zzlC ?zzrv ?zzsa ?zziC ?zztI ?zzlI ?zzcdq ?zzlc ?zzhv ?zzhf ?zzlcc ?zznoS ?zzanyC ?zzsupI ?zznoTop; (case zzgC => k_is); (case zzlC => k_is); (case zzrv => decide +kernel); (case zzsa => k_is); (case zziC => k_is); (case zztI => k_is); (case zzlI => k_is); (case zzcdq => k_is); (case zzlc => k_is); (case zzhv => exact rfl); (case zzhf => decide +kernel); (case zzlcc => k_is); (case zznoS => k_is); (case zzanyC => k_is); (case zzsupI => ks_is); (case zznoTop => decide +kernel)))
    (case p_No => (intro c; refine' My.plain_mk KX G c ?zzgC ?zzq; (case zzgC => k_is); (case zzq => k_exc)))
    (case k_TooMany => (refine' My.ck_mk ?zzm ?zzr ?zzt ?zzk ?zzhg ?zzhk ?zzhd ?zzha; (case zzm => k_is); (case zzr => exact rfl); (case zzt => k_is); (case zzk => k_is); (case zzhg => k_is); (case zzhk => k_is); (case zzhd => k_is); (case zzha => k_is)))
    (case k_No => (refine' My.ck_mk ?zzm ?zzr ?zzt ?zzk ?zzhg ?zzhk ?zzhd ?zzha; (case zzm => k_is); (case zzr => exact rfl); (case zzt => k_is); (case zzk => k_is); (case zzhg => k_is); (case zzhk => k_is); (case zzhd => k_is); (case zzha => k_is)))
    (case no_limit => k_is); (case nd => decide); (case pg => k_is); (case hd => k_is); (case po => k_is); (case sa => k_is); (case naF => k_is); (case naD => k_is); (case mk => k_is); (case kp => k_is)
    (case m_init => (refine' My.meth_mk ?zzi ?zzn ?zzl ?zzc ?zzk; (case zzi => k_is); (case zzn => k_is); (case zzl => k_is); (case zzc => k_is); (case zzk => k_is)))
    (case b_Layoutinit => exact .all fun us hl => match us, hl with | [_, _], _ => rfl)
    (case tyC => k_is)
    (case clsC => k_is)
    (case ca => k_is)
    (case cn => k_is)
    (case ct => k_is)
    (case cm => k_is)
    (case rdI => k_is)
    (case rdG => k_is)
    (case fst => k_is)
    (case raR => k_is)
    (case raF => k_is)
    (case raO => k_is)
    (case raS => k_is)
    (case m_add => (refine' My.metho_mk ?zzi ?zzn ?zzf ?zzl ?zzc ?zzk; (case zzi => k_is); (case zzn => k_is); (case zzf => k_is); (case zzl => k_is); (case zzc => k_is); (case zzk => k_is)))
    (case bm_add => exact .all fun us hl => match us, hl with | [_, _], _ => rfl)
    (case m_getitem => (refine' My.metho_mk ?zzi ?zzn ?zzf ?zzl ?zzc ?zzk; (case zzi => k_is); (case zzn => k_is); (case zzf => k_is); (case zzl => k_is); (case zzc => k_is); (case zzk => k_is)))
    (case bm_getitem => exact .all fun us hl => match us, hl with | [_, _], _ => rfl)
    (case m_contains => (refine' My.metho_mk ?zzi ?zzn ?zzf ?zzl ?zzc ?zzk; (case zzi => k_is); (case zzn => k_is); (case zzf => k_is); (case zzl => k_is); (case zzc => k_is); (case zzk => k_is)))
    (case bm_contains => exact .all fun us hl => match us, hl with | [_, _], _ => rfl)
    (case m_len => (refine' My.metho_mk ?zzi ?zzn ?zzf ?zzl ?zzc ?zzk; (case zzi => k_is); (case zzn => k_is); (case zzf => k_is); (case zzl => k_is); (case zzc => k_is); (case zzk => k_is)))
    (case bm_len => exact .all fun us hl => match us, hl with | [_], _ => rfl)
    (case m_bool => (refine' My.metho_mk ?zzi ?zzn ?zzf ?zzl ?zzc ?zzk; (case zzi => k_is); (case zzn => k_is); (case zzf => k_is); (case zzl => k_is); (case zzc => k_is); (case zzk => k_is)))
    (case bm_bool => exact .all fun us hl => match us, hl with | [_], _ => rfl)
    (case m_call => (refine' My.metho_mk ?zzi ?zzn ?zzf ?zzl ?zzc ?zzk; (case zzi => k_is); (case zzn => k_is); (case zzf => k_is); (case zzl => k_is); (case zzc => k_is); (case zzk => k_is)))
    (case bm_call => exact .all fun us hl => match us, hl with | [_, _], _ => rfl)
    (case pr_total => (refine' My.propk_mk ?zzi ?zzg ?zzt ?zzr ?zzl ?zzc ?zzk; (case zzi => k_is); (case zzg => k_is); (case zzt => k_is); (case zzr => k_is); (case zzl => k_is); (case zzc => k_is); (case zzk => k_is)))
    (case bp_total => exact .all fun us hl => match us, hl with | [_], _ => rfl)
    (case pr_constant => (refine' My.propk_mk ?zzi ?zzg ?zzt ?zzr ?zzl ?zzc ?zzk; (case zzi => k_is); (case zzg => k_is); (case zzt => k_is); (case zzr => k_is); (case zzl => k_is); (case zzc => k_is); (case zzk => k_is)))
    (case bp_constant => exact .all fun us hl => match us, hl with | [_], _ => rfl)
    (case st_trees => (refine' My.statk_mk ?zzi ?zzr ?zzl ?zzc ?zzk; (case zzi => k_is); (case zzr => k_is); (case zzl => k_is); (case zzc => k_is); (case zzk => k_is)))
    (case bs_trees => exact .all fun us hl => match us, hl with | [_], _ => rfl)
    (case st_number => (refine' My.statk_mk ?zzi ?zzr ?zzl ?zzc ?zzk; (case zzi => k_is); (case zzr => k_is); (case zzl => k_is); (case zzc => k_is); (case zzk => k_is)))
    (case bs_number => exact .all fun us hl => match us, hl with | [_], _ => rfl)
    (case st_joined => (refine' My.joins_mk ?zzi ?zzr ?zzl ?zzc ?zzk ?zzT ?zzo; (case zzi => k_is); (case zzr => k_is); (case zzl => k_is); (case zzc => k_is); (case zzk => k_is); (case zzT => k_is); (case zzo => exact rfl)))
    (case d_law_kneaded => (refine' My.def_mk KX G ?zzg ?zzl ?zzc ?zzk; (case zzg => k_is); (case zzl => k_is); (case zzc => k_is); (case zzk => k_is)))
    (case d_law_pot_of => (refine' My.def_mk KX G ?zzg ?zzl ?zzc ?zzk; (case zzg => k_is); (case zzl => k_is); (case zzc => k_is); (case zzk => k_is)))
    (case d_law_below => (refine' My.def_mk KX G ?zzg ?zzl ?zzc ?zzk; (case zzg => k_is); (case zzl => k_is); (case zzc => k_is); (case zzk => k_is)))
    (case d_law_pick => (refine' My.def_mk KX G ?zzg ?zzl ?zzc ?zzk; (case zzg => k_is); (case zzl => k_is); (case zzc => k_is); (case zzk => k_is)))
    (case d_is_integer => (refine' My.def_mk KX G ?zzg ?zzl ?zzc ?zzk; (case zzg => k_is); (case zzl => k_is); (case zzc => k_is); (case zzk => k_is)))
    (case d_trimmed => (refine' My.def_mk KX G ?zzg ?zzl ?zzc ?zzk; (case zzg => k_is); (case zzl => k_is); (case zzc => k_is); (case zzk => k_is)))
    (case d_factor_at => (refine' My.def_mk KX G ?zzg ?zzl ?zzc ?zzk; (case zzg => k_is); (case zzl => k_is); (case zzc => k_is); (case zzk => k_is)))
    (case d_added => (refine' My.def_mk KX G ?zzg ?zzl ?zzc ?zzk; (case zzg => k_is); (case zzl => k_is); (case zzc => k_is); (case zzk => k_is)))
    (case d_are_factors => (refine' My.def_mk KX G ?zzg ?zzl ?zzc ?zzk; (case zzg => k_is); (case zzl => k_is); (case zzc => k_is); (case zzk => k_is)))
    (case d_is_from_zero => (refine' My.def_mk KX G ?zzg ?zzl ?zzc ?zzk; (case zzg => k_is); (case zzl => k_is); (case zzc => k_is); (case zzk => k_is)))
    (case d_factors_beside => (refine' My.def_mk KX G ?zzg ?zzl ?zzc ?zzk; (case zzg => k_is); (case zzl => k_is); (case zzc => k_is); (case zzk => k_is)))
    (case d_law_some_factors => (refine' My.def_mk KX G ?zzg ?zzl ?zzc ?zzk; (case zzg => k_is); (case zzl => k_is); (case zzc => k_is); (case zzk => k_is)))
    (case d_law_trimmed => (refine' My.def_mk KX G ?zzg ?zzl ?zzc ?zzk; (case zzg => k_is); (case zzl => k_is); (case zzc => k_is); (case zzk => k_is)))
    (case d_law_right => (refine' My.def_mk KX G ?zzg ?zzl ?zzc ?zzk; (case zzg => k_is); (case zzl => k_is); (case zzc => k_is); (case zzk => k_is)))
    (case d_law => (refine' My.def_mk KX G ?zzg ?zzl ?zzc ?zzk; (case zzg => k_is); (case zzl => k_is); (case zzc => k_is); (case zzk => k_is)))
    (case b_law_kneaded => exact .all fun us hl => match us, hl with | [_, _], _ => rfl)
    (case b_law_pot_of => exact .all fun us hl => match us, hl with | [_], _ => rfl)
    (case b_law_below => exact .all fun us hl => match us, hl with | [_, _], _ => rfl)
    (case b_law_pick => exact .all fun us hl => match us, hl with | [_, _], _ => rfl)
    (case b_is_integer => exact .all fun us hl => match us, hl with | [_], _ => rfl)
    (case b_trimmed => exact .all fun us hl => match us, hl with | [_], _ => rfl)
    (case b_factor_at => exact .all fun us hl => match us, hl with | [_, _], _ => rfl)
    (case b_added => exact .all fun us hl => match us, hl with | [_, _], _ => rfl)
    (case b_are_factors => exact .all fun us hl => match us, hl with | [_], _ => rfl)
    (case b_is_from_zero => exact .all fun us hl => match us, hl with | [_], _ => rfl)
    (case b_factors_beside => exact .all fun us hl => match us, hl with | [_], _ => rfl)
    (case b_law_some_factors => exact .all fun us hl => match us, hl with | [_, _, _], _ => rfl)
    (case b_law_trimmed => exact .all fun us hl => match us, hl with | [_], _ => rfl)
    (case b_law_right => exact .all fun us hl => match us, hl with | [_, _, _], _ => rfl)
    (case b_law => exact .all fun us hl => match us, hl with | [_], _ => rfl)
    (case n_int => k_is); (case n_range => k_is); (case n_abs => k_is); (case n_enumerate => k_is); (case n_len => k_is); (case n_isinstance => k_is); (case n_bool => k_is); (case n_list => k_is); (case n_tuple => k_is); (case n_all => k_is); (case n_sum => k_is); (case n_max => k_is); (case n_repr => k_is)
    (case bindL => exact fun s v => .of_eq rfl)
