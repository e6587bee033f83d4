import PyProof.Rows.All
import Wide.All
import OpenK.AllK
import Wide.FinOn
import HandS.ForMost
import HandS.Walk
import HandS.IsInst
import HandS.Codes
import HandS.Exc
import HandS.ExcInit
import HandS.ExcIs
import HandS.ExcOwn
import HandS.ExcValue
import HandS.FStr
import KE.KExcSuper
import HandS.TryMany
import HandS.Strs
import HandS.Dict
import KE.KDictPairs
import HandS.Style
import HandS.TupAny
import KE.KRevSl
import HandS.TupMul
import HandS.Deep
import PyProof.StrLawsRepr
import HandS.Star
import HandS.SlotsOwn
import HandS.Property
import HandS.ClsMeth
import HandS.Wide
import HandS.Flt
import KE.KTupSum
import KE.KTupTruth
import KE.KOpsOwn
import HandS.ForExc
import HandS.WordsExc
import HandS.ExcField
import PySem.Challenge.RW_layoutswap_k33_records_recognized
set_option Elab.async false
set_option linter.all false
set_option maxRecDepth 100000
set_option maxHeartbeats 0
namespace My
open PySem PySem.Spec PyProof.Rows L2
/-! ### defs whose run shows containers: nothing is being shown around them -/
structure FnG (P : Program) (w : World) (K : PySem.W.Frag) (mg : Str → Option Value) (base : Heap) (CX : CXT) (k : Nat) (f : Addr) (fd : FuncData) (ps : List Str) (sp : Sp) : Prop where
  many : ∀ vs H Q E, sp vs H Q E → vs.length = ps.length
  go : ∀ {A : Around} {outer : List Env} {s : Shared} {H : Hp} {args : Args} {us : List Value} {vs : List V} {Q : VK} {E : XK}, Room k A → A.guards = some [] → Env0 P w K mg base A outer s H → BindsTo s fd args (ps.zip us) → Vals vs us →
    sp vs H Q E → codeAny (model P w) A (.call (.ref f) args) (CR CX outer P w H s Q E) s
theorem guards_deeper {A : Around} {env : Env} (h : A.guards = some []) : (A.deeper env).guards = some [] := by
  first | exact h | (simp [Around.deeper, h]; done)
section
variable {P : Program} {w : World} {K : PySem.W.Frag} {mg : Str → Option Value} {base : Heap} {CX : CXT} {k : Nat} {f : Addr} {fd : FuncData} {ps : List Str} {sp : Sp}
theorem FnG.of (F : FnOk P w K mg base CX k f fd ps sp) : FnG P w K mg base CX k f fd ps sp :=
  ⟨F.len, fun r _ e b v h => F.run _ _ _ _ _ _ _ _ _ r e b v h⟩
/-- a def by its body, where nothing is being shown -/
theorem go_of {x qual : Str} {st : Stmt} {N : List Str} (F : Fun K x qual st f fd) (S : FnScope N ps (defScope st)) (many : ∀ vs H Q E, sp vs H Q E → vs.length = ps.length)
    (hb : ∀ (cdv : Value) (A : Around) (outer : List Env) (s : Shared) (H : Hp) (vs : List V) (Q : VK) (E : XK), Room k (A.deeper (envOfC qual (defScope st) s.heap.objs.size f cdv)) → (A.deeper (envOfC qual (defScope st) s.heap.objs.size f cdv)).guards = some [] →
      sp vs H Q E → ∃ t, PSs (cxOf CX P w K mg base N qual (defScope st) f cdv A outer s H E) (defBody st) t ∧ t { nx := fun _ H' => Q .non H', rt := Q } (start N vs) H) : FnG P w K mg base CX (k + 1) f fd ps sp := by
  obtain ⟨oc, od, kV, doc, pm, an, cdv, ct, osl, e1, lk, hcd⟩ := F.ex
  subst e1
  refine ⟨many, ?_⟩
  intro A outer s H args us vs Q E room quiet e0 bind rel want
  have inK := e0.mod.kin.keeps (h' := s.heap) (fun b o z => (e0.bs b o z).1)
  have nolim := e0.mod.nolimit.keeps (h' := s.heap) (fun b o z => (e0.bs b o z).1)
  have kinds : ∀ y ∈ ps.zip us, (defScope st).names.lookup y.1 = some .local ∨ ((defScope st).names.lookup y.1 = some .cell ∧ ((cellsFrom (s.heap.objs.size + 1) (defScope st).names []).lookup y.1).isSome = true) := by
    rintro ⟨n, v⟩ hy
    have hn := (List.of_mem_zip hy).1
    cases S.par n hn with
    | inl z => exact Or.inl z
    | inr z => exact Or.inr ⟨z, PySem.W.cellsFrom_some _ _ _ (Or.inl z)⟩
  refine codeAny_call_function room.depth (inK _ _ lk) rfl S.co S.gen rfl (PySem.W.codeRec_of inK hcd) (bind _ _ _ _ (wpAny_newFunctionEnv_cells S.kind kinds ?_))
  rintro env rfl s1 ic
  obtain ⟨t, ht, ready⟩ := hb cdv A outer s H vs Q E (room.deeper _) (guards_deeper quiet) want
  have J : Inv (cxOf CX P w K mg base N qual (defScope st) f cdv A outer s H E) [] (start N vs) H s1 := inv_start S room.hd e0 (many _ _ _ _ want) rel ic
  refine ⟨nolim.keeps ic.toInCall.keep, codeAny_func (wpAny_mono (ht.run [] s1 _ H _ J ready) ?_ (fun _ _ z => z))⟩
  intro fl s' hs
  cases fl with
  | next =>
    obtain ⟨σ', H', J', q⟩ := hs
    exact ⟨V.non, H', J'.os, J'.bare, J'.base, J'.hok, rfl, q⟩
  | ret u =>
    obtain ⟨v, σ', H', J', rv, q⟩ := hs
    exact ⟨v, H', J'.os, J'.bare, J'.base, J'.hok, rv, q⟩
  | brk =>
    obtain ⟨_, _, _, z⟩ := hs
    exact (z : False).elim
  | cont =>
    obtain ⟨_, _, _, z⟩ := hs
    exact (z : False).elim
end
section
variable {X : Cx} {CX : CXT} {k : Nat} {f : Addr} {fd : FuncData} {ps : List Str} {sp : Sp} {dvs : List V} {ds : List Value} {E : XK} {x : Str} {p pos : Pos} {e : Expr} {es : List Expr} {t : TA}
/-- a call of such a def from where nothing is being shown -/
theorem pe_callG (F : FnG X.prog X.w X.K X.mg X.base CX k f fd ps sp) (hr : Room k X.A) (quiet : X.A.guards = some []) (hg : Gl X x) (hm : X.mg x = some (.ref f)) (hk : PySem.W.keepIn X.K (.ref f) = true) (hb : Binds X.K fd ps ds) (hd : Vals dvs ds) (hx : Passes CX X E)
    (ha : PA X (e :: es) t) (hdb : (x == ("__debug__" : Str)) = false := by decide) (he : starEach (e :: es) X.env = (false, eval e X.env) :: starEach es X.env := by rfl) (hpl : (backTo pos (starEach es X.env)).any (·.1) = false := by rfl) :
    PE X (.Call (.Name x p) (e :: es) [] pos) (tCall sp dvs E t) := by
  constructor
  intro pins s σ H Q I h
  have args := ha.run pos pins s σ H _ I h
  refine wpAny_Call_Name_kw (ld_glob I hg hm (PySem.W.callWith_K (h₀ := X.base) I.ok.mod.kin hk (thn args ?_) he hpl) hdb)
  rintro us s1 ⟨vs, H1, J, r, want⟩
  have rel := r.append hd
  refine ⟨J.kIn, wpAny_call (codeAny_mono (F.go (A := X.A) hr quiet J.env0 (hb s1 us J.kIn ?_) rel want) ?_)⟩
  · have z := rel.length
    rw [← z]
    exact F.many _ _ _ _ want
  · intro res s' hq
    match res, hq with
    | .error _, hq => exact hx pins σ H1 s1 _ s' J hq
    | .ok (.ret _), hq => exact J.after hq
    | .ok .next, hq => exact False.elim hq
    | .ok .brk, hq => exact False.elim hq
    | .ok .cont, hq => exact False.elim hq
end
/-! ### repr of data -/
structure rRepr (K : PySem.W.Frag) (xs : List V) (H : Hp) (Q : VK) : Prop where
  ex : ∃ x d, xs = [x] ∧ Dp K H x d ∧ d.showable = true ∧ d.canLay0 = true ∧ d.depth ≤ 60 ∧ d.shown.length ≤ sizeLine ∧ Q (.str d.shown) H
theorem call_repr {X : Cx} (quiet : X.A.guards = some []) (hu : X.A.units + 64 < cLine) : CallR X (.builtin "repr") (rRepr X.K) := by
  intro pins s σ H xs us Q I r h
  obtain ⟨x, d, rfl, hd, h1, h2, h3, h4, q⟩ := h
  obtain ⟨u, rfl, ru⟩ := vals1 r
  cases hd with
  | non =>
    cases (show u = Value.none from ru)
    exact PySem.P.repr_of_none ⟨.str "None", H, I.tok _, ⟨_, rfl⟩, by simpa only [PyData.shown] using q⟩
  | bl b =>
    cases (show u = Value.bool b from ru)
    exact PySem.P.repr_of_bool ⟨.str (if b then "True" else "False"), H, I.tok _, ⟨_, rfl⟩, by simpa only [PyData.shown] using q⟩
  | int i =>
    obtain ⟨tk, rfl⟩ := (show ∃ t, u = Value.int i t from ru)
    exact PySem.P.repr_of_int (by simpa only [PyData.showable, decide_eq_true_eq] using h1) ⟨V.str (Str.ofString (toString i)), H, I.tok _, ⟨_, rfl⟩, by simpa only [PyData.shown] using q⟩
  | str z =>
    obtain ⟨tk, rfl⟩ := (show ∃ t, u = Value.str z t from ru)
    exact PySem.P.repr_of_str ⟨.str (reprText z), H, I.tok _, ⟨_, rfl⟩, by simpa only [PyData.shown] using q⟩ (by simpa only [PyData.shown] using h4)
  | @lst a ys ds hs ha =>
    cases (show u = Value.ref a from ru)
    obtain ⟨as, rd⟩ := Dp.reads I (.list ds) (.ref a) (.ref a) (.lst hs ha) rfl
    exact PySem.repr_of_reads' rd h1 (PyData.noDict_hsm (PyData.hasDict_of_canLay _ h2)) quiet (by omega) (fun _ _ z => z) (fun h' v tk k => ⟨.str (PyData.list ds).shown, H, I.kept k, ⟨_, rfl⟩, q⟩) h4
  | @tup a ys ds hs ha =>
    cases (show u = Value.ref a from ru)
    obtain ⟨as, rd⟩ := Dp.reads I (.tuple ds) (.ref a) (.ref a) (.tup hs ha) rfl
    exact PySem.repr_of_reads' rd h1 (PyData.noDict_hsm (PyData.hasDict_of_canLay _ h2)) quiet (by omega) (fun _ _ z => z) (fun h' v tk k => ⟨.str (PyData.tuple ds).shown, H, I.kept k, ⟨_, rfl⟩, q⟩) h4
/-! ### the law's own call -/
/-- only the script may be tracked -/
def One (H : Hp) (a : Addr) : Prop := ∀ b, H b = none ∨ (b = a ∧ ∃ o xs, H b = some (.frz o (.lst xs)))
section
variable {P : Program} {w : World} {K : PySem.W.Frag} {mg mb : Str → Option Value} {k : Nat} {fa a : Addr} {fd : FuncData} {x : Str} {sp : Sp} {s₁ : Shared} {vs : List Value} {ns : List Int}
/-- a law's def run at its call, from an abstract heap that tracks the script or nothing -/
theorem top_run {H : Hp} (KX : K.In s₁.heap) (hns : s₁.heap.Ns mainGlobals mg) (hb : s₁.heap.Ns builtinsNs mb) (hbb : ∀ y : Str, y ≠ "__name__" → mb y = bootBuiltins y) (hlim : s₁.heap.NoLimit) (hg : s₁.gens = #[])
    (ha : s₁.heap.get? a = some { cls := .type "list", data := .seq vs.toArray }) (hr : Room k callerA) (hbind : ∀ (s : Shared) (u : Value), BindsTo s fd ⟨[u], []⟩ [(x, u)])
    (F : ∀ base : Heap, K.In base → base.Ns mainGlobals mg → FnG P w K mg base CX0 k fa fd [x] sp)
    (one : One H a) (free : H a ≠ none → K.lookup a = none) (ok : HOk P w H s₁.heap) (want : sp [.ref a] H (fun v _ => v = .bl true) fun _ _ _ => False) :
    codeAny (model P w) callerA (.call (.ref fa) ⟨[.ref a], []⟩) (fun r s' => r = .ok (.ret (.bool true)) ∧ OldK s₁.heap s'.heap ∧ s'.os = s₁.os ∧ AllBare s'.gens) s₁ := by
  have not_a : ∀ {b : Addr}, b ≠ a → H b = none := fun {b} n => (one b).elim id fun z => (n z.1).elim
  have seen : ∀ {b : Addr} {o : Obj}, s₁.heap.get? b = some o → H b = none → (hidT s₁.heap H).get? b = some o := hidT_get
  have dict_free : ∀ {b : Addr} {o : Obj} {es : Array DictEntry} {ep : Nat}, s₁.heap.get? b = some o → o.data = .dict es ep → H b = none := by
    intro b o es ep e1 e2
    refine not_a fun z => ?_
    subst z
    cases ha.symm.trans e1
    cases e2
  have keepNs : ∀ {b : Addr} {m : Str → Option Value}, s₁.heap.Ns b m → (hidT s₁.heap H).Ns b m := by
    rintro b m ⟨o, es, ep, e1, e2, e3⟩
    exact ⟨o, es, ep, seen e1 (dict_free e1 e2), e2, e3⟩
  have KB : K.In (hidT s₁.heap H) := by
    intro b o e
    refine seen (KX b o e) ?_
    by_cases z : b = a
    · subst z
      cases q : H b with
      | none => rfl
      | some u =>
        have z2 := free (by rw [q]; exact fun z => nomatch z)
        cases z2.symm.trans e
    · exact not_a z
  obtain ⟨ml, l1, l2⟩ := hlim
  have e0 : Env0 P w K mg (hidT s₁.heap H) callerA [] s₁ H := {
    frames := rfl
    mod := ⟨KB, keepNs hns, ⟨mb, keepNs hb, hbb⟩, ⟨ml, keepNs l1, l2⟩⟩
    bs := fun b o e => of_hidT e
    bsz := Nat.le_of_eq (hidT_size _ _)
    funs := trivial
    frf := fun b z => nomatch z
    hok := ok
    bare := .of_eq hg }
  refine codeAny_mono ((F _ KB (keepNs hns)).go (us := [.ref a]) (vs := [.ref a]) hr rfl e0 (hbind s₁ (.ref a)) (.cons rfl .nil) want) ?_
  intro r s' hq
  match r, hq with
  | .ok (.ret u), hq =>
    obtain ⟨v, H', os, bare, un, ok', rv, q⟩ := hq
    subst q
    cases (show u = Value.bool true from rv)
    refine ⟨rfl, OldK.of_keep ?_, os, bare⟩
    intro b o e
    rcases one b with z | ⟨_, ob, xs, z⟩
    · exact un.keep b o e z (fun z => nomatch z) (fun z => nomatch z)
    · have h1 : s₁.heap.get? b = some ob := (ok b _ z).1
      have h2 : s'.heap.get? b = some ob := (ok' b _ (un.frzs b ob _ z)).1
      rw [← h1.symm.trans e]
      exact h2
  | .ok .next, hq => exact False.elim hq
  | .ok .brk, hq => exact False.elim hq
  | .ok .cont, hq => exact False.elim hq
  | .error _, hq => exact False.elim hq
/-- .. from whatever the script is -/
theorem top_call (KX : K.In s₁.heap) (hns : s₁.heap.Ns mainGlobals mg) (hb : s₁.heap.Ns builtinsNs mb) (hbb : ∀ y : Str, y ≠ "__name__" → mb y = bootBuiltins y) (hlim : s₁.heap.NoLimit) (hg : s₁.gens = #[])
    (ha : s₁.heap.get? a = some { cls := .type "list", data := .seq vs.toArray }) (hi : IntsAre vs ns) (hl : ns.length ≤ sizeLine) (hr : Room k callerA) (hbind : ∀ (s : Shared) (u : Value), BindsTo s fd ⟨[u], []⟩ [(x, u)])
    (F : ∀ base : Heap, K.In base → base.Ns mainGlobals mg → FnG P w K mg base CX0 k fa fd [x] sp)
    (want : ∀ H : Hp, One H a → SqL K H a (ns.map V.int) → sp [.ref a] H (fun v _ => v = .bl true) fun _ _ _ => False) :
    codeAny (model P w) callerA (.call (.ref fa) ⟨[.ref a], []⟩) (fun r s' => r = .ok (.ret (.bool true)) ∧ OldK s₁.heap s'.heap ∧ s'.os = s₁.os ∧ AllBare s'.gens) s₁ := by
  have rv := vals_ints hi
  have len := hi.length
  cases hk : K.lookup a with
  | none =>
    let O : Obj := { cls := .type "list", data := .seq vs.toArray }
    let H : Hp := fun b => if b = a then some (.frz O (.lst (ns.map V.int))) else none
    have Ha : H a = some (.frz O (.lst (ns.map V.int))) := if_pos rfl
    have one : One H a := fun b => by
      by_cases z : b = a
      · exact .inr ⟨z, O, ns.map V.int, if_pos z⟩
      · exact .inl (if_neg z)
    refine top_run KX hns hb hbb hlim hg ha hr hbind F one (fun _ => hk) ?_ (want H one (.inl (.inr ⟨O, Ha⟩)))
    intro b u e
    rcases one b with z | ⟨z, _⟩
    · cases z.symm.trans e
    · subst z
      cases Ha.symm.trans e
      exact ⟨ha, by rw [List.length_map]; exact hl, vs, _, rv, ha⟩
  | some o =>
    cases (KX a o hk).symm.trans ha
    have one : One (fun _ => none) a := fun _ => .inl rfl
    refine top_run KX hns hb hbb hlim hg ha hr hbind F one (fun z => absurd rfl z) (fun _ _ z => nomatch z) (want _ one (.inr ⟨_, vs.toArray, _, hk, rfl, rfl, rfl, ?_, ?_⟩))
    · rw [List.size_toArray, len]
      exact hl
    · simpa using rv
end
/-- the end of a law whose def is FnG -/
theorem walk_ofG {l : PySem.W.OpenLaw} {n k : Nat} {q : Program} {loose : List Str} {XP : (Str → Option Value) → Heap → Prop} {YP : World → Heap → Prop} {d : DefRec} {K : Params → PySem.W.Frag} {sp : PySem.W.Frag → Sp} {x : Str}
    (hn : l.most = some n) (hn2 : n ≤ sizeLine) (hdf : d.params.defaults = []) (hr : Room k callerA) (hY : ∀ (w : World) (h : Heap), YP w h → (K w.params).In h)
    (F : ∀ (w : World) (mg : Str → Option Value) (fa : Addr) (h : Heap), (K w.params).In h → h.Ns mainGlobals mg → mg d.name = some (.ref fa) →
      ∃ fd : FuncData, (∀ (s : Shared) (u : Value), BindsTo s fd ⟨[u], []⟩ [(x, u)]) ∧ ∀ base : Heap, (K w.params).In base → base.Ns mainGlobals mg → FnG l.prog w (K w.params) mg base CX0 k fa fd [x] (sp (K w.params)))
    (want : ∀ (K : PySem.W.Frag) (H : Hp) (a : Addr) (ns : List Int), ns.length ≤ n → SqL K H a (ns.map V.int) → sp K [.ref a] H (fun v _ => v = .bl true) fun _ _ _ => False) :
    PySem.W.WalkO q loose XP YP l.row.toRowW d [] (fun f vs => PySem.call f vs) := by
  refine Att.attach_call hn hdf ?_
  intro w s₀ s₁ mg mb fa o pm cd doc a vs ns G Y ho hd hcd hmg hobj hints hlen hg
  obtain ⟨fd, hbind, hF⟩ := F w mg fa _ (hY w _ Y) G.T.g hmg
  exact top_call (hY w _ Y) G.T.g G.T.b G.T.builtins G.T.nolimit hg hobj hints (Nat.le_trans hlen hn2) hr hbind hF fun H _ hS => want _ H a ns hlen hS
/-! ### list(text), text * int -/
abbrev oneS (c : Nat) : Str := ⟨#[c]⟩
def rListS : List V → Hp → VK → Prop := fun xs H Q => ∃ z : Str, xs = [.str z] ∧ z.length ≤ sizeLine ∧ ∀ p, H p = none → Q (.ref p) (upd H p (.lst (z.cps.toList.map fun c => V.str (oneS c))))
theorem call_listS {X : Cx} (calm : X.calm = true) : CallR X (.type "list") rListS := by
  intro pins s σ H xs us Q I r h
  obtain ⟨z, rfl, hz, q⟩ := h
  obtain ⟨u, rfl, tk, rfl⟩ := vals1 r
  refine PySem.call_list_str (I.ok.hd calm) z tk (fun h' t acc c keep new items => ?_) hz
  refine ⟨.ref s.heap.objs.size, upd H s.heap.objs.size (.lst (z.cps.toList.map fun c => V.str (oneS c))), I.laid (t' := t) keep (Nat.le_refl _) ?_, rfl, q _ (I.hok.fresh (Nat.le_refl _))⟩
  refine ⟨?_, acc.toList, c, ?_, by rw [Array.toArray_toList]; exact new⟩
  · rw [List.length_map, Array.length_toList]
    exact hz
  · have len : acc.toList.length = z.cps.toList.length := by rw [Array.length_toList, Array.length_toList]; exact items.1
    have all : ∀ (cs : List Nat) (vs : List Value), vs.length = cs.length → (∀ (j : Nat) (v : Value), vs[j]? = some v → ∃ c u, cs[j]? = some c ∧ v = .str (oneS c) u) → Vals (cs.map fun c => V.str (oneS c)) vs := by
      intro cs
      induction cs with
      | nil =>
        intro vs hl _
        cases vs with
        | nil => exact .nil
        | cons => cases hl
      | cons a r ih =>
        intro vs hl hv
        cases vs with
        | nil => cases hl
        | cons v t =>
          obtain ⟨c, u, e1, e2⟩ := hv 0 v rfl
          cases e1
          exact .cons ⟨u, e2⟩ (ih t (Nat.succ.inj hl) fun j x e => hv (j + 1) x e)
    refine all _ _ len fun j v e => ?_
    rw [Array.getElem?_toList] at e
    obtain ⟨c, u, e1, e2⟩ := items.2 j v e
    exact ⟨c, u, by rw [Array.getElem?_toList]; exact e1, e2⟩
def rRepS : R2 := fun x y H Q => ∃ z n, x = .str z ∧ y = .int n ∧ MulOk z n ∧ Q (.str (Txt.mul z n)) H
theorem op_repS {X : Cx} : OpR X (binaryOp .Mult) rRepS := by
  intro pins s σ H x y v u Q I rx ry h
  obtain ⟨z, n, rfl, rfl, ok, q⟩ := h
  obtain ⟨tx, rfl⟩ := rx
  obtain ⟨ty, rfl⟩ := ry
  exact PySem.SB.mul ok fun t' k => ⟨.str (Txt.mul z n), H, I.tok _, ⟨_, rfl⟩, q⟩
/-- texts joined by nothing -/
theorem joinL_nil : ∀ l : List (List Nat), TL.joinL [] l = l.flatten
  | [] => rfl
  | [p] => by simp [TL.joinL]
  | p :: q :: r => by
    have h := joinL_nil (q :: r)
    show p ++ ([] ++ TL.joinL [] (q :: r)) = _
    rw [h]
    simp
theorem tl_join0 (ys : List Str) : (Txt.join "" ys).cps.toList = (ys.map fun y => y.cps.toList).flatten := by
  rw [TL.join_eq]
  have h := TL.tl_join "" ys
  have h2 : TL.tl ("" : Str) = [] := by decide +kernel
  rw [h2, joinL_nil] at h
  exact h
end My

namespace My
open PySem PySem.Spec PyProof.Rows L2
/-! ### own errors whose __init__ says super().__init__(text) -/
structure SupScope (N ps : List Str) (sc : Scope) : Prop where
  kind : sc.kind = .function
  co : sc.isCoroutine = false
  gen : sc.isGenerator = false
  nd : N.Nodup
  pre : N.take ps.length = ps
  par : ∀ x ∈ ps, sc.names.lookup x = some .local
  nocell : ∀ y ∈ sc.names, y.2 ≠ .cell
  sup : sc.names.lookup ("super" : Str) = some .globalImplicit
  cls : sc.names.lookup ("__class__" : Str) = some .free
  free : ∀ y ∈ sc.names, y.2 = .free → y.1 = ("__class__" : Str)
abbrev supEnv (qual : Str) (sc : Scope) (L f cda cc : Addr) : Env := PySem.W.ksEnv qual sc L f (.ref cda) cc
/-- such an __init__'s body running -/
def cxS (P : Program) (w : World) (K : PySem.W.Frag) (mg : Str → Option Value) (base : Heap) (N : List Str) (qual : Str) (sc : Scope) (f cda cc : Addr) (A : Around) (outer : List Env) (s : Shared) (H : Hp) : Cx where
  prog := P
  w := w
  K := K
  mg := mg
  base := base
  A := A.deeper (supEnv qual sc s.heap.objs.size f cda cc)
  N := N
  s_0 := s
  H_0 := H
  env := supEnv qual sc s.heap.objs.size f cda cc
  outer := outer
  stack := supEnv qual sc s.heap.objs.size f cda cc :: outer
  ex := []
  calm := true
  fn := fun x => !(x == ("__class__" : Str))
  pn := []
  xe := fun _ _ => False
theorem cells_one {cc c : Addr} {x : Str} (h : List.lookup x [(("__class__" : Str), cc)] = some c) : x = "__class__" ∧ c = cc := by
  rw [List.lookup_cons] at h
  split at h
  · rename_i e
    exact ⟨beq_iff_eq.mp e, (Option.some.inj h).symm⟩
  · cases h
theorem lookup_mem {y : Str} {u : Value} : ∀ {l : List (Str × Value)}, (l.map (·.1)).Nodup → (y, u) ∈ l → l.lookup y = some u
  | [], _, h => nomatch h
  | (z, v) :: r, hn, h => by
    rw [List.map_cons, List.nodup_cons] at hn
    rw [List.lookup_cons]
    rcases List.mem_cons.mp h with e | h
    · cases e
      simp
    · have ne : (y == z) = false := by
        refine beq_eq_false_iff_ne.mpr fun e => hn.1 ?_
        rw [← e]
        exact List.mem_map.mpr ⟨(y, u), h, rfl⟩
      rw [ne]
      exact lookup_mem hn.2 h
theorem zip_sub : ∀ (ps : List Str) (us : List Value), ((ps.zip us).map fun q : Str × Value => q.1).Sublist ps
  | [], _ => List.Sublist.refl _
  | _ :: _, [] => List.nil_sublist _
  | p :: ps, u :: us => List.Sublist.cons_cons _ (zip_sub ps us)
theorem zip_lookup {ps : List Str} {us : List Value} {i : Nat} {y : Str} {u : Value} (hn : ps.Nodup) (h1 : ps[i]? = some y) (h2 : us[i]? = some u) : (ps.zip us).reverse.lookup y = some u := by
  refine lookup_mem ?_ ?_
  · rw [List.map_reverse]
    refine List.pairwise_reverse.mpr (List.Pairwise.imp (R := fun a b => a ≠ b) (fun z => Ne.symm z) ?_)
    refine List.Pairwise.sublist ?_ hn
    exact zip_sub ps us
  · rw [List.mem_reverse]
    refine List.mem_of_getElem? (i := i) ?_
    rw [List.getElem?_zip_eq_some]
    exact ⟨h1, h2⟩
section
variable {P : Program} {w : World} {K : PySem.W.Frag} {mg : Str → Option Value} {base : Heap} {N ps : List Str} {qual : Str} {sc : Scope} {f cda cc : Addr} {A : Around} {outer : List Env} {s : Shared} {H : Hp} {us : List Value} {vs : List V}
theorem sup_start {oc : Obj} {v0 : Value} (S : SupScope N ps sc) (hd : A.handled = none) (e0 : Env0 P w K mg base A outer s H) (hl : vs.length = ps.length) (r : Vals vs us) (hc : K.lookup cc = some oc) (hcd : oc.data = .cell (some v0))
    {h : Heap} {t : Nat} (ns : h.Ns s.heap.objs.size (fun x => (ps.zip us).reverse.lookup x)) (keep : ∀ b o, s.heap.get? b = some o → h.get? b = some o) :
    Inv (cxS P w K mg base N qual sc f cda cc A outer s H) [] (L2.start N vs) H { s with heap := h, toks := t } := by
  have noA : ∀ b : Addr, b ∉ (cxS P w K mg base N qual sc f cda cc A outer s H).ex := fun b z => nomatch z
  have cB : base.get? cc = some oc := e0.mod.kin _ _ hc
  have cS := e0.bs _ _ cB
  have pl : ps.length ≤ N.length := by
    have z := congrArg List.length S.pre
    rw [List.length_take] at z
    omega
  constructor
  · constructor
    · exact e0.mod
    · exact S.kind
    · rfl
    · rfl
    · exact Nat.le_refl _
    · intro x y c h1 h2
      exact (cells_one h1).1.trans (cells_one h2).1.symm
    · intro x hx
      have hx : sc.names.lookup x = some .cell ∨ sc.names.lookup x = some .free := hx
      rcases hx with z | z
      · exact absurd rfl (S.nocell _ (PySem.mem_of_lookup z))
      · have e := S.free _ (PySem.mem_of_lookup z) rfl
        exact ⟨cc, by show List.lookup x [(("__class__" : Str), cc)] = some cc; rw [show x = "__class__" from e]; rfl⟩
    · intro x c h1 h2
      have e := (cells_one h2).1
      subst e
      exact absurd (show (!((("__class__" : Str)) == ("__class__" : Str))) = true from h1) (by decide)
    · exact fun _ => hd
    · exact Around.frames_deeper e0.frames
    · exact .inr ⟨rfl, rfl⟩
    · exact fun b z => absurd z (noA b)
    · exact e0.bs
    · exact e0.bsz
    · exact fun b _ _ => noA b
    · exact fun b z => absurd z (noA b)
    · exact e0.funs
    · exact e0.frf
  · rfl
  · exact e0.bare
  · exact Un.kept keep
  · refine ⟨_, ns, fun i y v h1 h2 h3 => ?_⟩
    have hi : i < vs.length := by
      by_cases z : i < vs.length
      · exact z
      · unfold L2.start at h2
        rw [List.getElem?_append_right (by simpa using z), List.getElem?_replicate] at h2
        split at h2 <;> cases h2
    have ha : vs[i]? = some v := by
      unfold L2.start at h2
      rw [List.getElem?_append_left (by simpa using hi), List.getElem?_map, List.getElem?_eq_getElem hi] at h2
      rw [List.getElem?_eq_getElem hi]
      exact Option.some.inj h2
    obtain ⟨u, hu, rv⟩ := r.get ha
    have hp : ps[i]? = some y := by
      rw [← S.pre, List.getElem?_take_of_lt (by omega)]
      exact h1
    have ndp : ps.Nodup := by
      rw [← S.pre]
      exact S.nd.sublist (List.take_sublist _ _)
    refine ⟨u, rv, .inl ⟨S.par y (List.mem_of_getElem? hp), ?_⟩⟩
    exact zip_lookup ndp hp hu
  · intro x c h1
    obtain ⟨_, rfl⟩ := cells_one h1
    exact ⟨_, oc, keep _ _ cS.1, hcd⟩
  · exact e0.hok.fresh (Nat.le_refl _)
  · intro x c h1
    obtain ⟨_, rfl⟩ := cells_one h1
    exact cS.2
  · exact fun p z => nomatch z
  · exact e0.hok.kept keep
  · show (L2.start N vs).length = N.length
    unfold L2.start
    rw [List.length_append, List.length_map, List.length_replicate]
    omega
end
/-- the built-in __init__ bound to an exception, called: its args are laid anew -/
theorem mw_call {prog : Program} {w : World} {A : Around} {E : Value → Shared → Prop} {h : Heap} {g : Array GenState} {d : Drawn} {t : Nat} {os : OsState} {nm q : Str} {C N u x t0 : Addr} {bs bm : List Value} {hdct : Bool} {sn : List Str} {sub : List Value} {ab : Bool} {col : Option Bool}
    {dd : Option Addr} {k0 k1 k2 k3 k5 : Option Value} {rest : List Value} {Q : Value → Shared → Prop} (hC : h.get? C = some (excClassObj nm q C N bs bm hdct sn sub ab col dd k0 k1 k2 k3 k5 "ValueError.__new__")) (hu : h.get? u = some (PySem.W.kxs_mw "ValueError.__init__" x))
    (he : h.get? x = some (PySem.HandSPX.excO C t0)) (hz : rest.length ≤ sizeLine)
    (hq : ∀ h' t1, (∀ b o, b ≠ x → h.get? b = some o → h'.get? b = some o) → h'.get? x = some (PySem.HandSPX.excO C t1) → Q .none ⟨h', g, d, t, os⟩) :
    wpAny (model prog w) A (call (.ref u) rest) Q E ⟨h, g, d, t, os⟩ := by
  refine wpAny_call (codeAny_of_tree ?_)
  show wpAny _ A.in1 (callAny (.ref u) ⟨rest, []⟩) _ _ _
  unfold callAny
  refine wpAny_bind (wpAny_load hu ?_)
  have k : (Value.type "method-wrapper" == Value.type "method" || Value.type "method-wrapper" == Value.type "builtin_function_or_method" || Value.type "method-wrapper" == Value.type "method-wrapper") = true := by decide
  simp only [PySem.W.kxs_mw, k, if_true]
  refine PySem.W.KFB.if_so (by decide) ?_
  refine wpAny_bind (PySem.W.check_bound_init F.excBase_ValueError.toExcCallFacts hC he rfl ?_)
  refine wpAny_bind (wpAny_pure (wpAny_pure ⟨plainId_quiet F.excBase_ValueError.init.plain _, codeAny_builtin F.excBase_ValueError.initEntry ?_⟩))
  exact PySem.W.exc_init_tree (cls := .ref C) (t0 := t0) (dv := none) (c2 := .none) (c3 := .none) (b4 := .bool false) he hz fun h' k1 k2 _ => hq h' h.objs.size k1 k2
/-- what the text and the top say of such a class -/
structure SupCls (P : Program) (K : PySem.W.Frag) (mg : Str → Option Value) (x qual : Str) (st : Stmt) (C fI cc cda : Addr) (fd : FuncData) : Prop where
  gC : mg x = some (.ref C)
  ox : OexC K C
  iC : PySem.W.findIn K (.ref C) "__init__" = some (some (.ref fI))
  tI : PySem.W.typeIn K (.ref fI) = some (.type "function")
  fn : ∃ (oc : Value) (od : Option Addr) (doc pm : Value) (an : Option Addr) (ct : Value) (osl : Array (Option Value)), fd = PySem.W.ksFn "__init__" qual (defArgs st) (defBody st) (defScope st) .none .none doc pm an (.ref cda) ct cc ∧ K.lookup fI = some ⟨oc, od, .func fd, osl⟩
  cdq : PySem.W.codeIn K (.ref cda) qual = true
  code : ∃ (ccl : Value) (cdd : Option Addr) (vs : Array Value) (ccs : Array (Option Value)) (file : Str) (tf : Tok), K.lookup cda = some ⟨ccl, cdd, .fields vs, ccs⟩ ∧ vs[2]? = some (.str file tf) ∧ ((P.main.file : Str) == file) = true
  cell : ∃ (cl : Value) (cld : Option Addr) (csl : Array (Option Value)), K.lookup cc = some ⟨cl, cld, .cell (some (.ref C)), csl⟩
  sub : PySem.W.mroIn K C (.ref C) = some true
  noS : mg "super" = none
  anyC : PySem.W.nsIn K cStatics "thirdparty.any" = some none
  supI : PySem.W.ks_superIn K C C "__init__" = some (some (.builtin "ValueError.__init__"))
  subV : PySem.W.subIn K (.ref C) (.type "ValueError") = some true
  noTop : (P.main.scope.names.lookup ("super" : Str)).isSome = false
theorem boot_super : bootBuiltins "super" = some (.type "super") := by decide +kernel
section
variable {P : Program} {w : World} {K : PySem.W.Frag} {mg : Str → Option Value} {base : Heap}
theorem ok_sup {x qual : Str} {st : Stmt} {C fI cc cda : Addr} {fd : FuncData} {N ps : List Str} {ar : Arg} {k : Nat} {sp : Sp} {p0 p1 p2 p3 p4 : Pos} {msg : Expr} {rest : List Stmt} (T : SupCls P K mg x qual st C fI cc cda fd) (S : SupScope N ps (defScope st))
    (hp : ((defArgs st).posonlyargs ++ (defArgs st).args).head? = some ar) (hps : ps[0]? = some ar.arg) (hbody : defBody st = .Expr (.Call (.Attribute (.Call (.Name "super" p0) [] [] p1) "__init__" p2) [msg] [] p3) p4 :: rest)
    {pl : Sem Bool} (hev : ∀ L : Addr, eval (.Call (.Attribute (.Call (.Name "super" p0) [] [] p1) "__init__" p2) [msg] [] p3) (supEnv qual (defScope st) L fI cda cc) = (do
      let ov ← attributeBase (.Call (.Name "super" p0) [] [] p1) "__init__" (supEnv qual (defScope st) L fI cda cc) (eval (.Call (.Name "super" p0) [] [] p1) (supEnv qual (defScope st) L fI cda cc))
      standAt p2.atName
      let (f, first) ← holding [ov] (getMethod ov "__init__" pl)
      callWith p3 f first (backTo p3 (starEach [msg] (supEnv qual (defScope st) L fI cda cc))) []))
    (hst : ∀ L : Addr, starEach [msg] (supEnv qual (defScope st) L fI cda cc) = [(false, eval msg (supEnv qual (defScope st) L fI cda cc))])
    (len : ∀ vs H Q E, sp vs H Q E → vs.length = ps.length)
    (hb : ∀ (A : Around) (outer : List Env) (s : Shared) (H : Hp) (vs : List V) (Q : VK) (E : XK), Room k (A.deeper (supEnv qual (defScope st) s.heap.objs.size fI cda cc)) → sp vs H Q E →
      ∃ (a : Addr) (tm : TE) (t : TS), vs[0]? = some (.ref a) ∧ H a = some (exo a C none) ∧ PE (cxS P w K mg base N qual (defScope st) fI cda cc A outer s H) msg tm ∧ PSs (cxS P w K mg base N qual (defScope st) fI cda cc A outer s H) rest t ∧
        tm (L2.start N vs) H fun _ H1 => H1 a = some (exo a C none) ∧ t { nx := fun _ H' => Q .non H', rt := Q } (L2.start N vs) H1) :
    FnOk P w K mg base CX0 (k + 1) fI fd ps sp := by
  refine ⟨len, fun A outer s H args us vs Q E hr e0 bind r want => ?_⟩
  obtain ⟨oc, od, doc, pm, an, ct, osl, rfl, lk⟩ := T.fn
  obtain ⟨ccl, cdd, cvs, ccs, file, tf, lkc, hv2, hfile⟩ := T.code
  obtain ⟨cl, cld, csl, lcc⟩ := T.cell
  obtain ⟨nm, qn, NS, bs, bm, sn, sub, ab, col, dd, k0, k1, k2, k3, k5, hC, hbm⟩ := T.ox.cls
  have hl := len _ _ _ _ want
  have KX : K.In s.heap := e0.mod.kin.keeps fun b o z => (e0.bs b o z).1
  have lim : s.heap.NoLimit := e0.mod.nolimit.keeps fun b o z => (e0.bs b o z).1
  obtain ⟨a, tm, t, h0, hexo, pm1, prest, ready⟩ := hb A outer s H vs Q E (hr.deeper _) want
  refine PySem.ks_codeAny_call_defAt (body := defBody st) hr.depth (KX _ _ lk) rfl lim (PySem.W.codeRec_of KX T.cdq) rfl bind S.nocell (fun y hy => ?_) (fun hh hns hk => ?_) S.co S.gen S.kind
  · exact S.par _ (List.of_mem_zip (a := y.1) (b := y.2) hy).1
  have I0 : Inv (cxS P w K mg base N qual (defScope st) fI cda cc A outer s H) [] (L2.start N vs) H { s with heap := hh, toks := s.toks + (ps.zip us).length } := sup_start S hr.hd e0 hl r lcc rfl hns hk
  have KH : K.In hh := KX.keeps hk
  have v0 : us[0]? = some (.ref a) := by
    obtain ⟨u, hu, ru⟩ := r.get h0
    cases (show u = Value.ref a from ru)
    exact hu
  obtain ⟨t0, hea⟩ := exo_at I0.hok hexo
  have hea : hh.get? a = some (PySem.HandSPX.excO C t0) := hea
  -- super().__init__(msg)
  show PySem.wpAt (model P w) (A.deeper (supEnv qual (defScope st) s.heap.objs.size fI cda cc)) (.func (defBody st) (supEnv qual (defScope st) s.heap.objs.size fI cda cc)) (execs (defBody st) (supEnv qual (defScope st) s.heap.objs.size fI cda cc)) _ _ _
  rw [show execs (defBody st) (supEnv qual (defScope st) s.heap.objs.size fI cda cc) = execs (.Expr (.Call (.Attribute (.Call (.Name "super" p0) [] [] p1) "__init__" p2) [msg] [] p3) p4 :: rest) (supEnv qual (defScope st) s.heap.objs.size fI cda cc) from congrArg (fun b => execs b _) hbody]
  obtain ⟨mL, glob, blt⟩ : (∃ m, (⟨hh, s.gens, s.drawn, s.toks + (ps.zip us).length, s.os⟩ : Shared).heap.Ns s.heap.objs.size m) ∧ hh.Ns mainGlobals mg ∧ ∃ mb, hh.Ns builtinsNs mb ∧ ∀ y : Str, y ≠ "__name__" → mb y = bootBuiltins y := by
    refine ⟨⟨_, hns⟩, e0.mod.glob.keeps I0.bk, ?_⟩
    obtain ⟨mb, b1, b2⟩ := e0.mod.blt
    exact ⟨mb, b1.keeps I0.bk, b2⟩
  obtain ⟨mb, b1, b2⟩ := blt
  obtain ⟨cdD, hcdD, oD, hoD, hoD2⟩ : ∃ cdD, PySem.W.clsIn K C = some cdD ∧ ∃ oD, hh.get? C = some oD ∧ oD.data = .cls cdD := by
    refine ⟨{ name := nm, bases := bs, mro := .ref C :: bm, ns := NS, qualname := qn, hasDict := true, slotNames := sn, subclasses := sub, abstract := ab, collection := col, hasDel := false }, ?_, _, KH _ _ hC, rfl⟩
    unfold PySem.W.clsIn
    rw [hC] <;> rfl
  refine PySem.ks_wpAt_execs_cons (PySem.ks_wpAt_Expr_any (PySem.ks_wpAt_MethodCall (pl := pl) ?_ (hev _)) (by unfold interactive; rw [show (supEnv qual (defScope st) s.heap.objs.size fI cda cc).scope.kind = .function from S.kind]; rfl) (by rfl))
  refine PySem.ks_wpAt_super_base (env := supEnv qual (defScope st) s.heap.objs.size fI cda cc) S.sup S.cls (by decide) rfl (KH _ _ lk) rfl hp rfl (KH _ _ lkc) rfl hv2 hfile T.noTop ?_
  refine PySem.W.ks_loadName_global S.kind S.sup (PySem.Calls.loadGlobal_builtin (env := supEnv qual (defScope st) s.heap.objs.size fI cda cc) glob T.noS b1 ((b2 _ (by decide)).trans boot_super) ⟨rfl, ?_⟩)
  refine wpAny_loadName_free S.kind S.cls rfl ⟨_, KH _ _ lcc, rfl⟩ ?_
  refine wpAny_loadName_local S.kind (S.par _ (List.mem_of_getElem? hps)) hns (zip_lookup (i := 0) (by rw [← S.pre]; exact S.nd.sublist (List.take_sublist _ _)) hps v0) ?_
  refine PySem.ks_wpAny_isType_cls hoD hoD2 ⟨rfl, ?_⟩
  refine PySem.ks_wpAny_call_super hoD hoD2 hea rfl (fun c e => nomatch e) (PySem.W.looks_mroIn KH T.sub) (fun h1 hso k1 => ?_)
  have KH1 : K.In h1 := KH.keeps k1
  have hea1 := k1 _ _ hea
  have inst : PySem.W.InstAt h1 a (PySem.HandSPX.excO C t0) C none := ⟨hea1, rfl, rfl, trivial⟩
  have along : PySem.W.alongIn K "__init__" ((cdD.mro.dropWhile (· != .ref C)).drop 1) = some (some (.builtin "ValueError.__init__")) := by
    have z := T.supI
    unfold PySem.W.ks_superIn at z
    rw [hcdD] at z
    exact z
  refine PySem.W.kxs_getMethod PySem.W.kxs_ValueError hso (PySem.W.looks_opaque KH1 T.anyC) (l₀ := cdD.mro) (fun A Q E s k q => wpAny_bind ((PySem.W.looks_clsIn KH1 hcdD) A _ E s k (wpAny_pure q))) rfl KH1 along
    (inst.type.andThen (PySem.W.looks_subIn KH1 T.subV)) (PySem.W.ks_ne KH1 inst hcdD) (by decide) ?_
  show wpAny _ _ (callWith p3 (.ref h1.objs.size) [] (backTo p3 (starEach [msg] (supEnv qual (defScope st) s.heap.objs.size fI cda cc))) []) _ _ _
  rw [hst]
  generalize hu : h1.objs.size = u
  have k2 : ∀ b o, h1.get? b = some o → (h1.push (PySem.W.kxs_mw "ValueError.__init__" a)).get? b = some o := fun b o z => Heap.get?_push_of_some _ z
  have hmw : (h1.push (PySem.W.kxs_mw "ValueError.__init__" a)).get? u = some (PySem.W.kxs_mw "ValueError.__init__" a) := by rw [← hu]; exact Heap.get?_push_size _ rfl
  have I2 := I0.kept (h' := h1.push (PySem.W.kxs_mw "ValueError.__init__" a)) (t' := s.toks + (ps.zip us).length + 1) (fun b o z => k2 b o (k1 b o z))
  have uH : H u = none := by
    rw [← hu]
    exact I0.hok.fresh (Nat.le_of_lt (Heap.lt_size hso))
  have I3 : Inv (cxS P w K mg base N qual (defScope st) fI cda cc A outer s H) [(u, PySem.W.kxs_mw "ValueError.__init__" a)] (L2.start N vs) H _ := I2.pins_of (by
    intro p hp
    rw [List.mem_singleton.mp hp]
    refine ⟨hmw, uH, ?_, ?_, fun v z => nomatch z⟩
    · have z1 : s.heap.objs.size < hh.objs.size := hns.lt
      have z2 := Heap.lt_size hso
      rw [hu] at z2
      exact Nat.ne_of_gt (Nat.lt_trans z1 z2)
    · refine I0.nofs ?_
      rw [← hu]
      exact Nat.le_of_lt (Heap.lt_size hso))
  refine PySem.W.kxs_callWith (i := "ValueError.__init__") (x := a) rfl (PySem.Calls.evalArgs_plain ?_)
  refine PySem.Calls.spliced_cons (wpAny_mono (pm1.run _ _ _ _ _ I3 ready) ?_ (fun _ _ z => z.elim))
  rintro v s1 ⟨y, H1, I4, ry, hexo1, ready1⟩
  refine PySem.Calls.spliced_nil ⟨(I4.pin (u, _) (List.mem_append_right _ List.mem_cons_self)).1, ?_⟩
  obtain ⟨t1, he1⟩ := exo_at I4.hok hexo1
  have hmw1 := (I4.pin (u, _) (List.mem_append_right _ List.mem_cons_self)).1
  have KH4 := I4.kIn
  obtain ⟨hp4, g4, d4, tk4, os4⟩ := s1
  refine mw_call (KH4 _ _ hC) hmw1 he1 (by show 1 ≤ sizeLine; decide) (fun h5 t5 keep5 he5 => ?_)
  have I5 := I4.write (t' := tk4) (x := a) (e := a) (o := exo a C none) (by rw [hexo1]; exact True.intro) (.inl rfl) keep5 ⟨_, he5⟩ (exo_ok he5)
  have eH : upd H1 a (exo a C none) = H1 := by
    funext b
    by_cases hb : b = a
    · rw [hb, upd_same, hexo1]
    · rw [upd_ne hb]
  rw [eH] at I5
  refine PySem.wpAt_of_wpAny (wpAny_mono (prest.run _ _ _ _ _ I5 ready1) ?_ (fun _ _ z => z.elim))
  intro fl s' hs
  cases fl with
  | next =>
    obtain ⟨σ', H', J, q⟩ := hs
    exact ⟨V.non, H', J.os, J.bare, J.base, J.hok, rfl, q⟩
  | ret z =>
    obtain ⟨v', σ', H', J, rv, q⟩ := hs
    exact ⟨v', H', J.os, J.bare, J.base, J.hok, rv, q⟩
  | brk =>
    obtain ⟨_, _, _, z⟩ := hs
    exact (z : False).elim
  | cont =>
    obtain ⟨_, _, _, z⟩ := hs
    exact (z : False).elim
end
/-! ### such an error as a value -/
/-- C(e, ..) as a value: a new error at a, its dict at d -/
def tNewE (C : Addr) (sp : Sp) (ta : TA) : TE := fun σ H Q => ta σ H fun vs H1 => vs.length ≤ 1000 ∧ ∀ a, H1 a = none → sp (.ref a :: vs) (upd H1 a (exo a C none)) (fun v H2 => v = .non ∧ H1 a = none ∧ Q (.ref a) H2) fun _ _ _ => False
theorem pe_oex {X : Cx} {x : Str} {C fI : Addr} {k : Nat} {fd : FuncData} {ps : List Str} {sp : Sp} {e : Expr} {es : List Expr} {ta : TA} {p pos : Pos} (T : OexC X.K C) (iC : PySem.W.findIn X.K (.ref C) "__init__" = some (some (.ref fI))) (tI : PySem.W.typeIn X.K (.ref fI) = some (.type "function"))
    (F1 : FnOk X.prog X.w X.K X.mg X.base CX0 k fI fd ps sp) (hr : Room (k + 1) X.A) (hb : Binds X.K fd ps []) (hg : Gl X x) (hm : X.mg x = some (.ref C)) (ha : PA X (e :: es) ta)
    (hdb : (x == ("__debug__" : Str)) = false := by decide) (he : starEach (e :: es) X.env = (false, eval e X.env) :: starEach es X.env := by rfl) (hpl : (backTo pos (starEach es X.env)).any (·.1) = false := by rfl) :
    PE X (.Call (.Name x p) (e :: es) [] pos) (tNewE C sp ta) := by
  constructor
  intro pins s σ H Q I h
  obtain ⟨nm, q, N, bs, bm, sn, sub, ab, col, dd, k0, k1, k2, k3, k5, hC, hbm⟩ := T.cls
  have args := ha.run pos pins s σ H _ I h
  refine wpAny_Call_Name_kw (ld_glob I hg hm (PySem.W.callWith_K (h₀ := X.base) I.ok.mod.kin T.kC (thn args ?_) he hpl) hdb)
  rintro us s1 ⟨vs, H1, J, r1, hz, want⟩
  refine ⟨J.kIn, ?_⟩
  show wpAny _ _ (call (.ref C) us) _ _ _
  obtain ⟨hp, g, dr, tk, os⟩ := s1
  let a := hp.objs.size + 1
  let h2 : Heap := (hp.push (PySem.W.kdv_tup us)).push (PySem.HandSPX.excO C hp.objs.size)
  have big : hp.objs.size ≤ a := Nat.le_succ _
  have na : H1 a = none := J.hok.fresh big
  have keep : ∀ b o, hp.get? b = some o → h2.get? b = some o := fun b o z => Heap.get?_push_of_some _ (Heap.get?_push_of_some _ z)
  have at2 : h2.get? a = some (PySem.HandSPX.excO C hp.objs.size) := by
    show ((hp.push (PySem.W.kdv_tup us)).push (PySem.HandSPX.excO C hp.objs.size)).get? (hp.objs.size + 1) = _
    heap_get
  have J2 : Inv X pins σ (upd H1 a (exo a C none)) ⟨h2, g, dr, tk, os⟩ := J.laid (t' := tk) (a := a) (o := exo a C none) (h' := h2) keep big (exo_ok at2)
  have rel : Vals (V.ref a :: vs) (Value.ref a :: us) := .cons rfl r1
  have ready := want a na
  have len : (Value.ref a :: us).length = ps.length := by
    rw [← rel.length]
    exact F1.len _ _ _ _ ready
  have lus : us.length ≤ sizeLine := by
    rw [← r1.length, sizeLine_eq]
    omega
  have rel0 : Vals (V.ref a :: vs) (Value.ref a :: us ++ []) := by
    rw [List.append_nil]
    exact rel
  refine wpAny_call (PySem.HandSPX.call_own F.excBase_ValueError (fun Y => PySem.HandSPX.refsVE_contains Y bm hbm) (J.kIn _ _ hC) (PySem.W.looks_findIn J.kIn iC) (fun self => PySem.W.bind_fn J.kIn self tI) lus
    (codeAny_mono (F1.run _ X.stack _ _ ⟨Value.ref a :: us, []⟩ (Value.ref a :: us ++ []) (V.ref a :: vs) _ (fun _ _ _ => False) (hr.make C us []) (J2.env0.make C us []) (hb _ (Value.ref a :: us) J2.kIn (by rw [List.append_nil]; exact len)) rel0 ready) ?_))
  intro r s' hq
  match r, hq with
  | .error _, hq => exact (hq : False).elim
  | .ok .next, hq => exact False.elim hq
  | .ok .brk, hq => exact False.elim hq
  | .ok .cont, hq => exact False.elim hq
  | .ok (.ret u), hq =>
    obtain ⟨v, H2, os2, bare2, un2, ok2, rv, ev, _, q2⟩ := hq
    subst ev
    obtain ⟨hh2, g2, d2, t2, os'⟩ := s'
    exact ⟨rv, .ref a, H2, J2.call' (ch := []) os2 un2 ok2 bare2 (fun b z => nomatch z), rfl, q2⟩
/-! ### e.f of such an error that is tracked -/
def tExf (K : PySem.W.Frag) (f : Str) (te : TE) : TE := fun σ H Q => te σ H fun x H1 => ∃ (a C d : Addr) (fs : List (Str × V)) (v : V), x = .ref a ∧ ExcC K C ∧ PySem.W.findIn K (.ref C) f = some none ∧ H1 a = some (exo a C (some d)) ∧ H1 d = some (exd d fs) ∧ fs.lookup f = some v ∧ Q v H1
theorem pe_exf {X : Cx} {e : Expr} {te : TE} {pos : Pos} {n : Str} (he : PE X e te) (hb : attributeBase e n X.env (eval e X.env) = eval e X.env := by rfl) : PE X (.Attribute e n pos) (tExf X.K n te) := by
  constructor
  intro pins s σ H Q I h
  refine attr_of hb (thn (he.run pins s σ H _ I h) ?_)
  rintro u s1 ⟨x, H1, J, rx, a, C, d, fs, v, rfl, T, hno, ea, ed, hl, q⟩
  cases (show u = Value.ref a from rx)
  obtain ⟨t1, ho⟩ := exo_at J.hok ea
  obtain ⟨mA, hns, hr⟩ := exd_at J.hok ed
  obtain ⟨od, hod, hlk⟩ := lookIn_ns hns
  obtain ⟨w', hw, rw'⟩ := RelO.some_of (v := v) (o := mA n) (by rw [← hl]; exact hr n)
  have inst : PySem.W.InstAt s1.heap a { cls := .ref C, dict := some d, data := .fields #[.ref t1, .none, .none, .none, .bool false, .none] } C (some od) := ⟨ho, rfl, rfl, hod⟩
  exact HandSPX.exc_get J.kIn inst T.hg T.hk T.hs (PySem.W.findObj_own T.hd hno rfl (by rw [hlk, hw])) (handed_of rw') ⟨v, H1, J.tok _, rw', q⟩
/-! ### isinstance of an error that is tracked -/
theorem found_cls {K : PySem.W.Frag} {D : Addr} (T : ExcC K D) (od : Option Obj) : PySem.W.findObj K D od "__class__" = some (.bind (.builtin "getset_descriptor.__get__") (.builtin "object.__class__")) := by
  cases od with
  | none =>
    refine PySem.W.findObj_dataN ?_ T.ha T.hn T.ht
    obtain ⟨cd, e, _⟩ := PySem.W.any_some T.hd
    rw [e] <;> rfl
  | some o =>
    refine PySem.W.findObj_data ?_ T.ha T.hn T.ht
    obtain ⟨cd, e, _⟩ := PySem.W.any_some T.hd
    rw [e] <;> rfl
/-- e.__class__ of an error, with a dict of its own or without -/
theorem err_class {prog : Program} {w : World} {A : Around} {E : Value → Shared → Prop} {s : Shared} {K : PySem.W.Frag} {x D : Addr} {ox : Obj} {od : Option Obj} {Q : Option Value → Shared → Prop} (T : ExcC K D) (X : K.In s.heap) (I : PySem.W.InstAt s.heap x ox D od)
    (h : Q (some (.ref D)) { s with toks := s.toks + 1 }) : wpAny (model prog w) A (getAttr? (.ref x) "__class__") Q E s := by
  obtain ⟨hp, g, d, t, os⟩ := s
  have isD := I.type (M := model prog w)
  have noGo : (Value.builtin "BaseException.__getattribute__" == Value.builtin "object.__getattribute__") = false := by decide +kernel
  have plain : (onTheHeap (Value.ref D) && Value.builtin "BaseException.__getattribute__" == Value.builtin "object.__getattribute__") = false := by
    rw [noGo]
    exact Bool.and_false _
  unfold getAttr? getAttrBy? getAttrBy
  refine wpAny_bind (wpAny_mkText (wpAny_bind (wpAny_attempt (wpAny_holding (wpAny_bind (isD.at (wpAny_bind ((PySem.W.looks_findIn (M := model prog w) X T.hg).at ?_))))))))
  show wpAny _ _ (if (onTheHeap (Value.ref D) && Value.builtin "BaseException.__getattribute__" == Value.builtin "object.__getattribute__") = true then _ else _) _ _ _
  rw [if_neg (by rw [plain]; exact Bool.false_ne_true)]
  unfold getAttrByItsOwn hookBefore
  refine wpAny_bind ?_
  have onHeap : onTheHeap (Value.ref D) = true := rfl
  rw [if_pos onHeap]
  refine (PySem.W.looks_findIn (M := model prog w) X T.hk).at (wpAny_bind (wpAny_attempt (wpAny_holding ?_)))
  unfold callGetattribute boundAndCalled
  rw [if_neg (by exact Bool.false_ne_true), PySem.F.excAttr_ValueError.ga.bind (.ref x)]
  refine wpAny_bind (wpAny_pure ?_)
  show wpAny _ _ (call (.builtin "BaseException.__getattribute__") [.ref x, .str "__class__" t]) _ _ _
  refine wpAny_call (codeAny_call_builtin PySem.F.excAttr_ValueError.ga.plain PySem.F.entry_bexc_ga ?_)
  have sub : PySem.W.Looks (model prog w) hp (isInstance (.ref x) (.type "BaseException")) true := isD.andThen (PySem.W.looks_subIn X T.hs)
  refine @PySem.W.check_slot (model prog w) _ _ ⟨hp, g, d, t + 1, os⟩ "BaseException.__getattribute__" "BaseException" "__getattribute__" (.ref x) [.str "__class__" t] [] _ (by decide +kernel) (by decide +kernel) sub (PySem.F.args_bexc_ga (.ref x) (.str "__class__" t)) ?_
  unfold Builtin.«object.__getattribute__»
  refine wpAny_bind (wpAny_of_eq (a := ((Value.ref x : Value), [Value.str "__class__" t])) (by first | rfl | (simp only [slotArgs]; rfl)) (wpAny_bind (wpAny_pure (wpAny_bind (isD.at (wpAny_bind ((PySem.W.looks_find (M := model prog w) X I (found_cls T od)).at ?_)))))))
  show wpAny _ _ (holding [Value.builtin "object.__class__"] (call (.builtin "getset_descriptor.__get__") [.builtin "object.__class__", .ref x, .ref D]) >>= ret) _ _ _
  refine wpAny_bind (wpAny_holding (wpAny_call (PySem.W.class_get (s := ⟨hp, g, d, t + 1, os⟩) (ox := ox) (od := od) X I T.hm (wpAny_pure ?_))))
  show wpAny _ _ (handedOut (.ref D)) _ _ _
  rw [PySem.W.handedOut_of (v := .ref D) rfl]
  first
    | exact wpAny_pure (wpAny_pure h)
    | exact wpAny_pure h
    | exact wpAny_pure (wpAny_bind (wpAny_pure (wpAny_pure h)))
theorem kitx_err {K : PySem.W.Frag} {x D : Addr} {ox : Obj} {od : Option Obj} (T : ExcC K D) : PySem.W.KitX K (.ref x) (.ref D) (fun h => PySem.W.InstAt h x ox D od) := by
  have Z := PySem.W.handS_kitx_exc (x := x) (ox := ox) T.hg T.hk T.hs T.hd T.ha T.hn T.ht T.hm
  refine ⟨fun _ _ _ I => I.type, fun M h X _ => ?_, Z.ne, fun X I k => err_class T X I k⟩
  obtain ⟨cdD, e, _⟩ := PySem.W.any_some T.hd
  unfold PySem.W.clsIn at e
  split at e
  · rename_i c' d' cd' sl' ho
    intro A' Q' E' s' k q
    unfold isType loadHead
    exact wpAny_bind (wpAny_loadPart (k _ _ (X _ _ ho)) (wpAny_pure q))
  · cases e
/-- an error of the class at C stands at a -/
def ErrAt (H : Hp) (a C : Addr) : Prop := H a = some (ExO (.ref C) a) ∨ ∃ d fs, H a = some (exo a C (some d)) ∧ H d = some (exd d fs)
def rIsX (K : PySem.W.Frag) : List V → Hp → VK → Prop := fun xs H Q => ∃ (a C : Addr) (c : V) (u : Value) (b : Bool), xs = [.ref a, c] ∧ ErrAt H a C ∧ ExcC K C ∧ ClsV c u ∧ PySem.W.kitOne K (.ref C) u = some b ∧ Q (.bl b) H
theorem call_isX {X : Cx} : CallR X (.builtin "isinstance") (rIsX X.K) := by
  intro pins s σ H xs us Q I r h
  obtain ⟨a, C, c, cv, b, rfl, err, T, hc, e, q⟩ := h
  obtain ⟨u1, u2, rfl, r1, r2⟩ := vals2 r
  cases (show u1 = Value.ref a from r1)
  have e2 := hc.eq r2
  subst e2
  rcases err with ea | ⟨d, fs, ea, ed⟩
  · obtain ⟨⟨oe, vs, ho, hz, hd, _⟩, _, _⟩ := I.hok a _ ea
    obtain ⟨oc, od, oda, osl⟩ := oe
    obtain ⟨h1, h2⟩ := hz
    dsimp only at h1 h2 hd
    subst h1 h2 hd
    exact PySem.W.kia_one (PySem.W.handS_kitx_exc T.hg T.hk T.hs T.hd T.ha T.hn T.ht T.hm) I.kIn (show PySem.W.InstAt s.heap a _ C none from ⟨ho, rfl, rfl, trivial⟩) e (fun z => nomatch z) fun tk => ⟨.bl b, H, I.tok tk, rfl, q⟩
  · obtain ⟨t1, ho⟩ := exo_at I.hok ea
    obtain ⟨mA, hns, _⟩ := exd_at I.hok ed
    obtain ⟨od, hod, _⟩ := lookIn_ns hns
    exact PySem.W.kia_one (kitx_err T) I.kIn (show PySem.W.InstAt s.heap a _ C (some od) from ⟨ho, rfl, rfl, hod⟩) e (fun z => nomatch z) fun tk => ⟨.bl b, H, I.tok tk, rfl, q⟩
end My

namespace My
open PySem PySem.Spec PyProof.Rows L2
/-! ### try with several clauses, each with a name -/
/-- what a clause names, where its name stands, what its suite does -/
structure Clause where
  c : Value
  at_ : Nat
  ts : Addr → Value → Option Addr → TS
/-- the ways out of a suite: the clause's name is gone -/
def gone (i : Nat) (D : Ends) : Ends where
  nx := fun σ H => D.nx (σ.set i none) H
  rt := D.rt
  bk := fun σ H => D.bk (σ.set i none) H
  ct := fun σ H => D.ct (σ.set i none) H
/-- what the clauses wish of the body's exception -/
def wEach (K : PySem.W.Frag) (W0 : WX) (D : Ends) : List Clause → WX
  | [] => W0
  | q :: r => fun cls d σ H => ∃ b, PySem.W.exmOne K cls q.c = some b ∧ (b = true → ∀ a, H a = none → q.ts a cls d (gone q.at_ D) (σ.set q.at_ (some (.ref a))) H) ∧ (b = false → wEach K W0 D r cls d σ H)
inductive Clauses (X : Cx) : List ExceptHandler → List Clause → Prop
  | nil : Clauses X [] []
  | cons {x n : Str} {q : Clause} {st : Stmt} {sts : List Stmt} {p1 p2 : Pos} {more : List ExceptHandler} {r : List Clause} (nm : Names X x q.c) (slot : X.N[q.at_]? = some n) (loc : X.env.kindOf n = some .local)
      (body : ∀ (a : Addr) (oe : Obj) (cls : Value) (d : Option Addr) (pn : List (Addr × Obj)), Zc cls d oe → (∃ vs, oe.data = .fields vs) → PSs (X.suite a ((a, oe) :: pn)) (st :: sts) (q.ts a cls d)) (rest : Clauses X more r) :
      Clauses X (.ExceptHandler (some (.Name x p1)) (some n) (st :: sts) p2 :: more) (q :: r)
/-- the place where the clauses are asked -/
structure Landed (X : Cx) (a : Addr) (B : Heap) (sI s : Shared) (pins : List (Addr × Obj)) (σ : L2.St) (H : Hp) (cls : Value) (d : Option Addr) : Prop where
  J : Inv X pins σ H sI
  nb : ∀ b o, sI.heap.get? b = some o → b ∉ frs X.stack → B.get? b = some o
  up : sI.heap.UpToSlots s.heap
  os : s.os = sI.os
  ag : AllBare s.gens
  na : H a = none
  fl : HandSPX.FlyingZ B (X.env :: X.outer) a (Zc cls d) s.heap
section
variable {X : Cx} {a : Addr} {B : Heap} {sI s : Shared} {pins : List (Addr × Obj)} {σ : L2.St} {H : Hp} {cls : Value} {d : Option Addr}
theorem Landed.off (L : Landed X a B sI s pins σ H cls d) (hf : X.env.frame = some X.env.locals) : a ≠ X.env.locals ∧ a ∉ X.fs := by
  obtain ⟨o, vs, e, _, dt⟩ := L.fl.there
  have out : a ∉ frs (X.env :: X.outer) := by
    intro m
    obtain ⟨_, o', e', k⟩ := L.fl.2.2.1.mem m
    cases e.symm.trans e'
    exact k _ dt
  constructor
  · intro z
    refine out (List.mem_filterMap.mpr ⟨_, .head _, ?_⟩)
    rw [hf, z]
  · intro m
    obtain ⟨v, hv, q⟩ := List.mem_filterMap.mp m
    exact out (List.mem_filterMap.mpr ⟨v, .tail _ hv, q⟩)
theorem Landed.here (L : Landed X a B sI s pins σ H cls d) : Inv X pins σ H s := by
  have z := L.J.landed (s' := s) L.nb L.fl.1 L.up L.os L.ag
  exact z
theorem Landed.moved {h : Heap} (L : Landed X a B sI s pins σ H cls d) (f : HandSPX.FlyingZ B (X.env :: X.outer) a (Zc cls d) h) (u : s.heap.UpToSlots h) : Landed X a B sI { s with heap := h } pins σ H cls d :=
  ⟨L.J, L.nb, L.up.trans u, L.os, L.ag, L.na, f⟩
theorem Landed.asked {D : Ends} {W0 : WX} (hs : X.stack = X.env :: X.outer) (hf : X.env.frame = some X.env.locals) (hN : X.N.Nodup) (tk : Takes X W0) (L : Landed X a B sI s pins σ H cls d) :
    ∀ {hds : List ExceptHandler} {l : List Clause}, Clauses X hds l → wEach X.K W0 D l cls d σ H → wpAny (model X.prog X.w) X.A (handleBy (.ref a) X.env hds) (SP X pins D) X.xe s := by
  intro hds l cl
  have ok := L.J.ok
  obtain ⟨offL, offF⟩ := L.off hf
  obtain ⟨o, vs, ho, hz, hd⟩ := L.fl.there
  have S := L.here.suite ho hd L.na offL offF
  induction cl with
  | nil =>
    intro w
    refine wpAny_handleBy_nil ?_
    obtain ⟨_, _, _, o', vs', T, _, _, e', _, d', tb, _⟩ := id L.fl
    unfold PySem.passOn
    refine wpAny_bind (wpAny_field e' d' tb ?_)
    have nn : ¬ ((Value.ref T == Value.none) = true) := by simp
    rw [if_neg nn]
    have out : wpAny (model X.prog X.w) X.A (setFlight (.ref a) X.env.frame) (fun _ t => wpAny (model X.prog X.w) X.A (throw (.ref a) : Sem Flow) (SP X pins D) X.xe t) X.xe s := by
      rw [hf]
      refine HandSPX.setFlight_upZ L.fl fun g hg ug => wpAny_throw (tk _ _ ?_)
      have sky : Sky B X.stack a (Zc cls d) X.env.locals g := by
        rw [hs]
        exact .inr (.inr hg)
      exact ⟨_, _, _, _, _, _, _, _, rfl, L.J, L.nb, L.up.trans ug, sky, L.na, L.os, L.ag, w⟩
    first
      | exact wpAny_bind (wpAny_pure (wpAny_bind out))
      | exact wpAny_bind out
  | @cons x n q st sts p1 p2 more r nm slot loc body rest ih =>
    rintro ⟨b, eb, yes, no⟩
    refine wpAny_handleBy_cons (codeAny_handlers_test ?_) (by intro z; cases z)
    have ty : PySem.W.Looks (model X.prog X.w) s.heap (typeOf (.ref a)) cls := by
      intro A Q E t k z
      refine wpAny_typeOf_ref (k _ _ ho) ?_
      rw [hz.1]
      exact z
    have fits := PySem.W.exm_one (M := model X.prog X.w) L.here.kIn ty eb
    have named : ∀ {Q E : Value → Shared → Prop}, Q q.c s → wpAny (model X.prog X.w) (X.A.mark (some (.ref a))) (eval (.Name x p1) X.env) Q E s := by
      intro Q E z
      obtain ⟨g1, g2, g3⟩ := nm
      rcases g3 with g3 | ⟨g3, g4, g5⟩
      · exact ld_glob (X := X.suite a ((a, o) :: (X.pn ++ pins))) S g1 g3 z g2
      · exact ld_blt (X := X.suite a ((a, o) :: (X.pn ++ pins))) S g1 g3 g4 z g5 g2
    refine named (fits.here ?_)
    cases b with
    | false =>
      show wpAny _ X.A (handleBy (.ref a) X.env more) _ _ _
      exact ih (no rfl)
    | true =>
      refine codeAny_handlers_suite_as ?_
      refine HandSPX.lands_againZ L.fl fun g fg ug => ?_
      have Lm := L.moved fg ug
      obtain ⟨o2, _, e2, z2, d2⟩ := fg.there
      have S2 := Lm.here.suite e2 d2 L.na offL offF
      refine store_ok (X := X.suite a ((a, o2) :: (X.pn ++ pins))) (v := .ref a) S2 hN slot (.inl loc) rfl (fun t St => ?_) (.inr loc)
      have run := (body a o2 cls d (X.pn ++ pins) z2 ⟨_, d2⟩).run [] t _ H (gone q.at_ D) St (yes rfl a L.na)
      refine wpAny_mono run (fun f t6 post => ?_) (fun _ _ z => False.elim z)
      have close : ∀ {σ6 : L2.St} {H6 : Hp} {R : Shared → Prop}, Inv (X.suite a ((a, o2) :: (X.pn ++ pins))) [] σ6 H6 t6 → (∀ t7, Inv X pins (σ6.set q.at_ none) H6 t7 → R t7) →
          wpAny (model X.prog X.w) X.A (do bindName X.env n .none; unbindBehindTheSuite X.env n p2) (fun _ t7 => R t7) X.xe t6 := by
        intro σ6 H6 R I6 k
        exact gone_ok (I6.unsuite ok) hN slot loc k
      match f, post with
      | .next, ⟨_, _, I6, w6⟩ => exact close I6 fun t7 J7 => ⟨_, _, J7, w6⟩
      | .brk, ⟨_, _, I6, w6⟩ => exact close I6 fun t7 J7 => ⟨_, _, J7, w6⟩
      | .cont, ⟨_, _, I6, w6⟩ => exact close I6 fun t7 J7 => ⟨_, _, J7, w6⟩
      | .ret u, ⟨_, _, _, I6, r6, w6⟩ => exact close I6 fun t7 J7 => ⟨_, _, _, J7, r6, w6⟩
end
theorem ps_try_each {X : Cx} {body : List Stmt} {h0 : ExceptHandler} {hds : List ExceptHandler} {l : List Clause} {pos : Pos} {tb : WX → TS} {W0 : WX} (hs : X.stack = X.env :: X.outer) (hf : X.env.frame = some X.env.locals) (hN : X.N.Nodup) (tk : Takes X W0)
    (hb : ∀ (W : WX) (pn : List (Addr × Obj)) (xe : Value → Shared → Prop), Takes (X.tr pn xe) W → PassesOwn (model X.prog X.w) X.A X.env xe → PSs (X.tr pn xe) body (tb W)) (cl : Clauses X (h0 :: hds) l) :
    PS X (.Try body (h0 :: hds) [] [] pos) (fun D σ H => tb (wEach X.K W0 D l) D σ H) := by
  constructor
  intro pins s σ H D I h
  have ok := I.ok
  have fr : X.A.frames = some (X.env :: X.outer) := ok.frames.trans (congrArg some hs)
  refine wpAny_Try_except ?_
  refine wpAny_mono ((hb (wEach X.K W0 D l) (X.pn ++ pins)
    (fun e s1 => wpAny (model X.prog X.w) X.A (noteFrame e X.env) (fun _ s2 => wpAny (model X.prog X.w) X.A (setFlight e none) (fun _ s3 =>
      wpAny (model X.prog X.w) X.A (handleBy e X.env (h0 :: hds)) (SP X pins D) X.xe s3) X.xe s2) X.xe s1) ?_ PassesOwn.looking).run [] s σ H D (I.toTry _) h) ?_ (fun _ _ z => z)
  · rintro u s1 ⟨a, B, sI, pins1, σ1, H1, cls, d, rfl, J, nb, up, sky, na, os, ag, w⟩
    show wpAny (model X.prog X.w) X.A (noteFrame (.ref a) X.env) _ _ _
    have sky1 : Sky B (X.env :: X.outer) a (Zc cls d) X.env.locals s1.heap := by
      rw [← hs]
      exact sky
    refine Sky.land Zc.steady fr hf sky1 fun g fg ug => ?_
    have L : Landed X a B sI { s1 with heap := g } pins σ1 H1 cls d := ⟨J.ofTry ok, nb, up.trans ug, os, ag, na, fg⟩
    exact L.asked hs hf hN tk cl w
  · intro f s1 post
    match f, post with
    | .next, ⟨_, _, I6, w6⟩ => exact wpAny_execs_nil ⟨_, _, I6.ofTry ok, w6⟩
    | .brk, ⟨_, _, I6, w6⟩ => exact ⟨_, _, I6.ofTry ok, w6⟩
    | .cont, ⟨_, _, I6, w6⟩ => exact ⟨_, _, I6.ofTry ok, w6⟩
    | .ret u, ⟨_, _, _, I6, r6, w6⟩ => exact ⟨_, _, _, I6.ofTry ok, r6, w6⟩
end My

namespace My
open PySem PySem.Spec PyProof.Rows L2
/-! ### a set of texts, made of a list -/
def addU (us : List Str) (x : Str) : List Str := if us.any (· == x) then us else us ++ [x]
/-- each text once, in the order of the first ones -/
def uniq (xs : List Str) : List Str := xs.foldl addU []
theorem uniq_take {xs : List Str} {i : Nat} (h : i < xs.length) : uniq (xs.take (i + 1)) = addU (uniq (xs.take i)) (xs.getD i Str.empty) := by
  unfold uniq
  rw [List.take_succ, List.getElem?_eq_getElem h, Option.toList_some, List.foldl_append, List.getD_eq_getElem?_getD, List.getElem?_eq_getElem h]
  rfl
theorem addU_any (us : List Str) (x y : Str) : (addU us x).any (· == y) = (us.any (· == y) || decide (y = x)) := by
  unfold addU
  split
  · rename_i h
    by_cases e : y = x
    · rw [e, h]
      rfl
    · rw [decide_eq_false e, Bool.or_false]
  · rw [List.any_append]
    congr 1
    by_cases e : y = x
    · subst e
      simp
    · have n : (x == y) = false := beq_eq_false_iff_ne.mpr fun z => e z.symm
      simp [n, e]
theorem addU_len (us : List Str) (x : Str) : (addU us x).length = if us.any (· == x) then us.length else us.length + 1 := by
  unfold addU
  split
  · rfl
  · rw [List.length_append]
    rfl
theorem addU_le (us : List Str) (x : Str) : (addU us x).length ≤ us.length + 1 := by
  rw [addU_len]
  split <;> omega
theorem uniq_le (xs : List Str) : ∀ i, i ≤ xs.length → (uniq (xs.take i)).length ≤ i := by
  intro i
  induction i with
  | zero =>
    intro _
    rw [List.take_zero]
    exact Nat.le_refl 0
  | succ i ih =>
    intro h
    rw [uniq_take h]
    have z := ih (by omega)
    have y := addU_le (uniq (xs.take i)) (xs.getD i Str.empty)
    omega
theorem fold_len : ∀ (xs us : List Str), us.Nodup → (xs.foldl addU us).length ≤ us.length + xs.length ∧ ((xs.foldl addU us).length = us.length + xs.length ↔ (us ++ xs).Nodup)
  | [], us, hn => by simp [hn]
  | x :: r, us, hn => by
    by_cases h : us.any (· == x) = true
    · have e : addU us x = us := if_pos h
      obtain ⟨a, b⟩ := fold_len r us hn
      rw [List.foldl_cons, e, List.length_cons]
      refine ⟨by omega, ⟨fun z => by omega, fun z => ?_⟩⟩
      obtain ⟨y, hy, ey⟩ := List.any_eq_true.mp h
      have ey : y = x := beq_iff_eq.mp ey
      subst ey
      exact absurd rfl ((List.nodup_append.mp z).2.2 y hy y List.mem_cons_self)
    · have e : addU us x = us ++ [x] := if_neg h
      have nx : x ∉ us := fun z => h (List.any_eq_true.mpr ⟨x, z, beq_self_eq_true x⟩)
      have hn2 : (us ++ [x]).Nodup := by
        refine List.nodup_append.mpr ⟨hn, List.nodup_cons.mpr ⟨(fun z => nomatch z), List.nodup_nil⟩, fun a ha b hb => ?_⟩
        rw [List.mem_singleton.mp hb]
        exact fun z => nx (z ▸ ha)
      obtain ⟨a, b⟩ := fold_len r (us ++ [x]) hn2
      rw [List.foldl_cons, e, List.length_cons]
      rw [List.length_append, List.length_cons, List.length_nil] at a b
      refine ⟨by omega, ?_⟩
      rw [show us.length + (r.length + 1) = us.length + (0 + 1) + r.length by omega, b, List.append_assoc]
      rfl
theorem uniq_len (xs : List Str) : (uniq xs).length ≤ xs.length ∧ ((uniq xs).length = xs.length ↔ xs.Nodup) := by
  obtain ⟨a, b⟩ := fold_len xs [] List.nodup_nil
  rw [List.length_nil, Nat.zero_add, List.nil_append] at *
  exact ⟨a, b⟩
section
variable {P : Program} {w : World} {A : Around} {R : Result → Shared → Prop} {it : Addr} {fp wr : List Addr} {G : Array GenState → Array GenState → Prop} {n : Nat} {V1 : Nat → Value → Prop} {St1 : Nat → Shared → Prop}
theorem setOf_moved {a : Addr} {us : List Str} {st st' : Shared} {wr : List Addr} {G : Array GenState → Array GenState → Prop} (h : st.heap.SetOf (PySem.strKind P w) a (fun y => us.any (· == y)) us.length) (m : Moved wr G st st') (ha : a ∉ wr) : st'.heap.SetOf (PySem.strKind P w) a (fun y => us.any (· == y)) us.length := by
  obtain ⟨ob, e1, e2, e3, hob, more⟩ := h
  exact ⟨ob, e1, e2, e3, m.heap a _ ha hob, more⟩
theorem loop_texts (W : WalksS P w A.in1 it fp wr G n V1 St1) (a : Addr) (ha : a ∉ fp) {xs : List Str} (hn : n = xs.length) (hval : ∀ i v, V1 i v → ∃ t, v = .str (xs.getD i Str.empty) t) (hb : n + 1 < scanBound) :
    ∀ (m i : Nat) (st : Shared), i + m = n → St1 i st → st.heap.SetOf (PySem.strKind P w) a (fun y => (uniq (xs.take i)).any (· == y)) (uniq (xs.take i)).length →
      (∀ st', Moved (a :: wr) G st st' → st'.heap.SetOf (PySem.strKind P w) a (fun y => (uniq (xs.take n)).any (· == y)) (uniq (xs.take n)).length → R (.ok (.ret .none)) st') →
      codeAny (model P w) A (.builtin "set.update.loop" ⟨[.ref a, .ref it], []⟩) R st := by
  have ha2 : a ∉ wr := fun z => ha (W.sub _ z)
  intro m
  induction m with
  | zero =>
    intro i st him hst hS hR
    obtain rfl : i = n := him
    refine codeAny_builtin PyProof.Rows.F.entry_set_update_loop ?_
    rw [Around.under_plainId PyProof.Rows.F.plain_set_update_loop _]
    show wpAny _ A.in1 (pyNext (.ref it) >>= _) _ _ st
    refine wpAny_bind (W.done st _ _ hst fun st' mv => ?_)
    show wpAny _ A.in1 (ret Value.none) _ _ st'
    exact wpAny_pure (hR st' (mv.mono fun b hb => List.mem_cons_of_mem _ hb) (setOf_moved hS mv ha2))
  | succ m ih =>
    intro i st him hst hS hR
    have hi : i < n := by omega
    refine codeAny_builtin PyProof.Rows.F.entry_set_update_loop ?_
    rw [Around.under_plainId PyProof.Rows.F.plain_set_update_loop _]
    show wpAny _ A.in1 (pyNext (.ref it) >>= _) _ _ st
    refine wpAny_bind (W.item i st _ _ hi hst fun v st1 hv hst1 mv => ?_)
    obtain ⟨tk, rfl⟩ := hval i v hv
    have hS1 := setOf_moved hS mv ha2
    show wpAny _ A.in1 (holding [Value.str (xs.getD i Str.empty) tk] (setAdd a (.str (xs.getD i Str.empty) tk)) >>= _) _ _ st1
    refine wpAny_bind (wpAny_holding ?_)
    unfold setAdd
    refine wpAny_holding (wpAny_bind ((PySem.strKind P w).pyHash (k := xs.getD i Str.empty) (strKind_is _ _ _ _) ?_))
    have few := uniq_le xs i (by omega)
    refine wpAny_setAddHashed_of (knd := PySem.strKind P w) (s := { st1 with toks := st1.toks + 1 }) (strKind_is _ _ _ _) rfl hS1 (by omega) fun h2 only hS2 => ?_
    have hS3 : h2.SetOf (PySem.strKind P w) a (fun y => (uniq (xs.take (i + 1))).any (· == y)) (uniq (xs.take (i + 1))).length := by
      refine SetOf_congr hS2 (fun y => ?_) ?_
      · rw [uniq_take (by omega), addU_any]
      · rw [uniq_take (by omega), addU_len]
    refine wpAny_pure ⟨plainId_quiet PyProof.Rows.F.plain_set_update_loop _, ih (i + 1) _ (by omega) (W.frame _ st1 _ _ hst1 (Nat.le_succ _) fun b hb o e => ?_) hS3 fun st2 mv2 hS4 => hR st2 (Moved.trans W.gtrans ((mv.mono fun b hb => List.mem_cons_of_mem _ hb).then_heap (Nat.le_succ _) fun b o hb e => ?_) mv2) hS4⟩
    · rw [only.2 b fun z => ha (z ▸ hb)]
      exact e
    · rw [only.2 b fun z => hb (z ▸ List.mem_cons_self)]
      exact e
end
/-- what a new set looks like ahead of its first item -/
abbrev bareSet (led : Bool) : Obj := { cls := .type "set", dict := none, data := .set #[] 0 (.fresh 0 0 led) }
section
variable {P : Program} {w : World} {A : Around} {E : Value → Shared → Prop} {st : Shared}
/-- .. the heap behind the call: old things stay, the texts stand in the set at a, once each -/
def Made (P : Program) (w : World) (h0 : Heap) (a : Addr) (xs : List Str) (h1 : Heap) : Prop := h1.SetOf (PySem.strKind P w) a (fun y => (uniq xs).any (· == y)) (uniq xs).length ∧ ∀ b ob, b < h0.objs.size → h0.get? b = some ob → h1.get? b = some ob
theorem set_texts {l : Addr} {its : Array Value} {xs : List Str} {Q : Value → Shared → Prop} (hh : A.handled = none) (hl : st.heap.IsList l its) (hx : PyProof.Rows.StrsAre its.toList xs) (few : xs.length + 1 < scanBound)
    (done : ∀ h1 tk, Made P w st.heap st.heap.objs.size xs h1 → Q (.ref st.heap.objs.size) { st with heap := h1, toks := tk }) : wpAny (model P w) A (call (.type "set") [.ref l]) Q E st := by
  obtain ⟨c1, c2, order⟩ := PySem.F.called_set.mro
  have f1 := PySem.F.called_set.made
  have f2 := PySem.F.called_set.sub
  refine wpAny_call (codeAny_of_tree ?_)
  show wpAny _ _ (callAny (.type "set") _) _ _ _
  refine wpAny_pure ⟨Code.quiet_builtin _ (by decide +kernel), codeAny_builtin PySem.F.entry_type_call ?_⟩
  rw [Around.under_plain (weight_type_call_type "set" [.ref l] []) rfl]
  have f3 := PySem.F.called_set.notType
  have f4 := PySem.F.called_set.canCreate
  have f5 := PySem.F.typeCall_set_1 (.ref l)
  repeat (any_goals (first | assumption | wp_step))
  refine codeAny_mono (code_set_new_1 (.ref l) (E := E) (Q₁ := fun v s1 => ∃ led : Bool, v = .ref st.heap.objs.size ∧ s1 = { st with heap := st.heap.push (bareSet led) }) fun led => ⟨led, rfl, rfl⟩) fun r s1 hr => ?_
  cases r with
  | error e => exact hr
  | ok fl =>
    cases fl with
    | ret obj =>
      obtain ⟨led, rfl, rfl⟩ := hr
      have here : (st.heap.push (bareSet led)).get? st.heap.objs.size = some (bareSet led) := Heap.get?_push_size _ rfl
      have isSet : Shared.TypeIs { st with heap := st.heap.push (bareSet led) } (.ref st.heap.objs.size) "set" := ⟨_, here, rfl⟩
      have f6 := PySem.F.called_set.init.lookup
      have f7 := PySem.F.called_set.init.bind (.ref st.heap.objs.size)
      repeat (any_goals (first | assumption | wp_step))
      refine codeAny_mono (codeAny_call_builtin (R := wants (fun v s2 => v = .none ∧ ∃ h1 tk, s2 = { st with heap := h1, toks := tk } ∧ Made P w st.heap st.heap.objs.size xs h1) E) PySem.F.called_set.init.plain PySem.F.entry_set_init (check_set_init_1 isSet ?_)) fun r2 s2 hr2 => ?_
      · obtain ⟨⟨k1, k2, k3, k4⟩, lat, lc, nl, ld⟩ := hl
        dsimp only at lc ld
        subst lc ld
        have lat1 : (st.heap.push (bareSet led)).get? l = some { cls := .type "list", dict := k2, data := .seq its nl, slots := k4 } := Heap.get?_push_of_some _ lat
        have g1 := PySem.F.sub_list_set
        have g2 := PySem.F.sub_list_frozenset
        have g3 : (Value.type "list" == Value.type "dict") = false := by decide
        have isL : (st.heap.push (bareSet led)).IsList l its := ⟨_, lat1, rfl, nl, rfl⟩
        have low : l < st.heap.objs.size := Heap.lt_size lat
        unfold Builtin.«set.__init__» noKeywords Builtin.Frozenset.updateFrom
        generalize again : pyIter = PI
        wp_walk
        subst again
        refine wpAny_pyIter_list isL (wpAny_bind (wpAny_runValue ?_))
        have top : (st.heap.push (bareSet led)).objs.size = st.heap.objs.size + 1 := Heap.size_push ..
        have size : its.size = xs.length := by rw [← Array.length_toList, ← StrsAre.len_eq hx]
        refine loop_texts ((Walks.list (by simp [hh]) _ l (by rw [top]; exact Nat.ne_of_lt (Nat.lt_succ_of_lt low)) its).toS) st.heap.objs.size ?_ size (fun i v hv => SS.strs_at hx i v (by rw [Array.getElem?_toList]; exact hv)) (by rw [size]; exact few) its.size 0 _ (Nat.zero_add _) ⟨⟨_, Heap.get?_push_size _ rfl, rfl, rfl⟩, isL.push _⟩ ?_ ?_
        · rw [top]
          simp only [List.mem_cons, List.mem_singleton, List.not_mem_nil, or_false, not_or]
          exact ⟨Nat.ne_of_lt (Nat.lt_succ_self _), Nat.ne_of_gt low⟩
        · exact PyProof.Rows.SetOf_congr ((PyProof.Rows.setObjOf_fresh (knd := PySem.strKind P w) led).setOf (Heap.get?_push_of_some _ here) (by unfold scanBound; omega)) (fun _ => rfl) rfl
        · intro s3 mv hS
          rw [size, List.take_length] at hS
          obtain ⟨h3, g3, d3, t3, o3⟩ := s3
          obtain rfl : g3 = st.gens := mv.gens
          obtain rfl : d3 = st.drawn := mv.drawn
          obtain rfl : o3 = st.os := mv.os
          show wpAny _ _ _ _ _ _
          refine wpAny_pure ?_
          show wpAny _ _ (ret Value.none) _ _ _
          refine wpAny_pure ⟨rfl, h3, t3, rfl, hS, fun b ob hb e => mv.heap b ob ?_ (Heap.get?_push_of_some _ (Heap.get?_push_of_some _ e))⟩
          rw [top]
          simp only [List.mem_cons, List.mem_singleton, List.not_mem_nil, or_false, not_or]
          exact ⟨Nat.ne_of_lt hb, Nat.ne_of_lt (Nat.lt_succ_of_lt hb)⟩
      · cases r2 with
        | error e => exact hr2
        | ok fl2 =>
          cases fl2 with
          | ret v =>
            obtain ⟨rfl, h1, tk, rfl, made⟩ := hr2
            repeat (any_goals (first | assumption | wp_step))
            exact done _ _ made
          | _ => exact hr2.elim
    | _ => exact hr.elim
end
end My

namespace My
open PySem PySem.Spec PyProof.Rows L2
/-- len(set(xs)), xs a list of texts -/
def tLenSetT (K : PySem.W.Frag) (ta : TE) : TE := fun σ H Q => ta σ H fun x H1 => ∃ (l : Addr) (xs : List Str), x = .ref l ∧ SqL K H1 l (xs.map V.str) ∧ xs.length ≤ 30 ∧ Q (.int (uniq xs).length) H1
theorem pe_lenSetT {X : Cx} {a : Expr} {ta : TE} {p p2 q pos : Pos} (hc : X.calm = true) (hg : Gl X "len") (hm : X.mg "len" = none) (hg2 : Gl X "set") (hm2 : X.mg "set" = none) (ha : PE X a ta)
    (na : starEach [a] X.env = (false, eval a X.env) :: starEach [] X.env := by rfl) : PE X (.Call (.Name "len" p) [.Call (.Name "set" p2) [a] [] q] [] pos) (tLenSetT X.K ta) := by
  refine ⟨fun pins s σ H Q I h => ?_⟩
  refine Call_ (ld_blt I hg hm boot_len (PyProof.Rows.callWith_builtin1 (PyProof.Rows.args_cons ?_ rfl) rfl rfl))
  refine Call_ (ld_blt I hg2 hm2 boot_set (PyProof.Rows.callWith_type1 (PyProof.Rows.args_cons (thn (ha.run pins s σ H _ I h) fun v s1 hv => PyProof.Rows.args_nil ?_) na) na rfl))
  obtain ⟨x, H1, I1, r1, l, xs, rfl, hq, few, q1⟩ := hv
  cases r1
  obtain ⟨its, r, pl, hz⟩ := I1.list hq
  refine set_texts (I1.ok.hd hc) pl.isList (by simpa using strsAre_of r) (by unfold scanBound; omega) fun h1 tk made => PyProof.Rows.args_nil ?_
  obtain ⟨⟨ob, es, ep, t, ho, hex, hd, _, _, _, hf, hn⟩, old⟩ := made
  have I2 : Inv X pins σ H1 { s1 with heap := h1, toks := tk } := I1.kept fun b o e => old b o (Heap.lt_size e) e
  have z := (uniq_len xs).1
  exact call_len_set ho hex hd hf (by rw [hn]; omega) ⟨.int (uniq xs).length, H1, I2.tok _, ⟨_, by rw [hn]⟩, q1⟩
/-! ### a list != [] , whatever stands in it -/
def rNeNil : R2 := fun x y H Q => ∃ (a b : Addr) (xs : List V), x = .ref a ∧ y = .ref b ∧ H a = some (.lst xs) ∧ H b = some (.lst []) ∧ Q (.bl (!xs.isEmpty)) H
theorem op_neNil {X : Cx} (hu : X.A.units + 64 < cLine) : OpR X (compareOp .NotEq) rNeNil := by
  intro pins s σ H x y v u Q I rx ry h
  obtain ⟨a, b, xs, rfl, rfl, ha, hb, q⟩ := h
  cases rx
  cases ry
  obtain ⟨z, its, n, r, hl, e⟩ := I.lstM ha
  obtain ⟨z2, its2, n2, r2, hl2, e2⟩ := I.lstM hb
  have l1 : s.heap.IsList a its.toArray := ⟨_, e, rfl, n, rfl⟩
  have l2 : s.heap.IsList b its2.toArray := ⟨_, e2, rfl, n2, rfl⟩
  have l0 : its2 = [] := by
    cases its2 with
    | nil => rfl
    | cons => cases hl2
  subst l0
  cases xs with
  | nil =>
    have l3 : its = [] := by
      cases its with
      | nil => rfl
      | cons => cases hl
    subst l3
    exact SeqAt.RcNeAt.lists l1 l2 rfl (by omega) (e := fun _ => true) (fun j h1 h2 => absurd h1 (Nat.not_lt_zero j)) _ _ _ _ ⟨.bl false, H, I, rfl, q⟩
  | cons x0 r0 =>
    have big : its.length = r0.length + 1 := hl.symm
    exact SeqAt.RcNeAt.lists_lengths l1 l2 (by simp only [List.size_toArray, big, List.length_nil]; rfl) (by omega) _ _ _ _ ⟨.bl true, H, I, rfl, q⟩
end My

namespace My
open PySem PySem.Spec PyProof.Rows L2
/-! ### tuple(list), the new object told; dict of such a tuple of pairs -/
def rTupleF (K : PySem.W.Frag) : List V → Hp → VK → Prop := fun xs H Q => ∃ p ys, xs = [.ref p] ∧ SqL K H p ys ∧ ∀ l o, H l = none → o.dict = none → Q (.ref l) (upd H l (.frz o (.tup ys)))
theorem call_tupleF {X : Cx} : CallR X (.type "tuple") (rTupleF X.K) := by
  intro pins s σ H xs us Q I r h
  obtain ⟨p, ys, rfl, hq, q⟩ := h
  obtain ⟨u, rfl, rx⟩ := vals1 r
  cases rx
  obtain ⟨its, r', pl, hz⟩ := I.list hq
  have hlen := r'.length
  refine call_tuple_list pl.isList (fun h' kp => ?_) (by simp only [List.size_toArray] <;> omega)
  have I1 : Inv X pins σ H { s with heap := h' } := I.kept (t' := s.toks) kp
  have I2 : Inv X pins σ (upd H h'.objs.size (.frz { cls := .type "tuple", data := .seq its.toArray } (.tup ys))) { s with heap := h'.push { cls := .type "tuple", data := .seq its.toArray } } :=
    I1.laid (t' := s.toks) (fun b o e => Heap.get?_push_of_some _ e) (Nat.le_refl _) (show ObjOk X.prog X.w _ _ _ (.frz _ (.tup ys)) from ⟨Heap.get?_push_size _ rfl, hz, its, r', IsTup.new _ _⟩)
  exact ⟨.ref h'.objs.size, _, I2, rfl, q _ _ (I1.hok.fresh (Nat.le_refl _)) rfl⟩
/-- the pairs at ps as values -/
theorem pairs_at {X : Cx} {pins : List (Addr × Obj)} {σ : L2.St} {H : Hp} {s : Shared} (I : Inv X pins σ H s) : ∀ {ps : List Addr} {kvs : List (Key × V)}, Paired (fun p kv => SqT X.K H p [kV kv.1, kv.2]) ps kvs →
    ∃ (prs : List (Key × Value)) (raw : List (Value × Value)), KV kvs prs ∧ prs.length = ps.length ∧ raw.length = ps.length ∧ ∀ (j : Nat) (k v : Value), raw[j]? = some (k, v) → ∃ (b : Addr) (x : Key), ps[j]? = some b ∧ PySem.PairAt s.heap b k v ∧ prs[j]? = some (x, v) ∧ keyIs x k = true
  | _, _, .nil => ⟨[], [], .nil, rfl, rfl, fun j k v e => by simp at e⟩
  | _, _, .cons (a := p) (b := kv) h t => by
    obtain ⟨prs, raw, r, l1, l2, hp⟩ := pairs_at I t
    obtain ⟨its, rv, ht, _⟩ := I.tuple h
    obtain ⟨u, y, rfl, ru, ry⟩ := vals2 rv
    refine ⟨(kv.1, y) :: prs, (u, y) :: raw, .cons ⟨rfl, ry⟩ r, by rw [List.length_cons, List.length_cons, l1], by rw [List.length_cons, List.length_cons, l2], fun j k v e => ?_⟩
    cases j with
    | zero =>
      cases e
      exact ⟨p, kv.1, rfl, .inl ht, rfl, kV_is (P := X.prog) (w := X.w) ru⟩
    | succ j => exact hp j k v e
def rDictT (K : PySem.W.Frag) : List V → Hp → VK → Prop := fun xs H Q => ∃ (a : Addr) (ps : List Addr) (kvs : List (Key × V)) (o : Obj), xs = [.ref a] ∧ H a = some (.frz o (.tup (ps.map V.ref))) ∧ o.dict = none ∧ Paired (fun p kv => SqT K H p [kV kv.1, kv.2]) ps kvs ∧ ∀ q, H q = none → Q (.ref q) (upd H q (.dK (mergeK [] kvs)))
theorem call_dictT {X : Cx} (calm : X.calm = true) : CallR X (.type "dict") (rDictT X.K) := by
  intro pins s σ H xs us Q I r h
  obtain ⟨a, ps, kvs, o, rfl, ha, hd, hp, q⟩ := h
  obtain ⟨u, rfl, rx⟩ := vals1 r
  cases rx
  obtain ⟨ho, hz, its, rv, o2, ho2, hc, n, hdat⟩ := I.hok a _ ha
  cases ho.symm.trans ho2
  have ei := refs_at rv
  subst ei
  obtain ⟨prs, raw, rel, l1, l2, hpr⟩ := pairs_at I hp
  rw [List.length_map] at hz
  refine PySem.call_dict_pairs (knd := mixKind X.prog X.w) (kvs := prs) (PySem.PairArg.tuple a (ps.map Value.ref).toArray (fun j => ps.getD j 0) raw) (I.ok.hd calm) ⟨⟨o, n, ho, hc, hd, hdat⟩, ?_, fun j k v e => ?_⟩ ⟨by rw [l1, l2], fun j k v e => ?_⟩ (by rw [l2]; exact hz) fun h' tk hd' keep => ?_
  · rw [List.size_toArray, List.length_map, l2]
  · obtain ⟨b, x, e1, e2, e3, e4⟩ := hpr j k v e
    have eb : ps.getD j 0 = b := by rw [List.getD_eq_getElem?_getD, e1]; rfl
    show (ps.map Value.ref).toArray[j]? = some (.ref (ps.getD j 0)) ∧ PySem.PairAt s.heap (ps.getD j 0) k v
    rw [eb]
    exact ⟨by simp [e1], e2⟩
  · obtain ⟨b, x, e1, e2, e3, e4⟩ := hpr j k v e
    exact ⟨x, e3, e4⟩
  · have hm : (s.heap.objs.size == sysModules) = false := beq_eq_false_iff_ne.mpr (Nat.ne_of_gt I.big)
    have hlen : (mergeK [] kvs).length ≤ sizeLine := by
      have z := length_mergeK kvs []
      rw [List.length_nil, Nat.zero_add, rel.length, l1] at z
      omega
    have k : ∀ b u, s.heap.get? b = some u → h'.get? b = some u := fun b u e => keep b u (fun z => nomatch z) e
    exact ⟨.ref s.heap.objs.size, upd H s.heap.objs.size (.dK (mergeK [] kvs)), I.laid (t' := tk) k (Nat.le_refl _) (show ObjOk X.prog X.w _ _ _ (.dK (mergeK [] kvs)) from ⟨hlen, hm, merged [] prs, KV.merge rel .nil, hd'⟩), rfl, q _ (I.hok.fresh (Nat.le_refl _))⟩
end My

namespace My
open PySem PySem.Spec PyProof.Rows L2
/-! ### weaker words for + and slices of tuples: some tuple with these items, all else the same -/
def rCatX : R2 := fun x y H Q => ∃ a b xs ys, x = .ref a ∧ y = .ref b ∧ Rd H a (.tup xs) ∧ Rd H b (.tup ys) ∧ xs.length + ys.length ≤ sizeLine ∧ ∀ r H', Same H H' → Rd H' r (.tup (xs ++ ys)) → Q (.ref r) H'
theorem op_catX {X : Cx} : OpR X (binaryOp .Add) rCatX := by
  intro pins s σ H x y v u Q I rx ry h
  obtain ⟨a, b, xs, ys, rfl, rfl, ha, hb, hz, q⟩ := h
  refine op_catA pins s σ H _ _ v u Q I rx ry ⟨a, b, xs, ys, rfl, rfl, .inl ha, .inl hb, hz, fun e => ?_, fun _ e => ?_, fun _ _ p hp => ?_⟩
  · subst e
    exact q b H (L2.Same.refl H) hb
  · subst e
    exact q a H (L2.Same.refl H) (by rw [List.append_nil]; exact ha)
  · refine q p _ (fun c o e => ?_) (.inl upd_same)
    rw [upd_ne (ne_of_none e hp)]
    exact e
def rSlX : V → Option Int → Option Int → Hp → VK → Prop := fun x lo hi H Q => ∃ a xs, x = .ref a ∧ Rd H a (.tup xs) ∧ ∀ r H', Same H H' → Rd H' r (.tup (cutV xs lo hi)) → Q (.ref r) H'
theorem sl_X {X : Cx} : SlR X rSlX := by
  intro pins s σ H x v vl vu lo hi sl Q I rx hs pl pu h
  obtain ⟨a, xs, rfl, hx, q⟩ := h
  refine sl_tupA pins s σ H _ v vl vu lo hi sl Q I rx hs pl pu ⟨a, xs, rfl, .inl hx, fun w => ?_, fun _ p hp => ?_⟩
  · refine q a H (L2.Same.refl H) ?_
    unfold cutV
    rw [w.1, w.2, List.drop_zero, Nat.sub_zero, List.take_length]
    exact hx
  · refine q p _ (fun c o e => ?_) (.inl upd_same)
    rw [upd_ne (ne_of_none e hp)]
    exact e
/-! ### t[::-1] of a tuple -/
section
open MeetsSeq MeetsSeq2 MeetsSeq3 SeqRoads2
variable {P : Program} {w : World} {A : Around} {E : Value → Shared → Prop} {st : Shared}
theorem applied_back {sl : Addr} {v1 v2 v3 : Value} {n : Nat} {Q : Int × Int × Nat → Shared → Prop} (hs : st.heap.IsSliceOf sl v1 v2 v3) (p1 : IsPart v1 none) (p2 : IsPart v2 none) (p3 : IsPart v3 (some (-1)))
    (h : Q ((n : Int) - 1, -1, n) st) : wpAny (model P w) A (Builtin.Slice.sliceApplied (.ref sl) (pure (n : Int))) Q E st := by
  obtain ⟨ob, at1, cl1, da1⟩ := id hs
  unfold Builtin.Slice.sliceApplied Builtin.Slice.sliceFields
  refine wpAny_bind (wpAny_bind (wpAny_field at1 da1 (x := v1) rfl (wpAny_bind (wpAny_field at1 da1 (x := v2) rfl (wpAny_bind (wpAny_field at1 da1 (x := v3) rfl (wpAny_pure ?_)))))))
  refine wpAny_bind (HT.slicePart_ p3 ?_)
  show wpAny _ _ (if ((-1 : Int) == 0) = true then _ else _) _ _ st
  rw [if_neg (by decide)]
  refine wpAny_bind (HT.slicePart_ p1 (wpAny_bind (HT.slicePart_ p2 (wpAny_bind (wpAny_pure ?_)))))
  have adj : Builtin.Slice.sliceAdjust none none (-1) (n : Int) = ((n : Int) - 1, -1) := rfl
  have pla : Builtin.Slice.slicePlaces ((n : Int) - 1) (-1) (-1) = n := by
    unfold Builtin.Slice.slicePlaces
    rw [if_neg (by decide)]
    by_cases z : (n : Int) - 1 > -1
    · rw [if_pos z, show (- -1 : Int) = 1 by decide, Int.ediv_one]
      omega
    · rw [if_neg z]
      omega
  show wpAny _ _ (match Builtin.Slice.sliceAdjust none none (-1) (n : Int) with | (lo, hi) => pure (lo, (-1 : Int), Builtin.Slice.slicePlaces lo hi (-1))) _ _ st
  rw [adj]
  show wpAny _ _ (pure ((n : Int) - 1, (-1 : Int), Builtin.Slice.slicePlaces ((n : Int) - 1) (-1) (-1))) _ _ st
  rw [pla]
  exact wpAny_pure h
theorem fm_congr {α β : Type} {f g : α → Option β} : ∀ {l : List α}, (∀ a ∈ l, f a = g a) → l.filterMap f = l.filterMap g
  | [], _ => rfl
  | a :: r, h => by
    rw [List.filterMap_cons, List.filterMap_cons, h a List.mem_cons_self, fm_congr fun b hb => h b (List.mem_cons_of_mem _ hb)]
theorem pick_back (its : Array Value) : ((List.range its.size).filterMap fun (m : Nat) => its[(((its.size : Int) - 1) + (m : Int) * (-1)).toNat]?).toArray = its.toList.reverse.toArray := by
  have e : (List.range its.size).filterMap (fun (m : Nat) => its[(((its.size : Int) - 1) + (m : Int) * (-1)).toNat]?) = ((List.range its.size).map fun k => its.size - 1 - k).filterMap (its[·]?) := by
    rw [List.filterMap_map]
    refine fm_congr fun m hm => ?_
    have z := List.mem_range.mp hm
    have y : (((its.size : Int) - 1) + (m : Int) * (-1)).toNat = its.size - 1 - m := by omega
    show its[(((its.size : Int) - 1) + (m : Int) * (-1)).toNat]? = its[its.size - 1 - m]?
    rw [y]
  rw [e, PySem.W.krv_range, List.filterMap_reverse, PySem.W.krv_all]
theorem tuple_back {a sl : Addr} {its : Array Value} {v1 v2 v3 : Value} {Q : Value → Shared → Prop} (ht : IsTup st.heap a its) (hs : st.heap.IsSliceOf sl v1 v2 v3) (p1 : IsPart v1 none) (p2 : IsPart v2 none) (p3 : IsPart v3 (some (-1)))
    (h : Q (.ref st.heap.objs.size) { st with heap := st.heap.push { cls := .type "tuple", data := .seq its.toList.reverse.toArray } }) (few : its.size ≤ sizeLine) : wpAny (model P w) A (getItem (.ref a) (.ref sl)) Q E st := by
  have ok : sizeOk (.seq its.toList.reverse.toArray) := by
    show its.toList.reverse.toArray.size ≤ sizeLine
    rw [List.size_toArray, List.length_reverse, Array.length_toList]
    exact few
  obtain ⟨ob, at1, cl1, da1⟩ := id hs
  have isS : st.TypeIs (.ref sl) "slice" := ⟨ob, at1, cl1⟩
  unfold getItem
  try with_reducible refine wpAny_holding ?_
  first | refine wpAny_bind (wpAny_pure ?_) | skip
  refine wpAny_bind (wpAny_sequenceKey ht.typeIs (by decide) ?_)
  refine wpAny_bind (wpAny_callSpecial?_slot (name := Str.ofString "__getitem__") ht.typeIs PyProof.Rows.slot_tuple_getitem
    (wpAny_call_entry PyProof.Rows.slot_tuple_getitem ht.typeIs PyProof.Rows.entry_tuple_getitem ?_ (PyProof.Rows.args_tuple_getitem _ _)))
  show wpAny _ _ (Builtin.Tuple.tupleItemsOf (.ref a) >>= _) _ _ st
  refine wpAny_bind (PyProof.Rows.tupleItemsOf_ ht (wpAny_bind (wpAny_typeOf isS ?_)))
  rw [if_pos (by decide)]
  refine wpAny_bind (applied_back hs p1 p2 p3 ?_)
  have no : ¬ (((((its.size : Nat) : Int) - 1) == 0 && (-1 : Int) == 1 && its.size == its.size) = true) := by
    rw [show ((-1 : Int) == 1) = false by decide, Bool.and_false, Bool.false_and]
    decide
  show wpAny _ _ (if ((((its.size : Nat) : Int) - 1) == 0 && (-1 : Int) == 1 && its.size == its.size) = true then _ else _) _ _ st
  rw [if_neg no, pick_back]
  first
    | exact wpAny_bind (m := Builtin.Tuple.tupleExact _) (wpAny_newObj_type (wpAny_pure ⟨_, rfl, wpAny_pure h⟩) ok)
    | exact wpAny_bind (m := Builtin.Tuple.tupleExact _) (wpAny_newObj_type (wpAny_bind (wpAny_pure (wpAny_pure ⟨_, rfl, wpAny_pure h⟩))) ok)
    | exact wpAny_bind (wpAny_bind (m := Builtin.Tuple.tupleExact _) (wpAny_newObj_type (wpAny_pure (wpAny_pure ⟨_, rfl, wpAny_pure h⟩)) ok))
    | exact wpAny_bind (wpAny_bind (m := Builtin.Tuple.tupleExact _) (wpAny_newObj_type (wpAny_pure ⟨_, rfl, wpAny_pure h⟩) ok))
end
/-- t[::-1] -/
def tRevT (K : PySem.W.Frag) (te : TE) : TE := fun σ H Q => te σ H fun x H1 => ∃ a xs, x = .ref a ∧ SqT K H1 a xs ∧ ∀ p, H1 p = none → Q (.ref p) (upd H1 p (.tup xs.reverse))
theorem pe_revT {X : Cx} {e : Expr} {te : TE} {k : Nat} {p1 p2 p3 pos : Pos} (he : PE X e te) : PE X (.Subscript e (.Slice none none (some (.UnaryOp .USub (.Constant (.int 1) k p1) p2)) p3) pos) (tRevT X.K te) := by
  refine ⟨fun pins s σ H Q I h => Subscript_ (thn (he.run pins s σ H _ I h) fun v s1 hv => ?_)⟩
  obtain ⟨x, H1, I1, r1, a, xs, rfl, hx, q⟩ := hv
  cases r1
  have part : PO X (some (.UnaryOp .USub (.Constant (.int 1) k p1) p2)) (tPart (tUn (rU fun i => .int (-i)) (tC (.int 1)))) := po_some (pe_un un_neg pe_int)
  refine wpAny_Slice (thn (po_none.run pins s1 σ H1 (fun o H2 => o = none ∧ H2 = H1) I1 ⟨rfl, rfl⟩) fun vl s2 h2 => ?_)
  obtain ⟨_, H2, I2, pl, rfl, rfl⟩ := h2
  refine thn (po_none.run pins s2 σ H2 (fun o H3 => o = none ∧ H3 = H2) I2 ⟨rfl, rfl⟩) fun vu s3 h3 => ?_
  obtain ⟨_, H3, I3, pu, rfl, rfl⟩ := h3
  refine thn (part.run pins s3 σ H3 (fun o H4 => o = some (-1) ∧ H4 = H3) I3 ⟨1, rfl, -1, rfl, rfl, rfl⟩) fun vs s4 h4 => ?_
  obtain ⟨_, H4, I4, ps, rfl, rfl⟩ := h4
  have I5 : Inv X pins σ H4 { s4 with heap := s4.heap.push { cls := .type "slice", data := .fields #[vl, vu, vs] } } := I4.kept (t' := s4.toks) fun b ob q => Heap.get?_push_of_some _ q
  obtain ⟨its, r, ht, hz⟩ := I5.tuple hx
  have hlen := r.length
  show wpAny (model X.prog X.w) X.A (subscriptTail e (.Slice none none (some (.UnaryOp .USub (.Constant (.int 1) k p1) p2)) p3) (.ref a) (.ref s4.heap.objs.size)) (EP X pins σ Q) X.xe { s4 with heap := s4.heap.push { cls := .type "slice", data := .fields #[vl, vu, vs] } }
  refine tail_any (ops := [.ref a, .ref s4.heap.objs.size]) ht.typeIs (PyProof.Rows.slot_tuple_getitem.lookup) ?_ (by with_unfolding_all rfl)
  refine tuple_back ht (Heap.IsSliceOf.new _ vl vu vs) pl pu ps ?_ (by rw [List.size_toArray]; omega)
  exact ⟨.ref _, _, I5.laid (t' := s4.toks) (o := .tup xs.reverse) (fun b ob q => Heap.get?_push_of_some _ q) (Nat.le_refl _) ⟨by rw [List.length_reverse]; exact hz, _, r.reverse, IsTup.new _ _⟩, rfl, q _ (I5.hok.fresh (Nat.le_refl _))⟩
end My

namespace My
open PySem PySem.Spec PyProof.Rows L2
/-! ### xs.extend(t) -/
theorem ext_tup (l : Addr) (items : Array Value) (n : Nat) (b : Addr) (dd : Option Addr) (sl : Array (Option Value)) (items2 : Array Value) (n2 : Nat) (hs0 : ¬(!items.isEmpty && Builtin.List.listTooLong (items.size + items2.size)) = true) (hs1 : items.size ≤ sizeLine) (hs2 : items.size + items2.size ≤ sizeLine + 1) :
    Meets (Builtin.«list.extend» ⟨[.ref l, .ref b], []⟩) (fun _ R s => s.heap.get? l = some { cls := .type "list", dict := none, data := .seq items n, slots := #[] } ∧ s.heap.get? b = some { cls := .type "tuple", dict := dd, data := .seq items2 n2, slots := sl } ∧ R (.ok (.ret Value.none)) { s with heap := s.heap.update l (Obj.mapSeq fun x => x ++ items2), toks := s.toks }) :=
  .of_wp fun prog w A R s h => by
    obtain ⟨hp, g, d, tk, os⟩ := s
    obtain ⟨hl, hb, h⟩ := h
    have f1 := AutoSeq1.idx_int
    have f2 := AutoSeq1.sub_tuple_tuple
    have f3 := AutoSeq1.sub_list_list
    have f4 := AutoSeq1.sub_tuple_list
    have f5 := AutoSeq1.sub_list_tuple
    have hz' : (items ++ items2).size ≤ sizeLine + 1 := by rw [Array.size_append]; exact hs2
    wp_walk using (wpAny_updateSeq hl rfl (hz := hs1) (_hz' := hz')), AutoSeq1.wpAny_loadPart' hl, AutoSeq1.wpAny_loadPart' hb
    exact ⟨_, rfl, h⟩
def rExtendT (K : PySem.W.Frag) : V → List V → Hp → VK → Prop := fun x vs H Q => ∃ l b xs zs, x = .ref l ∧ vs = [.ref b] ∧ H l = some (.lst xs) ∧ SqT K H b zs ∧ xs.length + zs.length ≤ sizeLine ∧ Q .non (upd H l (.lst (xs ++ zs)))
theorem mt_extendT {X : Cx} : MtR X "list.extend" (rExtendT X.K) := by
  intro pins s σ H x vs v us Q I rx rv h
  obtain ⟨l, b, xs, zs, rfl, rfl, hH, hB, hz, q⟩ := h
  cases rx
  obtain ⟨u, rfl, ru⟩ := rv.one
  cases ru
  obtain ⟨z, its, n, r, hl, e⟩ := I.lstM hH
  obtain ⟨its2, r2, ⟨⟨cls, dd, data, sl⟩, ho, hc, n2, hd⟩, hz2⟩ := I.tuple hB
  simp only at hc hd
  subst hc hd
  have hl2 := r2.length
  have hsz : its.toArray.size + its2.toArray.size ≤ sizeLine := by rw [List.size_toArray, List.size_toArray]; omega
  have hlong : ¬ (!its.toArray.isEmpty && Builtin.List.listTooLong (its.toArray.size + its2.toArray.size)) = true := by
    rw [notLongL hsz, Bool.and_false]
    exact Bool.false_ne_true
  refine call_meets F.slot_list_extend ⟨_, e, rfl⟩ F.entry_list_extend (F.args_list_extend_2 _ _)
    (ext_tup l its.toArray n b dd sl its2.toArray n2 hlong (by rw [List.size_toArray]; omega) (by omega)) ⟨e, ho, ?_⟩
  refine ⟨.non, _, I.lset (its' := its ++ its2) hH e (by simp) (r.append r2) ?_, rfl, q⟩
  rw [List.length_append]
  omega
/-! ### t * n, some tuple with these items -/
theorem tuple_mulSame (l : Addr) (items : Array Value) (n : Nat) (dd : Option Addr) (sl : Array (Option Value)) (u : Tok) :
    Meets (Builtin.«tuple.__mul__» ⟨[.ref l, .int 1 u], []⟩) (fun _ R s => s.heap.get? l = some { cls := .type "tuple", dict := dd, data := .seq items n, slots := sl } ∧ R (.ok (.ret (Value.ref l))) s) :=
  .of_wp fun prog w A R s h => by
    obtain ⟨hp, g, d, tk, os⟩ := s
    obtain ⟨hl, h⟩ := h
    have f1 := AutoSeq1.idx_int
    have c1 : (items.isEmpty || (1 : Int) == 1) = true := by rw [show ((1 : Int) == 1) = true by decide, Bool.or_true]
    wp_walk using AutoSeq1.wpAny_loadPart' hl
    repeat (first
      | (refine wpAny_ite_true c1 ?_; wp_walk using AutoSeq1.wpAny_loadPart' hl)
      | (refine wpAny_ite_false (by decide) ?_; wp_walk using AutoSeq1.wpAny_loadPart' hl))
    exact ⟨_, rfl, h⟩
theorem tuple_mulZero (l : Addr) (items : Array Value) (n : Nat) (dd : Option Addr) (sl : Array (Option Value)) (u : Tok) (he : items.isEmpty = false) :
    Meets (Builtin.«tuple.__mul__» ⟨[.ref l, .int 0 u], []⟩) (fun _ R s => s.heap.get? l = some { cls := .type "tuple", dict := dd, data := .seq items n, slots := sl } ∧ R (.ok (.ret (Value.ref s.heap.objs.size))) { s with heap := s.heap.push { cls := Value.type "tuple", data := Data.seq #[] }, toks := s.toks }) :=
  .of_wp fun prog w A R s h => by
    obtain ⟨hp, g, d, tk, os⟩ := s
    obtain ⟨hl, h⟩ := h
    have f1 := AutoSeq1.idx_int
    have c1 : (items.isEmpty || (0 : Int) == 1) = false := by rw [he]; decide
    have c2 : (decide ((0 : Int) ≤ 0) || items.isEmpty) = true := by rw [he]; decide
    wp_walk using AutoSeq1.wpAny_loadPart' hl
    repeat (first
      | (refine wpAny_ite_false (decide_eq_false (by rw [c1]; exact Bool.false_ne_true)) ?_; wp_walk using AutoSeq1.wpAny_loadPart' hl)
      | (refine wpAny_ite_true (decide_eq_true c2) ?_; wp_walk using AutoSeq1.wpAny_loadPart' hl)
      | (refine wpAny_ite_true c2 ?_; wp_walk using AutoSeq1.wpAny_loadPart' hl)
      | (refine wpAny_ite_false (by decide) ?_; wp_walk using AutoSeq1.wpAny_loadPart' hl))
    exact ⟨_, rfl, h⟩
def rRepX : R2 := fun x y H Q => ∃ l k xs, x = .ref l ∧ y = .int k ∧ Rd H l (.tup xs) ∧ xs ≠ [] ∧ 0 ≤ k ∧ k ≤ 1000 ∧ xs.length ≤ 1000 ∧ ∀ r H', Same H H' → Rd H' r (.tup (List.replicate k.toNat xs).flatten) → Q (.ref r) H'
theorem op_repX {X : Cx} : OpR X (binaryOp .Mult) rRepX := by
  intro pins s σ H x y v u Q I rx ry h
  obtain ⟨l, k, xs, rfl, rfl, hT, hne, h1, h2, hz, q⟩ := h
  have new : ∀ (p : Addr) (zs : List V), H p = none → zs = (List.replicate k.toNat xs).flatten → Q (.ref p) (upd H p (.tup zs)) := fun p zs hp e => q p _ (fun c o z => by rw [upd_ne (ne_of_none z hp)]; exact z) (.inl (by rw [upd_same, e]))
  by_cases k2 : 2 ≤ k
  · exact op_repT pins s σ H _ _ v u Q I rx ry ⟨l, k, xs, rfl, rfl, .inl hT, hne, k2, h2, hz, fun p hp => new p _ hp rfl⟩
  · cases rx
    obtain ⟨t, rfl⟩ := ry
    obtain ⟨its, r, ⟨⟨cls, dd, data, sl⟩, ho, hc, n, hd⟩, hs⟩ := I.tuple (show SqT X.K H l xs from .inl hT)
    simp only at hc hd
    subst hc hd
    have hle : its.length = xs.length := r.length.symm
    have hi : its.toArray.isEmpty = false := by
      cases its with
      | nil => exact absurd (List.eq_nil_of_length_eq_zero hle.symm) hne
      | cons a b => rfl
    have k01 : k = 0 ∨ k = 1 := by omega
    rcases k01 with rfl | rfl
    · refine wpAny_binaryOp_repeat_ref (T := "tuple") (U := "int") (by decide) ⟨_, ho, rfl⟩ (fun s' => typeIs_int s' 0 t) noFill_tuple_mul F.fills_int_mul F.slot_int_rmul repeat_tuple F.slot_int_index.lookup
        (call_meets F.slot_int_rmul (typeIs_int s 0 t) F.entry_int_rmul (F.args_int_rmul_2 _ _) (int_rmul_tuple 0 t l its.toArray n dd sl)
          ⟨ho, rfl, ⟨_, ho, rfl⟩, call_meets F.slot_tuple_mul ⟨_, ho, rfl⟩ F.entry_tuple_mul (F.args_tuple_mul_2 _ _) (tuple_mulZero l its.toArray n dd sl t hi) ⟨ho, ?_⟩⟩)
      refine ⟨.ref s.heap.objs.size, _, I.laid (t' := s.toks) (o := .tup []) (fun b ob q => Heap.get?_push_of_some _ q) (Nat.le_refl _) ?_, rfl, new _ _ (I.hok.fresh (Nat.le_refl _)) rfl⟩
      exact ⟨Nat.zero_le _, [], .nil, IsTup.new _ _⟩
    · refine wpAny_binaryOp_repeat_ref (T := "tuple") (U := "int") (by decide) ⟨_, ho, rfl⟩ (fun s' => typeIs_int s' 1 t) noFill_tuple_mul F.fills_int_mul F.slot_int_rmul repeat_tuple F.slot_int_index.lookup
        (call_meets F.slot_int_rmul (typeIs_int s 1 t) F.entry_int_rmul (F.args_int_rmul_2 _ _) (int_rmul_tuple 1 t l its.toArray n dd sl)
          ⟨ho, rfl, ⟨_, ho, rfl⟩, call_meets F.slot_tuple_mul ⟨_, ho, rfl⟩ F.entry_tuple_mul (F.args_tuple_mul_2 _ _) (tuple_mulSame l its.toArray n dd sl t) ⟨ho, ?_⟩⟩)
      refine ⟨.ref l, H, I, rfl, q l H (L2.Same.refl H) ?_⟩
      have e : (List.replicate (1 : Int).toNat xs).flatten = xs := by simp
      rw [e]
      exact hT
end My

namespace My
open PySem PySem.Spec PyProof.Rows L2
/-! ### t[:0:-1] of a tuple -/
section
open MeetsSeq MeetsSeq2 MeetsSeq3 SeqRoads2
variable {P : Program} {w : World} {A : Around} {E : Value → Shared → Prop} {st : Shared}
theorem applied_tail {sl : Addr} {v1 v2 v3 : Value} {n : Nat} {Q : Int × Int × Nat → Shared → Prop} (hn : 0 < n) (hs : st.heap.IsSliceOf sl v1 v2 v3) (p1 : IsPart v1 none) (p2 : IsPart v2 (some 0)) (p3 : IsPart v3 (some (-1)))
    (h : Q ((n : Int) - 1, -1, n - 1) st) : wpAny (model P w) A (Builtin.Slice.sliceApplied (.ref sl) (pure (n : Int))) Q E st := by
  obtain ⟨ob, at1, cl1, da1⟩ := id hs
  unfold Builtin.Slice.sliceApplied Builtin.Slice.sliceFields
  refine wpAny_bind (wpAny_bind (wpAny_field at1 da1 (x := v1) rfl (wpAny_bind (wpAny_field at1 da1 (x := v2) rfl (wpAny_bind (wpAny_field at1 da1 (x := v3) rfl (wpAny_pure ?_)))))))
  refine wpAny_bind (HT.slicePart_ p3 ?_)
  show wpAny _ _ (if ((-1 : Int) == 0) = true then _ else _) _ _ st
  rw [if_neg (by decide)]
  refine wpAny_bind (HT.slicePart_ p1 (wpAny_bind (HT.slicePart_ p2 (wpAny_bind (wpAny_pure ?_)))))
  have adj : Builtin.Slice.sliceAdjust none (some 0) (-1) (n : Int) = ((n : Int) - 1, 0) := by
    show ((n : Int) - 1, min (0 : Int) ((n : Int) - 1)) = _
    rw [Int.min_eq_left (by omega)]
  have pla : Builtin.Slice.slicePlaces ((n : Int) - 1) 0 (-1) = n - 1 := by
    unfold Builtin.Slice.slicePlaces
    rw [if_neg (by decide)]
    by_cases z : (n : Int) - 1 > 0
    · rw [if_pos z, show (- -1 : Int) = 1 by decide, Int.ediv_one]
      omega
    · rw [if_neg z]
      omega
  show wpAny _ _ (match Builtin.Slice.sliceAdjust none (some 0) (-1) (n : Int) with | (lo, hi) => pure (lo, (-1 : Int), Builtin.Slice.slicePlaces lo hi (-1))) _ _ st
  rw [adj]
  show wpAny _ _ (pure ((n : Int) - 1, (-1 : Int), Builtin.Slice.slicePlaces ((n : Int) - 1) 0 (-1))) _ _ st
  rw [pla]
  exact wpAny_pure h
theorem pick_tailL : ∀ L : List Value, L ≠ [] → (List.range (L.length - 1)).filterMap (fun (m : Nat) => L[L.length - 1 - m]?) = (L.drop 1).reverse := by
  intro L hL
  cases L with
  | nil => exact absurd rfl hL
  | cons x r =>
    have full : (List.range (r.length + 1)).filterMap (fun (m : Nat) => (x :: r)[r.length - m]?) = (x :: r).reverse := by
      have e : (List.range (r.length + 1)).filterMap (fun (m : Nat) => (x :: r)[r.length - m]?) = ((List.range (x :: r).length).map fun k => (x :: r).length - 1 - k).filterMap ((x :: r)[·]?) := by
        rw [List.filterMap_map]
        refine fm_congr fun m hm => ?_
        have z := List.mem_range.mp hm
        show (x :: r)[r.length - m]? = (x :: r)[(x :: r).length - 1 - m]?
        rw [List.length_cons, Nat.add_sub_cancel]
      have a := PySem.W.krv_range (x :: r).length
      have b := PySem.W.krv_all (x :: r).toArray
      rw [e, a, List.filterMap_reverse]
      simpa using b
    rw [List.range_succ, List.filterMap_append, List.reverse_cons] at full
    have last : (List.filterMap (fun (m : Nat) => (x :: r)[r.length - m]?) [r.length]) = [x] := by simp
    rw [last] at full
    show (List.range ((x :: r).length - 1)).filterMap (fun (m : Nat) => (x :: r)[(x :: r).length - 1 - m]?) = r.reverse
    rw [List.length_cons, Nat.add_sub_cancel]
    exact List.append_cancel_right full
theorem pick_tail (its : Array Value) (h : 0 < its.size) : ((List.range (its.size - 1)).filterMap fun (m : Nat) => its[(((its.size : Int) - 1) + (m : Int) * (-1)).toNat]?).toArray = (its.toList.drop 1).reverse.toArray := by
  have e : (List.range (its.size - 1)).filterMap (fun (m : Nat) => its[(((its.size : Int) - 1) + (m : Int) * (-1)).toNat]?) = (List.range (its.toList.length - 1)).filterMap (fun (m : Nat) => its.toList[its.toList.length - 1 - m]?) := by
    rw [Array.length_toList]
    refine fm_congr fun m hm => ?_
    have z := List.mem_range.mp hm
    have y : (((its.size : Int) - 1) + (m : Int) * (-1)).toNat = its.size - 1 - m := by omega
    rw [y, Array.getElem?_toList]
  rw [e, pick_tailL _ (fun z => by
    have y := congrArg List.length z
    rw [Array.length_toList, List.length_nil] at y
    omega)]
theorem tuple_tail {a sl : Addr} {its : Array Value} {v1 v2 v3 : Value} {Q : Value → Shared → Prop} (hn : 0 < its.size) (ht : IsTup st.heap a its) (hs : st.heap.IsSliceOf sl v1 v2 v3) (p1 : IsPart v1 none) (p2 : IsPart v2 (some 0)) (p3 : IsPart v3 (some (-1)))
    (h : Q (.ref st.heap.objs.size) { st with heap := st.heap.push { cls := .type "tuple", data := .seq (its.toList.drop 1).reverse.toArray } }) (few : its.size ≤ sizeLine) : wpAny (model P w) A (getItem (.ref a) (.ref sl)) Q E st := by
  have ok : sizeOk (.seq (its.toList.drop 1).reverse.toArray) := by
    show (its.toList.drop 1).reverse.toArray.size ≤ sizeLine
    rw [List.size_toArray, List.length_reverse, List.length_drop, Array.length_toList]
    omega
  obtain ⟨ob, at1, cl1, da1⟩ := id hs
  have isS : st.TypeIs (.ref sl) "slice" := ⟨ob, at1, cl1⟩
  unfold getItem
  try with_reducible refine wpAny_holding ?_
  first | refine wpAny_bind (wpAny_pure ?_) | skip
  refine wpAny_bind (wpAny_sequenceKey ht.typeIs (by decide) ?_)
  refine wpAny_bind (wpAny_callSpecial?_slot (name := Str.ofString "__getitem__") ht.typeIs PyProof.Rows.slot_tuple_getitem
    (wpAny_call_entry PyProof.Rows.slot_tuple_getitem ht.typeIs PyProof.Rows.entry_tuple_getitem ?_ (PyProof.Rows.args_tuple_getitem _ _)))
  show wpAny _ _ (Builtin.Tuple.tupleItemsOf (.ref a) >>= _) _ _ st
  refine wpAny_bind (PyProof.Rows.tupleItemsOf_ ht (wpAny_bind (wpAny_typeOf isS ?_)))
  rw [if_pos (by decide)]
  refine wpAny_bind (applied_tail hn hs p1 p2 p3 ?_)
  have no : ¬ (((((its.size : Nat) : Int) - 1) == 0 && (-1 : Int) == 1 && its.size - 1 == its.size) = true) := by
    rw [show ((-1 : Int) == 1) = false by decide, Bool.and_false, Bool.false_and]
    decide
  show wpAny _ _ (if ((((its.size : Nat) : Int) - 1) == 0 && (-1 : Int) == 1 && its.size - 1 == its.size) = true then _ else _) _ _ st
  rw [if_neg no, pick_tail its hn]
  first
    | exact wpAny_bind (m := Builtin.Tuple.tupleExact _) (wpAny_newObj_type (wpAny_pure ⟨_, rfl, wpAny_pure h⟩) ok)
    | exact wpAny_bind (m := Builtin.Tuple.tupleExact _) (wpAny_newObj_type (wpAny_bind (wpAny_pure (wpAny_pure ⟨_, rfl, wpAny_pure h⟩))) ok)
    | exact wpAny_bind (wpAny_bind (m := Builtin.Tuple.tupleExact _) (wpAny_newObj_type (wpAny_pure (wpAny_pure ⟨_, rfl, wpAny_pure h⟩)) ok))
    | exact wpAny_bind (wpAny_bind (m := Builtin.Tuple.tupleExact _) (wpAny_newObj_type (wpAny_pure ⟨_, rfl, wpAny_pure h⟩) ok))
end
/-- t[:0:-1] -/
def tTailT (K : PySem.W.Frag) (te : TE) : TE := fun σ H Q => te σ H fun x H1 => ∃ a xs, x = .ref a ∧ SqT K H1 a xs ∧ 0 < xs.length ∧ ∀ p, H1 p = none → Q (.ref p) (upd H1 p (.tup (xs.drop 1).reverse))
theorem vals_drop {xs : List V} {its : List Value} (r : Vals xs its) : Vals (xs.drop 1) (its.drop 1) := by
  cases r with
  | nil => exact .nil
  | cons _ t => exact t
theorem pe_tailT {X : Cx} {e : Expr} {te : TE} {k k0 : Nat} {p0 p1 p2 p3 pos : Pos} (he : PE X e te) : PE X (.Subscript e (.Slice none (some (.Constant (.int 0) k0 p0)) (some (.UnaryOp .USub (.Constant (.int 1) k p1) p2)) p3) pos) (tTailT X.K te) := by
  refine ⟨fun pins s σ H Q I h => Subscript_ (thn (he.run pins s σ H _ I h) fun v s1 hv => ?_)⟩
  obtain ⟨x, H1, I1, r1, a, xs, rfl, hx, hn, q⟩ := hv
  cases r1
  have part : PO X (some (.UnaryOp .USub (.Constant (.int 1) k p1) p2)) (tPart (tUn (rU fun i => .int (-i)) (tC (.int 1)))) := po_some (pe_un un_neg pe_int)
  have part0 : PO X (some (.Constant (.int 0) k0 p0)) (tPart (tC (.int 0))) := po_some pe_int
  refine wpAny_Slice (thn (po_none.run pins s1 σ H1 (fun o H2 => o = none ∧ H2 = H1) I1 ⟨rfl, rfl⟩) fun vl s2 h2 => ?_)
  obtain ⟨_, H2, I2, pl, rfl, rfl⟩ := h2
  refine thn (part0.run pins s2 σ H2 (fun o H3 => o = some 0 ∧ H3 = H2) I2 ⟨0, rfl, rfl, rfl⟩) fun vu s3 h3 => ?_
  obtain ⟨_, H3, I3, pu, rfl, rfl⟩ := h3
  refine thn (part.run pins s3 σ H3 (fun o H4 => o = some (-1) ∧ H4 = H3) I3 ⟨1, rfl, -1, rfl, rfl, rfl⟩) fun vs s4 h4 => ?_
  obtain ⟨_, H4, I4, ps, rfl, rfl⟩ := h4
  have I5 : Inv X pins σ H4 { s4 with heap := s4.heap.push { cls := .type "slice", data := .fields #[vl, vu, vs] } } := I4.kept (t' := s4.toks) fun b ob q => Heap.get?_push_of_some _ q
  obtain ⟨its, r, ht, hz⟩ := I5.tuple hx
  have hlen := r.length
  show wpAny (model X.prog X.w) X.A (subscriptTail e (.Slice none (some (.Constant (.int 0) k0 p0)) (some (.UnaryOp .USub (.Constant (.int 1) k p1) p2)) p3) (.ref a) (.ref s4.heap.objs.size)) (EP X pins σ Q) X.xe { s4 with heap := s4.heap.push { cls := .type "slice", data := .fields #[vl, vu, vs] } }
  refine tail_any (ops := [.ref a, .ref s4.heap.objs.size]) ht.typeIs (PyProof.Rows.slot_tuple_getitem.lookup) ?_ (by with_unfolding_all rfl)
  refine tuple_tail (by rw [List.size_toArray]; omega) ht (Heap.IsSliceOf.new _ vl vu vs) pl pu ps ?_ (by rw [List.size_toArray]; omega)
  exact ⟨.ref _, _, I5.laid (t' := s4.toks) (o := .tup (xs.drop 1).reverse) (fun b ob q => Heap.get?_push_of_some _ q) (Nat.le_refl _) ⟨by rw [List.length_reverse, List.length_drop]; omega, _, (vals_drop r).reverse, IsTup.new _ _⟩, rfl, q _ (I5.hok.fresh (Nat.le_refl _))⟩
end My

namespace My
open PySem PySem.Spec PyProof.Rows L2
/-! ### things as data, whole: none, bools, ints, texts, lists, tuples, the empty dict -/
mutual
inductive Da (H : Hp) : V → PyData → Prop
  | non : Da H .non .none
  | bl (b : Bool) : Da H (.bl b) (.bool b)
  | int (i : Int) : Da H (.int i) (.int i)
  | str (z : Str) : Da H (.str z) (.str z)
  | lst {a : Addr} {xs : List V} {ds : List PyData} (e : H a = some (.lst xs)) (h : DaAll H xs ds) : Da H (.ref a) (.list ds)
  | tup {a : Addr} {xs : List V} {ds : List PyData} (e : Rd H a (.tup xs)) (h : DaAll H xs ds) : Da H (.ref a) (.tuple ds)
  | dct {a : Addr} (e : H a = some (.dK [])) : Da H (.ref a) (.dict [])
inductive DaAll (H : Hp) : List V → List PyData → Prop
  | nil : DaAll H [] []
  | cons {v : V} {vs : List V} {d : PyData} {ds : List PyData} (h : Da H v d) (t : DaAll H vs ds) : DaAll H (v :: vs) (d :: ds)
end
theorem rd_same {H H' : Hp} {a : Addr} {u : HO} (h : Rd H a u) (s : Same H H') : Rd H' a u := h.elim (fun e => .inl (s _ _ e)) fun ⟨o, e⟩ => .inr ⟨o, s _ _ e⟩
mutual
theorem Da.same {H H' : Hp} (s : Same H H') : ∀ {d : PyData} {v : V}, Da H v d → Da H' v d
  | _, _, .non => .non
  | _, _, .bl b => .bl b
  | _, _, .int i => .int i
  | _, _, .str z => .str z
  | _, _, .lst e h => .lst (s _ _ e) (DaAll.same s h)
  | _, _, .tup e h => .tup (rd_same e s) (DaAll.same s h)
  | _, _, .dct e => .dct (s _ _ e)
theorem DaAll.same {H H' : Hp} (s : Same H H') : ∀ {ds : List PyData} {vs : List V}, DaAll H vs ds → DaAll H' vs ds
  | _, _, .nil => .nil
  | _, _, .cons h t => .cons (Da.same s h) (DaAll.same s t)
end
theorem DaAll.length {H : Hp} : ∀ {ds : List PyData} {vs : List V}, DaAll H vs ds → vs.length = ds.length
  | _, _, .nil => rfl
  | _, _, .cons _ t => by rw [List.length_cons, List.length_cons, t.length]
theorem DaAll.get {H : Hp} : ∀ {ds : List PyData} {vs : List V} {i : Nat} {v : V}, DaAll H vs ds → vs[i]? = some v → ∃ d, ds[i]? = some d ∧ Da H v d
  | _, _, i, _, .nil, e => by cases i <;> cases e
  | _, _, 0, _, .cons h _, e => by
    cases e
    exact ⟨_, rfl, h⟩
  | _, _, i + 1, _, .cons _ t, e => t.get (i := i) e
theorem DaAll.at {H : Hp} : ∀ {ds : List PyData} {vs : List V} {i : Nat} {d : PyData}, DaAll H vs ds → ds[i]? = some d → ∃ v, vs[i]? = some v ∧ Da H v d
  | _, _, i, _, .nil, e => by cases i <;> cases e
  | _, _, 0, _, .cons h _, e => by
    cases e
    exact ⟨_, rfl, h⟩
  | _, _, i + 1, _, .cons _ t, e => t.at (i := i) e
theorem DaAll.app {H : Hp} : ∀ {ds es : List PyData} {vs ws : List V}, DaAll H vs ds → DaAll H ws es → DaAll H (vs ++ ws) (ds ++ es)
  | _, _, _, _, .nil, g => g
  | _, _, _, _, .cons h t, g => .cons h (t.app g)
theorem DaAll.drop {H : Hp} : ∀ {ds : List PyData} {vs : List V} (n : Nat), DaAll H vs ds → DaAll H (vs.drop n) (ds.drop n)
  | _, _, 0, h => by simpa using h
  | _, _, n + 1, .nil => by simpa using DaAll.nil
  | _, _, n + 1, .cons _ t => by simpa using t.drop n
theorem DaAll.take {H : Hp} : ∀ {ds : List PyData} {vs : List V} (n : Nat), DaAll H vs ds → DaAll H (vs.take n) (ds.take n)
  | _, _, 0, _ => by simpa using DaAll.nil
  | _, _, n + 1, .nil => by simpa using DaAll.nil
  | _, _, n + 1, .cons h t => by simpa using DaAll.cons h (t.take n)
theorem DaAll.rev {H : Hp} : ∀ {ds : List PyData} {vs : List V}, DaAll H vs ds → DaAll H vs.reverse ds.reverse
  | _, _, .nil => .nil
  | _, _, .cons h t => by
    rw [List.reverse_cons, List.reverse_cons]
    exact t.rev.app (.cons h .nil)
/-- the built-in type of a thing -/
def tyDa : PyData → String
  | .none => "NoneType"
  | .bool _ => "bool"
  | .int _ => "int"
  | .str _ => "str"
  | .list _ => "list"
  | .tuple _ => "tuple"
  | .dict _ => "dict"
theorem Da.ty {K : PySem.W.Frag} {H : Hp} {d : PyData} {v : V} (h : Da H v d) : TyX K H v (.type (tyDa d)) := by
  cases h with
  | non => exact .base .non
  | bl b => exact .base (.bl b)
  | int i => exact .base (.int i)
  | str z => exact .base (.str z)
  | lst e h => exact .base (.lst e)
  | dct e => exact .base (.dK e)
  | tup e h =>
    rcases e with e | ⟨o, e⟩
    · exact .base (.tup e)
    · exact .fTuple e
def dT : PyData → Bool | .tuple _ => true | _ => false
def dL : PyData → Bool | .list _ => true | _ => false
def dS : PyData → Bool | .str _ => true | _ => false
def dI : PyData → Bool | .int _ => true | .bool _ => true | _ => false
def dB : PyData → Bool | .bool _ => true | _ => false
theorem kit_tup (d : PyData) : kitB (tyDa d) "tuple" = some (dT d) := by cases d <;> (simp only [tyDa, dT]; decide +kernel)
theorem kit_lst (d : PyData) : kitB (tyDa d) "list" = some (dL d) := by cases d <;> (simp only [tyDa, dL]; decide +kernel)
theorem kit_str (d : PyData) : kitB (tyDa d) "str" = some (dS d) := by cases d <;> (simp only [tyDa, dS]; decide +kernel)
theorem kit_int (d : PyData) : kitB (tyDa d) "int" = some (dI d) := by cases d <;> (simp only [tyDa, dI]; decide +kernel)
theorem kit_bool (d : PyData) : kitB (tyDa d) "bool" = some (dB d) := by cases d <;> (simp only [tyDa, dB]; decide +kernel)
/-! ### what is read of it -/
mutual
def noL : PyData → Bool
  | .list _ => false
  | .tuple ds => noLs ds
  | .none | .bool _ | .int _ | .str _ | .dict _ => true
def noLs : List PyData → Bool
  | [] => true
  | d :: r => noL d && noLs r
end
section
variable {X : Cx} {pins : List (Addr × Obj)} {σ : L2.St} {H : Hp} {s : Shared}
mutual
theorem Da.reads (I : Inv X pins σ H s) : ∀ (d : PyData) (v : V) (u : Value), Da H v d → RelV v u → ∃ as, Reads s.heap u d as ∧ (noL d = true → sysModules ∉ as)
  | .none, _, _, h, r => by
    cases h
    cases r
    exact ⟨_, .none, fun _ z => nomatch z⟩
  | .bool b, _, _, h, r => by
    cases h
    cases r
    exact ⟨_, .bool b, fun _ z => nomatch z⟩
  | .int i, _, _, h, r => by
    cases h
    obtain ⟨t, rfl⟩ := r
    exact ⟨_, .int i t, fun _ z => nomatch z⟩
  | .str x, _, _, h, r => by
    cases h
    obtain ⟨t, rfl⟩ := r
    exact ⟨_, .str x t, fun _ z => nomatch z⟩
  | .list ds, _, _, h, r => by
    cases h with
    | lst e ha =>
      cases r
      obtain ⟨z, its, n, rv, ho⟩ := I.hok _ _ e
      obtain ⟨as, ra, _⟩ := Da.readsAll I ds _ its ha rv
      exact ⟨_, .list ho rfl rfl (by simpa using ra), fun z => by simp [noL] at z⟩
  | .tuple ds, _, _, h, r => by
    cases h with
    | tup e ha =>
      cases r
      obtain ⟨its, rv, ⟨o, ho, hc, n, hd⟩, hz⟩ := I.tuple (show SqT X.K H _ _ from .inl e)
      obtain ⟨as, ra, na⟩ := Da.readsAll I ds _ its ha rv
      exact ⟨_, .tuple ho hc hd (by simpa using ra), fun z => na (by simpa only [noL] using z)⟩
  | .dict kvs, _, _, h, r => by
    cases h with
    | dct e =>
      cases r
      obtain ⟨_, hne, vs, kv, o, es, ep, ho, hx, hdat, _, hp, _⟩ := I.hok _ _ e
      cases kv with
      | nil =>
        have he : es.toList = [] := by
          revert hp
          generalize es.toList = l
          intro hp
          cases hp
          rfl
        refine ⟨_, .dict ho hx.1 hdat (by rw [he]; exact .nil) (by rw [he]; exact .nil), fun _ z => ?_⟩
        simp only [List.append_nil, List.mem_singleton] at z
        rw [← z] at hne
        exact absurd hne (by decide)
theorem Da.readsAll (I : Inv X pins σ H s) : ∀ (ds : List PyData) (vs : List V) (us : List Value), DaAll H vs ds → Vals vs us → ∃ as, ReadsAll s.heap us ds as ∧ (noLs ds = true → sysModules ∉ as)
  | [], _, _, h, r => by
    cases h
    cases r
    exact ⟨_, .nil, fun _ z => nomatch z⟩
  | d :: ds, _, _, h, r => by
    cases h with
    | cons h t =>
      cases r with
      | cons r rt =>
        obtain ⟨as, ra, na⟩ := Da.reads I d _ _ h r
        obtain ⟨bs, rb, nb⟩ := Da.readsAll I ds _ _ t rt
        refine ⟨_, .cons ra rb, fun z => ?_⟩
        simp only [noLs, Bool.and_eq_true] at z
        intro m
        rcases List.mem_append.mp m with m | m
        · exact na z.1 m
        · exact nb z.2 m
end
end
/-! ### repr of it -/
structure rReprD (xs : List V) (H : Hp) (Q : VK) : Prop where
  ex : ∃ x d, xs = [x] ∧ Da H x d ∧ d.showable = true ∧ (d.hasDict = true → noL d = true) ∧ d.depth ≤ 60 ∧ d.shown.length ≤ sizeLine ∧ Q (.str d.shown) H
theorem call_reprD {X : Cx} (quiet : X.A.guards = some []) (hu : X.A.units + 64 < cLine) : CallR X (.builtin "repr") rReprD := by
  intro pins s σ H xs us Q I r h
  obtain ⟨x, d, rfl, hd, h1, h2, h3, h4, q⟩ := h
  obtain ⟨u, rfl, ru⟩ := vals1 r
  obtain ⟨as, rd, hs⟩ := Da.reads I d x u hd ru
  cases hd with
  | non =>
    cases (show u = Value.none from ru)
    exact PySem.P.repr_of_none ⟨.str "None", H, I.tok _, ⟨_, rfl⟩, by simpa only [PyData.shown] using q⟩
  | bl b =>
    cases (show u = Value.bool b from ru)
    exact PySem.P.repr_of_bool ⟨.str (if b then "True" else "False"), H, I.tok _, ⟨_, rfl⟩, by simpa only [PyData.shown] using q⟩
  | int i =>
    obtain ⟨tk, rfl⟩ := (show ∃ t, u = Value.int i t from ru)
    exact PySem.P.repr_of_int (by simpa only [PyData.showable, decide_eq_true_eq] using h1) ⟨V.str (Str.ofString (toString i)), H, I.tok _, ⟨_, rfl⟩, by simpa only [PyData.shown] using q⟩
  | str z =>
    obtain ⟨tk, rfl⟩ := (show ∃ t, u = Value.str z t from ru)
    exact PySem.P.repr_of_str ⟨.str (reprText z), H, I.tok _, ⟨_, rfl⟩, by simpa only [PyData.shown] using q⟩ (by simpa only [PyData.shown] using h4)
  | @lst a ys ds e ha =>
    cases (show u = Value.ref a from ru)
    exact PySem.repr_of_reads' rd h1 (fun z => hs (h2 z)) quiet (by omega) (fun _ _ z => z) (fun h' v tk k => ⟨.str (PyData.list ds).shown, H, I.kept k, ⟨_, rfl⟩, q⟩) h4
  | @tup a ys ds e ha =>
    cases (show u = Value.ref a from ru)
    exact PySem.repr_of_reads' rd h1 (fun z => hs (h2 z)) quiet (by omega) (fun _ _ z => z) (fun h' v tk k => ⟨.str (PyData.tuple ds).shown, H, I.kept k, ⟨_, rfl⟩, q⟩) h4
  | @dct a e =>
    cases (show u = Value.ref a from ru)
    exact PySem.repr_of_reads' rd h1 (fun z => hs (h2 z)) quiet (by omega) (fun _ _ z => z) (fun h' v tk k => ⟨.str (PyData.dict []).shown, H, I.kept k, ⟨_, rfl⟩, q⟩) h4
/-! ### x in t, x and the items of t data -/
def rInTup (K : PySem.W.Frag) : R2 := fun x y H Q => ∃ d ds, Dp K H x d ∧ Dp K H y (.tuple ds) ∧ SeqAt.shaped d = true ∧ SeqAt.shaped (.tuple ds) = true ∧ Q (.bl (ds.any fun z => PyData.eqv z d)) H
theorem op_inTup {X : Cx} (hu : X.A.units + 65 < cLine) : OpR X (compareOp .In) (rInTup X.K) := by
  intro pins s σ H x y v u Q I rx ry h
  obtain ⟨d, ds, hd, he, sd, se, q⟩ := h
  obtain ⟨as, r1⟩ := Dp.reads I d x v hd rx
  obtain ⟨bs, r2⟩ := Dp.reads I (.tuple ds) y u he ry
  have c2 : PyData.canLayAll0 ds = true := by
    have z := SeqAt.canLay_of_shaped se
    simpa only [PyData.canLay0] using z
  exact SeqAt.in_tuple_reads r2 r1 c2 (SeqAt.canLay_of_shaped sd) (room_in_shaped sd hu) ⟨.bl _, H, I, rfl, q⟩
end My

namespace My
open PySem PySem.Spec PyProof.Rows L2
/-! ### a list == [], whatever stands in it -/
def rEqNil : R2 := fun x y H Q => ∃ (a b : Addr) (xs : List V), x = .ref a ∧ y = .ref b ∧ H a = some (.lst xs) ∧ H b = some (.lst []) ∧ Q (.bl xs.isEmpty) H
theorem op_eqNil {X : Cx} (hu : X.A.units + 64 < cLine) : OpR X (compareOp .Eq) rEqNil := by
  intro pins s σ H x y v u Q I rx ry h
  obtain ⟨a, b, xs, rfl, rfl, ha, hb, q⟩ := h
  cases rx
  cases ry
  obtain ⟨z, its, n, r, hl, e⟩ := I.lstM ha
  obtain ⟨z2, its2, n2, r2, hl2, e2⟩ := I.lstM hb
  have l1 : s.heap.IsList a its.toArray := ⟨_, e, rfl, n, rfl⟩
  have l2 : s.heap.IsList b its2.toArray := ⟨_, e2, rfl, n2, rfl⟩
  have l0 : its2 = [] := by
    cases its2 with
    | nil => rfl
    | cons => cases hl2
  subst l0
  cases xs with
  | nil =>
    have l3 : its = [] := by
      cases its with
      | nil => rfl
      | cons => cases hl
    subst l3
    exact SeqAt.RcAt.lists l1 l2 rfl (by omega) (e := fun _ => true) (fun j h1 h2 => absurd h1 (Nat.not_lt_zero j)) _ _ _ _ ⟨.bl true, H, I, rfl, q⟩
  | cons x0 r0 =>
    have big : its.length = r0.length + 1 := hl.symm
    exact SeqAt.RcAt.lists_lengths l1 l2 (by simp only [List.size_toArray, big, List.length_nil]; rfl) (by omega) _ _ _ _ ⟨.bl false, H, I, rfl, q⟩
theorem call_len_seqK {X : Cx} {K : PySem.W.Frag} (hK : X.K = K) : CallR X (.builtin "len") (fun xs H Q => ∃ p ys, xs = [V.ref p] ∧ (SqL K H p ys ∨ SqT K H p ys) ∧ Q (.int ys.length) H) := by
  subst hK
  exact call_len_seq
theorem pi_listK {X : Cx} {K : PySem.W.Frag} (hK : X.K = K) {tg e : Expr} {te : TE} (h : PE X e te) : PI X tg e (iList K te) := by
  subst hK
  exact pi_list h
theorem op_eqDK {X : Cx} {K : PySem.W.Frag} (hK : X.K = K) (hu : X.A.units + 64 < cLine) : OpR X (compareOp .Eq) (rEqD K) := by
  subst hK
  exact op_eqD hu
theorem u65 {k : Nat} {A : Around} (r : Room k A) : A.units + 65 < cLine := by have := r.un; omega
theorem op_in_tup {X : Cx} (hu : X.A.units + 65 < cLine) : OpR X (compareOp .In) (rInTup X.K) := op_inTup hu
/-! ### pairs as data -/
theorem eqv_pair (a b : Str) (i j : Int) : PyData.eqv (.tuple [.str a, .int i]) (.tuple [.str b, .int j]) = decide ((a, i) = (b, j)) := by
  have e : PyData.eqv (.tuple [.str a, .int i]) (.tuple [.str b, .int j]) = ((a == b) && ((i == j) && true)) := by simp only [PyData.eqv, PyData.eqvAll]
  rw [e, Bool.and_true]
  by_cases h1 : a = b
  · by_cases h2 : i = j
    · subst h1 h2
      simp
    · rw [beq_eq_false_iff_ne.mpr h2, Bool.and_false]
      exact (decide_eq_false fun z => h2 (Prod.mk.inj z).2).symm
  · rw [beq_eq_false_iff_ne.mpr h1, Bool.false_and]
    exact (decide_eq_false fun z => h1 (Prod.mk.inj z).1).symm
theorem sh_pair {a : Str} (h : ∀ c ∈ a.cps.toList, c < 1114112) (i : Int) : SeqAt.shaped (.tuple [.str a, .int i]) = true := by
  show ((PyData.tuple [.str a, .int i]).canLay0 && decide ((PyData.tuple [.str a, .int i]).depth ≤ 64)) = true
  have h1 : (PyData.tuple [.str a, .int i]).canLay0 = true := by
    simp only [PyData.canLay0, PyData.canLayAll0, Bool.and_true, PyData.strOk, Array.all_eq_true, decide_eq_true_eq]
    intro j hj
    exact h _ (by simp)
  rw [h1]
  simp [PyData.depth, PyData.depthAll]
end My

namespace My
open PySem PySem.Spec PyProof.Rows L2
/-- rs: the pairs ks, each a tuple of a tag and a number -/
inductive Prs (H : Hp) : List Addr → List (Str × Int) → Prop
  | nil : Prs H [] []
  | cons {r : Addr} {rs : List Addr} {p : Str × Int} {ks : List (Str × Int)} (e : Rd H r (.tup [.str p.1, .int p.2])) (t : Prs H rs ks) : Prs H (r :: rs) (p :: ks)
theorem Prs.length {H : Hp} {rs : List Addr} {ks : List (Str × Int)} (h : Prs H rs ks) : rs.length = ks.length := by
  induction h with
  | nil => rfl
  | cons _ _ ih => rw [List.length_cons, List.length_cons, ih]
theorem Prs.get {H : Hp} {rs : List Addr} {ks : List (Str × Int)} (h : Prs H rs ks) : ∀ {i : Nat} {r : Addr}, rs[i]? = some r → ∃ p, ks[i]? = some p ∧ Rd H r (.tup [.str p.1, .int p.2]) := by
  induction h with
  | nil =>
    intro i r e
    cases i <;> cases e
  | cons e _ ih =>
    intro i r h
    cases i with
    | zero =>
      cases h
      exact ⟨_, rfl, e⟩
    | succ i => exact ih h
theorem Prs.same {H H' : Hp} {rs : List Addr} {ks : List (Str × Int)} (h : Prs H rs ks) (s : Same H H') : Prs H' rs ks := by
  induction h with
  | nil => exact .nil
  | cons e _ ih => exact .cons (rd_same e s) ih
theorem Prs.snoc {H : Hp} {rs : List Addr} {ks : List (Str × Int)} {r : Addr} {p : Str × Int} (h : Prs H rs ks) (e : Rd H r (.tup [.str p.1, .int p.2])) : Prs H (rs ++ [r]) (ks ++ [p]) := by
  induction h with
  | nil => exact .cons e .nil
  | cons x _ ih => exact .cons x ih
/-- what grows at Y (a list) leaves the pairs as they are -/
theorem Prs.grow {H : Hp} {Y : Addr} {xs : List V} {o : HO} {rs : List Addr} {ks : List (Str × Int)} (h : Prs H rs ks) (hY : H Y = some (.lst xs)) : Prs (L2.upd H Y o) rs ks := by
  induction h with
  | nil => exact .nil
  | cons x _ ih =>
    refine .cons ?_ ih
    rcases x with x | ⟨o2, x⟩
    · refine .inl ?_
      rw [upd_ne fun z => ?_]
      · exact x
      · rw [z, hY] at x
        cases x
    · refine .inr ⟨o2, ?_⟩
      rw [upd_ne fun z => ?_]
      · exact x
      · rw [z, hY] at x
        cases x
/-- a: a new tuple of pairs, its object told -/
def KindF (H : Hp) (a : Addr) (ks : List (Str × Int)) : Prop := ∃ rs o, H a = some (.frz o (.tup (rs.map V.ref))) ∧ o.dict = none ∧ Prs H rs ks
theorem KindF.same {H H' : Hp} {a : Addr} {ks : List (Str × Int)} (h : KindF H a ks) (s : Same H H') : KindF H' a ks := by
  obtain ⟨rs, o, e, n, p⟩ := h
  exact ⟨rs, o, s _ _ e, n, p.same s⟩
/-! ### the parts of a tag -/
def kvK (ks : List (Str × Int)) : List (Key × V) := ks.map fun p => (Sum.inr p.1, V.int p.2)
theorem merge_no {j : Key} : ∀ (kvs acc : List (Key × V)), (∀ p ∈ kvs, p.1 ≠ j) → valV (mergeK acc kvs) j = valV acc j
  | [], _, _ => rfl
  | (k, v) :: r, acc, h => by
    show valV (mergeK (putK acc k v) r) j = _
    rw [merge_no r _ fun p hp => h p (List.mem_cons_of_mem _ hp), valV_put, if_neg fun z => h (k, v) List.mem_cons_self z.symm]
theorem merge_yes {j : Key} {x : V} : ∀ (kvs acc : List (Key × V)), (kvs.map (·.1)).Nodup → (j, x) ∈ kvs → valV (mergeK acc kvs) j = some x
  | [], _, _, h => nomatch h
  | (k, v) :: r, acc, nd, h => by
    show valV (mergeK (putK acc k v) r) j = _
    rw [List.map_cons, List.nodup_cons] at nd
    rcases List.mem_cons.mp h with e | h
    · cases e
      rw [merge_no r _ fun p hp z => nd.1 (List.mem_map.mpr ⟨p, hp, z⟩), valV_put, if_pos rfl]
    · exact merge_yes r _ nd.2 h
/-- what parts_of tells -/
def partsV (ks : List (Str × Int)) (t : Str) : V := (valV (mergeK [] (kvK ks)) (Sum.inr t)).getD .non
theorem parts_yes {ks : List (Str × Int)} {t : Str} {n : Int} (nd : (ks.map (·.1)).Nodup) (h : (t, n) ∈ ks) : partsV ks t = .int n := by
  unfold partsV
  have m : ((Sum.inr t : Key), V.int n) ∈ kvK ks := List.mem_map.mpr ⟨(t, n), h, rfl⟩
  have nd2 : ((kvK ks).map (·.1)).Nodup := by
    unfold kvK
    rw [List.map_map]
    have e : ((fun q : Key × V => q.1) ∘ fun p : Str × Int => ((Sum.inr p.1 : Key), V.int p.2)) = (fun s : Str => (Sum.inr s : Key)) ∘ fun p : Str × Int => p.1 := rfl
    rw [e, ← List.map_map]
    exact List.Pairwise.map _ (fun a b n z => n (Sum.inr.inj z)) nd
  rw [merge_yes _ _ nd2 m]
  rfl
theorem parts_no {ks : List (Str × Int)} {t : Str} (h : t ∉ ks.map (·.1)) : partsV ks t = .non := by
  unfold partsV
  rw [merge_no]
  · rfl
  · intro p hp z
    obtain ⟨q, hq, rfl⟩ := List.mem_map.mp hp
    exact h (List.mem_map.mpr ⟨q, hq, Sum.inr.inj z⟩)
theorem prs_pairs {K : PySem.W.Frag} {H : Hp} {rs : List Addr} {ks : List (Str × Int)} (h : Prs H rs ks) : Paired (fun p (kv : Key × V) => SqT K H p [kV kv.1, kv.2]) rs (kvK ks) := by
  induction h with
  | nil => exact .nil
  | cons e _ ih => exact .cons (.inl e) ih
end My

namespace My
open PySem PySem.Spec PyProof.Rows L2
/-! ### what is a list or a tuple -/
def iEither (K : PySem.W.Frag) (tl : TE) : TI := fun σ H R => tl σ H fun x H1 => ∃ a, x = .ref a ∧ (((∃ xs, SqL K H1 a xs) ∧ R (Itl K a) H1) ∨ ((∃ xs, SqT K H1 a xs) ∧ R (Itt K a) H1))
theorem pi_either {X : Cx} {K : PySem.W.Frag} (hK : X.K = K) {tg e : Expr} {te : TE} (he : PE X e te) : PI X tg e (iEither K te) := by
  subst hK
  constructor
  intro pins s σ H R I w
  have ev := he.run pins s σ H _ I w
  refine thn ev ?_
  rintro v s1 ⟨x, G, J, rel, a, rfl, alt⟩
  cases rel
  have one : ∀ b, b ∈ [s1.heap.objs.size] → b = s1.heap.objs.size := fun b hb => List.mem_singleton.mp hb
  rcases alt with ⟨⟨xs, seq⟩, q⟩ | ⟨⟨xs, seq⟩, q⟩
  · obtain ⟨its, _, isl, _⟩ := J.list seq
    refine wpAny_pyIter_list isl.isList ?_
    refine ⟨s1.heap.objs.size, [s1.heap.objs.size], _, _, G, rfl, ?_, turn_list a _, ?_, ?_, q⟩
    · exact J.kept (t' := s1.toks) fun b o z => Heap.get?_push_of_some _ z
    · exact ⟨_, Heap.get?_push_size _ rfl, rfl, rfl⟩
    · intro b hb
      cases one b hb
      exact J.fpOk (Nat.le_refl _) (J.hok.fresh (Nat.le_refl _))
  · obtain ⟨its, _, ist, _⟩ := J.tuple seq
    have ist' : s1.heap.IsTuple a its.toArray := ist
    refine wpAny_pyIter_tuple ist' ?_
    refine ⟨s1.heap.objs.size, [s1.heap.objs.size], _, _, G, rfl, ?_, turn_tuple a _, ?_, ?_, q⟩
    · exact J.kept (t' := s1.toks) fun b o z => Heap.get?_push_of_some _ z
    · exact ⟨_, Heap.get?_push_size _ rfl, rfl, rfl⟩
    · intro b hb
      cases one b hb
      exact J.fpOk (Nat.le_refl _) (J.hok.fresh (Nat.le_refl _))
def rSlE (K : PySem.W.Frag) : V → Option Int → Option Int → Hp → VK → Prop := fun x lo hi H Q => rSlL K x lo hi H Q ∨ rSlX x lo hi H Q
theorem sl_either {X : Cx} : SlR X (rSlE X.K) := by
  intro pins s σ H v vv vl vu lo hi sl Q I rx hs pl pu h
  exact h.elim (sl_list pins s σ H v vv vl vu lo hi sl Q I rx hs pl pu) (sl_X pins s σ H v vv vl vu lo hi sl Q I rx hs pl pu)
/-! ### C(e, ..), the class's __init__ may raise; what is wished of the error may speak of the slots -/
def tMakeS (C : Addr) (sp : Sp) (E : L2.St → XK) (t : TA) : TE := fun σ H Q => t σ H fun vs H1 => ∀ x dx, H1 x = none → H1 dx = none → dx ≠ x → sp (.ref x :: vs) (upd (upd H1 dx (.own x)) x (.ins C dx [])) (fun v H2 => v = .non ∧ Q (.ref x) H2) (E σ)
theorem pe_makeS {X : Cx} {CX : CXT} {k : Nat} {f C : Addr} {fd : FuncData} {ps : List Str} {sp : Sp} {E : L2.St → XK} {x : Str} {p pos : Pos} {e : Expr} {es : List Expr} {t : TA} (M : Mk X.K C f) (F : FnOk X.prog X.w X.K X.mg X.base CX k f fd ps sp) (hr : Room (k + 1) X.A)
    (hg : Gl X x) (hm : X.mg x = some (.ref C)) (hb : Binds X.K fd ps []) (hx : ∀ σ, PassesAt CX X σ (E σ)) (ha : PA X (e :: es) t) (nd : (x == ("__debug__" : Str)) = false := by decide)
    (he : starEach (e :: es) X.env = (false, eval e X.env) :: starEach es X.env := by rfl) (hpl : (backTo pos (starEach es X.env)).any (·.1) = false := by rfl) : PE X (.Call (.Name x p) (e :: es) [] pos) (tMakeS C sp E t) := by
  constructor
  intro pins s σ H Q I w
  refine wpAny_Call_Name_kw (ld_glob I hg hm ?_ nd)
  have args := ha.run pos pins s σ H _ I w
  refine PySem.W.callWith_K (h₀ := X.base) I.ok.mod.kin M.kp (thn args ?_) he hpl
  rintro us t1 ⟨vs, G, J, rel, want⟩
  refine ⟨J.kIn, ?_⟩
  have fresh1 := J.hok.fresh (Nat.le_succ t1.heap.objs.size)
  have fresh0 := J.hok.fresh (Nat.le_refl t1.heap.objs.size)
  have promise := want _ _ fresh1 fresh0 (Nat.ne_of_lt (Nat.lt_succ_self _))
  have J2 := Inv.made (C := C) J
  have rel2 : Vals (V.ref (t1.heap.objs.size + 1) :: vs) (Value.ref (t1.heap.objs.size + 1) :: us) := .cons rfl rel
  have many : (Value.ref (t1.heap.objs.size + 1) :: us).length = ps.length := by
    rw [← rel2.length]
    exact F.len _ _ _ _ promise
  have bound := hb _ (Value.ref (t1.heap.objs.size + 1) :: us) J2.kIn (by rw [List.append_nil]; exact many)
  rw [List.append_nil] at bound
  have ran := F.run _ X.stack _ _ ⟨Value.ref (t1.heap.objs.size + 1) :: us, []⟩ _ _ _ (E σ) (hr.make C us []) (J2.env0.make C us []) bound rel2 promise
  refine wpAny_call (make_map (f := f) J.kIn M.makes M.init (beq_iff_eq.mp M.fn) (codeAny_mono ran ?_))
  rintro (z | fl) t2 post
  · exact hx σ pins _ _ z t2 J2 post
  · match fl, post with
    | .ret u, post =>
      obtain ⟨v, G2, J3, rv, ev, q3⟩ := J2.after post
      subst ev
      exact ⟨rv, V.ref (t1.heap.objs.size + 1), G2, J3, rfl, q3⟩
    | .next, post => exact False.elim post
    | .brk, post => exact False.elim post
    | .cont, post => exact False.elim post
end My

namespace My
open PySem PySem.Spec PyProof.Rows L2
/-! ### new lists that are not the table of modules; repr of such a list with {} in it -/
def rCatN : R2 := fun x y H Q => ∃ l b xs zs, x = .ref l ∧ y = .ref b ∧ H l = some (.lst xs) ∧ H b = some (.lst zs) ∧ xs.length + zs.length ≤ sizeLine ∧ ∀ p, H p = none → p ≠ sysModules → Q (.ref p) (upd H p (.lst (xs ++ zs)))
theorem op_catN {X : Cx} : OpR X (binaryOp .Add) rCatN := by
  rintro pins s σ H x y v u Q I rx ry ⟨l, b, xs, zs, rfl, rfl, hl, hb, fits, q⟩
  cases rx
  cases ry
  obtain ⟨_, i1, _, v1, n1, g1⟩ := I.lstM hl
  obtain ⟨_, i2, _, v2, n2, g2⟩ := I.lstM hb
  refine PySem.P.add_list g1 g2 ?_ ?_
  · rw [show i1.toArray ++ i2.toArray = (i1 ++ i2).toArray by simp]
    have far : s.heap.objs.size ≠ sysModules := Nat.ne_of_gt I.big
    refine ⟨.ref _, _, I.lnew (t' := s.toks) (v1.append v2) ?_, rfl, q _ I.fresh far⟩
    rw [List.length_append]
    exact fits
  · rw [List.size_toArray, List.size_toArray]
    omega
def tRevLN (K : PySem.W.Frag) (te : TE) : TE := fun σ H Q => te σ H fun x H1 => ∃ a xs, x = .ref a ∧ SqL K H1 a xs ∧ ∀ p, H1 p = none → p ≠ sysModules → Q (.ref p) (upd H1 p (.lst xs.reverse))
theorem pe_revLN {X : Cx} {e : Expr} {te : TE} {k : Nat} {p1 p2 p3 pos : Pos} (he : PE X e te) : PE X (.Subscript e (.Slice none none (some (.UnaryOp .USub (.Constant (.int 1) k p1) p2)) p3) pos) (tRevLN X.K te) := by
  refine ⟨fun pins s σ H Q I h => Subscript_ (thn (he.run pins s σ H _ I h) fun v s1 hv => ?_)⟩
  obtain ⟨x, H1, I1, r1, a, xs, rfl, hx, q⟩ := hv
  cases r1
  have part : PO X (some (.UnaryOp .USub (.Constant (.int 1) k p1) p2)) (tPart (tUn (rU fun i => .int (-i)) (tC (.int 1)))) := po_some (pe_un un_neg pe_int)
  refine wpAny_Slice (thn (po_none.run pins s1 σ H1 (fun o H2 => o = none ∧ H2 = H1) I1 ⟨rfl, rfl⟩) fun vl s2 h2 => ?_)
  obtain ⟨_, H2, I2, pl, rfl, rfl⟩ := h2
  refine thn (po_none.run pins s2 σ H2 (fun o H3 => o = none ∧ H3 = H2) I2 ⟨rfl, rfl⟩) fun vu s3 h3 => ?_
  obtain ⟨_, H3, I3, pu, rfl, rfl⟩ := h3
  refine thn (part.run pins s3 σ H3 (fun o H4 => o = some (-1) ∧ H4 = H3) I3 ⟨1, rfl, -1, rfl, rfl, rfl⟩) fun vs s4 h4 => ?_
  obtain ⟨_, H4, I4, ps, rfl, rfl⟩ := h4
  have I5 : Inv X pins σ H4 { s4 with heap := s4.heap.push { cls := .type "slice", data := .fields #[vl, vu, vs] } } := I4.kept (t' := s4.toks) fun b ob q => Heap.get?_push_of_some _ q
  obtain ⟨its, r, ht, hz⟩ := I5.list hx
  have hlen := r.length
  show wpAny (model X.prog X.w) X.A (subscriptTail e (.Slice none none (some (.UnaryOp .USub (.Constant (.int 1) k p1) p2)) p3) (.ref a) (.ref s4.heap.objs.size)) (EP X pins σ Q) X.xe { s4 with heap := s4.heap.push { cls := .type "slice", data := .fields #[vl, vu, vs] } }
  refine tail_any (ops := [.ref a, .ref s4.heap.objs.size]) (ht.isList.typeIs) (PySem.slot_list_getitem.lookup) ?_ (by with_unfolding_all rfl)
  refine wpAny_getItem_list_slice ht.isList (Heap.IsSliceOf.new _ vl vu vs) pl pu ps (by decide) ?_ (by rw [List.size_toArray]; omega)
  rw [PySem.W.krv_pick]
  have room : xs.reverse.length ≤ sizeLine := by rw [List.length_reverse]; exact hz
  exact ⟨.ref _, _, I5.laid (t' := s4.toks) (o := .lst xs.reverse) (fun b ob q => Heap.get?_push_of_some _ q) (Nat.le_refl _) ⟨room, _, 0, r.reverse, Heap.get?_push_size _ rfl⟩, rfl, q _ (I5.hok.fresh (Nat.le_refl _)) (Nat.ne_of_gt I5.big)⟩
/-- a list at an address of its own: its items hold no other list -/
structure rReprL (xs : List V) (H : Hp) (Q : VK) : Prop where
  ex : ∃ a ys ds, xs = [.ref a] ∧ a ≠ sysModules ∧ H a = some (.lst ys) ∧ DaAll H ys ds ∧ noLs ds = true ∧ (PyData.list ds).showable = true ∧ (PyData.list ds).depth ≤ 60 ∧ (PyData.list ds).shown.length ≤ sizeLine ∧ Q (.str (PyData.list ds).shown) H
def rReprE (xs : List V) (H : Hp) (Q : VK) : Prop := rReprD xs H Q ∨ rReprL xs H Q
theorem call_reprE {X : Cx} (quiet : X.A.guards = some []) (hu : X.A.units + 64 < cLine) : CallR X (.builtin "repr") rReprE := by
  rintro pins s σ H xs us Q I r (h | ⟨a, ys, ds, rfl, far, ha, hall, no, h1, h3, h4, q⟩)
  · exact call_reprD quiet hu pins s σ H xs us Q I r h
  · obtain ⟨u, rfl, ru⟩ := vals1 r
    cases (show u = Value.ref a from ru)
    obtain ⟨_, its, n, rv, ho⟩ := I.hok _ _ ha
    obtain ⟨as, ra, nas⟩ := Da.readsAll I ds _ its hall rv
    have rd : Reads s.heap (.ref a) (.list ds) (a :: as) := .list ho rfl rfl (by simpa using ra)
    have off : (PyData.list ds).hasDict = true → sysModules ∉ a :: as := fun _ m => by
      rcases List.mem_cons.mp m with m | m
      · exact far m.symm
      · exact nas no m
    exact PySem.repr_of_reads' rd h1 off quiet (by omega) (fun _ _ z => z) (fun h' v tk k => ⟨.str (PyData.list ds).shown, H, I.kept k, ⟨_, rfl⟩, q⟩) h4
end My

namespace My
open PySem PySem.Spec PyProof.Rows L2
/-! ### small data, and how long their repr is (ints below 10 ^ 50) -/
mutual
/-- how many tuples and lists there are -/
def nodes : PyData → Nat
  | .tuple ds => 1 + nodesL ds
  | .list ds => 1 + nodesL ds
  | .none | .bool _ | .int _ | .str _ | .dict _ => 1
def nodesL : List PyData → Nat
  | [] => 0
  | d :: r => nodes d + nodesL r
end
theorem nodesL_app : ∀ a b : List PyData, nodesL (a ++ b) = nodesL a + nodesL b
  | [], b => by simp [nodesL]
  | d :: r, b => by
    rw [List.cons_append]
    simp only [nodesL]
    rw [nodesL_app r b, Nat.add_assoc]
mutual
def smB : PyData → Bool
  | .str z => decide (z.length ≤ 100) && z.cps.toList.all fun c => decide (c < 1114112)
  | .int i => decide (i.natAbs < 10 ^ 50)
  | .tuple ds => smL ds
  | .list ds => smL ds
  | .dict kvs => kvs.isEmpty
  | .none | .bool _ => true
def smL : List PyData → Bool
  | [] => true
  | d :: r => smB d && smL r
end
theorem sm_str {z : Str} (h : smB (.str z) = true) : z.length ≤ 100 ∧ ∀ c ∈ z.cps.toList, c < 1114112 := by
  simp only [smB, Bool.and_eq_true, decide_eq_true_eq, List.all_eq_true] at h
  exact h
theorem textFrom_piled : ∀ (ts : List Str) (k : Nat) (acc : Str), (textFrom k acc ts).length ≤ acc.length + piled ts
  | [], k, acc => by
    show acc.length ≤ acc.length + _
    omega
  | t :: r, k, acc => by
    have ih := textFrom_piled r (k + 1) (acc ++ (if k > 0 then ", " else "" : String) ++ t)
    have e : (acc ++ (if k > 0 then ", " else "" : String) ++ t : Str).length ≤ acc.length + 2 + t.length := by
      rw [strLen_append, strLen_append]
      have z : ((if k > 0 then ", " else "" : String) : Str).length ≤ 2 := by
        split
        · exact Nat.le_refl 2
        · exact Nat.zero_le 2
      omega
    rw [piled_cons]
    show (textFrom (k + 1) _ r).length ≤ _
    omega
theorem listText_piled (ts : List Str) : (listText ts).length ≤ 2 + piled ts := by
  have z := textFrom_piled ts 0 "["
  unfold listText
  rw [strLen_append]
  have e1 : ("[" : Str).length = 1 := rfl
  have e2 : ("]" : Str).length = 1 := rfl
  omega
theorem tupleText_piled (ts : List Str) : (tupleText ts).length ≤ 3 + piled ts := by
  unfold tupleText
  rw [strLen_append, strLen_append]
  have e1 : ("(" : Str).length = 1 := rfl
  have e2 : ((if ts.length == 1 then ",)" else ")" : String) : Str).length ≤ 2 := by
    split
    · exact Nat.le_refl 2
    · exact Nat.le_succ 1
  cases ts with
  | nil =>
    have e3 : (Str.join ", " []).length = 0 := rfl
    omega
  | cons t r =>
    have y := join_length_add (t :: r) (fun z => nomatch z)
    omega
theorem int_log {i : Int} (h : i.natAbs < 10 ^ 50) : i.natAbs.log2 < 1920 := by
  by_cases z : i.natAbs = 0
  · rw [z]
    decide
  · have y := (Nat.log2_lt z (k := 1920)).mpr (Nat.lt_trans h (by decide))
    exact y
mutual
theorem sm_show : ∀ d : PyData, smB d = true → d.showable = true ∧ d.shown.length + 5 ≤ 2010 * nodes d
  | .none, _ => by
    refine ⟨by simp only [PyData.showable], ?_⟩
    simp only [nodes]
    exact Nat.le_trans (show (PyData.none).shown.length + 5 ≤ 100 by decide +kernel) (by decide)
  | .bool b, _ => by
    refine ⟨by simp only [PyData.showable], ?_⟩
    simp only [nodes]
    cases b
    · exact Nat.le_trans (show (PyData.bool false).shown.length + 5 ≤ 100 by decide +kernel) (by decide)
    · exact Nat.le_trans (show (PyData.bool true).shown.length + 5 ≤ 100 by decide +kernel) (by decide)
  | .int i, h => by
    simp only [smB, decide_eq_true_eq] at h
    have l := int_log h
    refine ⟨by simp only [PyData.showable, decide_eq_true_eq]; exact l, ?_⟩
    simp only [nodes, PyData.shown]
    have z : (Str.ofString (toString i)).length ≤ 1921 := by
      rw [PySem.ofString_length]
      exact int_text_length_le (by decide) l
    omega
  | .str z, h => by
    obtain ⟨h1, h2⟩ := sm_str h
    refine ⟨by simp only [PyData.showable], ?_⟩
    have rt := PySem.StrLaws.reprText_len z fun c hc => Nat.lt_trans (h2 c hc) (by decide)
    simp only [nodes]
    rw [PyData.shown]
    omega
  | .list ds, h => by
    simp only [smB] at h
    obtain ⟨a, b⟩ := sm_shows ds h
    refine ⟨by simp only [PyData.showable]; exact a, ?_⟩
    rw [PyData.shown]
    have y := listText_piled (PyData.shownAll ds)
    simp only [nodes]
    omega
  | .tuple ds, h => by
    simp only [smB] at h
    obtain ⟨a, b⟩ := sm_shows ds h
    refine ⟨by simp only [PyData.showable]; exact a, ?_⟩
    rw [PyData.shown]
    have y := tupleText_piled (PyData.shownAll ds)
    simp only [nodes]
    omega
  | .dict kvs, h => by
    simp only [smB, List.isEmpty_iff] at h
    subst h
    refine ⟨by simp only [PyData.showable, PyData.showableKv], ?_⟩
    simp only [nodes]
    exact Nat.le_trans (show (PyData.dict []).shown.length + 5 ≤ 100 by decide +kernel) (by decide)
theorem sm_shows : ∀ ds : List PyData, smL ds = true → PyData.showableAll ds = true ∧ piled (PyData.shownAll ds) ≤ 2010 * nodesL ds
  | [], _ => ⟨by simp only [PyData.showableAll], by simp [PyData.shownAll, piled]⟩
  | d :: r, h => by
    simp only [smL, Bool.and_eq_true] at h
    obtain ⟨a, b⟩ := sm_show d h.1
    obtain ⟨a', b'⟩ := sm_shows r h.2
    refine ⟨by simp only [PyData.showableAll, a, a', Bool.and_self], ?_⟩
    simp only [PyData.shownAll, nodesL]
    rw [piled_cons]
    omega
end
theorem smL_app : ∀ a b : List PyData, smL (a ++ b) = (smL a && smL b)
  | [], b => by simp [smL]
  | d :: r, b => by
    rw [List.cons_append]
    simp only [smL]
    rw [smL_app r b, Bool.and_assoc]
theorem smL_all (ds : List PyData) : smL ds = ds.all smB := by
  induction ds with
  | nil => simp [smL]
  | cons d r ih => simp only [smL, List.all_cons, ih]
theorem ne_self (x : V) : V.bl (!decide (x = x)) = V.bl false := by simp
end My

namespace My
open PySem PySem.Spec PyProof.Rows L2
/-! ### an instance's own special methods: len(o), bool(o), o[i], x in o, o + y; static methods; properties -/
/-- the class (or one above it) has a plain def of this name -/
structure OwnM (K : PySem.W.Frag) (C : Addr) (m : Str) (g : Addr) : Prop where
  at_ : PySem.W.findIn K (.ref C) m = some (some (.ref g))
  fn : PySem.W.isFn K (.ref g) = true
  fi : PySem.W.fnIn K g = true
  kp : PySem.W.keepIn K (.ref g) = true
theorem OwnM.meth {K : PySem.W.Frag} {C g : Addr} {m : Str} (M : OwnM K C m g) : Meth K C m g := ⟨M.at_, M.fn, M.kp⟩
/-- what is raised is never: a def whose promise wishes nothing of what it raises -/
theorem passE {P : Program} {w : World} {X : Cx} : Passes (L2.CX P w) X E0 := fun _ _ _ _ _ _ _ h => by
  obtain ⟨_, _, _, _, _, _, _, _, _, _, _, _, he⟩ := h
  exact False.elim he
section
variable {X : Cx} {CX : CXT} {k : Nat} {C g : Addr} {sp : Sp} {E : XK}
def rLenO (C : Addr) (sp : Sp) (E : XK) : List V → Hp → VK → Prop := fun xs H Q => ∃ a dx fs, xs = [V.ref a] ∧ H a = some (.ins C dx fs) ∧ sp [.ref a] H (fun v H' => ∃ n : Int, v = .int n ∧ 0 ≤ n ∧ n < 2 ^ 63 ∧ Q (.int n) H') E
theorem call_lenO (M : OwnM X.K C "__len__" g) (F : FnR X.prog X.w X.K X.mg X.base CX k g sp) (hr : Room (k + 1) X.A) (hx : Passes CX X E) : CallR X (.builtin "len") (rLenO C sp E) := by
  intro pins s σ H xs us Q I r h
  obtain ⟨a, dx, fs, rfl, ha, q⟩ := h
  obtain ⟨u, rfl, ru⟩ := vals1 r
  cases (show u = Value.ref a from ru)
  obtain ⟨mA, O, _⟩ := ins_get I.hok ha
  obtain ⟨od, J, _⟩ := O.look
  obtain ⟨m, hF⟩ := I.fr
  refine PySem.W.len_K hF I.ok.mod.kin J M.at_ M.fn (wpAny_mono (wpAny_call (SlX.run_at (us := [.ref a]) (ws := [.ref a]) F hr.in1 I.env0.in1 hx I (.cons rfl .nil) q)) (fun v s' z => ?_) fun _ _ x => x)
  obtain ⟨z', H', I', rz, n, ez, h0, h1, qz⟩ := z
  subst ez
  obtain ⟨t, e⟩ := (show ∃ t, v = Value.int n t from rz)
  cases e
  exact ⟨⟨h0, h1⟩, .int n, H', I'.tok _, ⟨_, rfl⟩, qz⟩
/-- an instance's truth -/
def rTruO (C : Addr) (sp : Sp) (E : XK) : V → Hp → (Bool → Hp → Prop) → Prop := fun x H Q => ∃ a dx fs, x = V.ref a ∧ H a = some (.ins C dx fs) ∧ sp [.ref a] H (fun v H' => ∃ b, v = .bl b ∧ Q b H') E
theorem truO {A : Around} {pins : List (Addr × Obj)} {s : Shared} {σ : L2.St} {H : Hp} {x : V} {v : Value} {Q : Bool → Hp → Prop} (M : OwnM X.K C "__bool__" g) (F : FnR X.prog X.w X.K X.mg X.base CX k g sp) (hr : Room k A)
    (e0 : Env0 X.prog X.w X.K X.mg X.base A X.stack s H) (hx : Passes CX X E) (I : Inv X pins σ H s) (rx : RelV x v) (h : rTruO C sp E x H Q) : wpAny (model X.prog X.w) A (truthy v) (TP X pins σ Q) X.xe s := by
  obtain ⟨a, dx, fs, rfl, ha, q⟩ := h
  cases (show v = Value.ref a from rx)
  obtain ⟨mA, O, _⟩ := ins_get I.hok ha
  obtain ⟨od, J, _⟩ := O.look
  obtain ⟨m, hF⟩ := I.fr
  refine PySem.W.truthy_K hF I.ok.mod.kin J M.at_ M.fn (wpAny_mono (wpAny_call (SlX.run_at (us := [.ref a]) (ws := [.ref a]) F hr e0 hx I (.cons rfl .nil) q)) (fun v s' z => ?_) fun _ _ x => x)
  obtain ⟨z', H', I', rz, b, ez, qz⟩ := z
  subst ez
  cases (show v = Value.bool b from rz)
  exact ⟨H', I', qz⟩
/-- bool(x), by what truthy says -/
theorem bool_new {prog : Program} {w : World} {A : Around} {R : Result → Shared → Prop} {s : Shared} {x : Value} {E : Value → Shared → Prop} (h : wpAny (model prog w) A.in1 (truthy x) (fun b s' => R (.ok (.ret (.bool b))) s') (fun e s' => R (.error e) s') s) :
    wpAny (model prog w) A.in1 (Builtin.«bool.__new__» ⟨[.type "bool", x], []⟩) (fun fin s' => match fin with | .done f => R (.ok f) s' | .again c' => c'.quiet = true ∧ codeAny (model prog w) A c' R s') (fun e s' => R (.error e) s') s := by
  have f1 := PySem.F.conv_sub_bool
  repeat (any_goals (first | assumption | (refine wpAny_bind (wpAny_mono h (fun _ _ z => ?_) fun _ _ z => z)) | wp_step))
theorem call_boolV {prog : Program} {w : World} {A : Around} {s : Shared} {x : Value} {Q E : Value → Shared → Prop} (h : wpAny (model prog w) A.in1.in1 (truthy x) (fun b s' => Q (.bool b) s') E s) : wpAny (model prog w) A (call (.type "bool") [x]) Q E s := by
  refine callType_codes (T := "bool") (Bi := Builtin.«object.__init__») (Q₁ := fun obj s₁ => s₁.TypeIs obj "bool" ∧ Q obj s₁) PySem.F.called_bool (PySem.F.typeCall_bool_1 x) PySem.F.entry_object_init ?_ ?_
  · refine codeAny_of_tree ?_
    show wpAny _ A.in1.in1 (do checkBuiltinCall "bool.__new__" ⟨[.type "bool", x], []⟩; again (.builtin "bool.__new__" ⟨[.type "bool", x], []⟩)) _ _ s
    refine wpAny_bind (wpAny_of_eq (PySem.F.newCall_bool_1 x) (wpAny_pure ⟨plainId_quiet (by decide +kernel) _, codeAny_builtin PySem.F.entry_bool_new ?_⟩))
    rw [Around.under_plainId (by decide +kernel) _]
    refine bool_new (A := A.in1) (R := PySem.wants (fun obj s₁ => s₁.TypeIs obj "bool" ∧ Q obj s₁) E) (E := E) (wpAny_mono h (fun b s' q => ?_) fun _ _ z => z)
    exact ⟨rfl, q⟩
  · rintro obj s₁ ⟨ht, hq⟩
    exact ⟨ht, PySem.F.args_object_init_2 _ _, object_init_meets PySem.F.called_bool.init.lookup PySem.F.called_bool.made (by decide) prog w A.in1 _ s₁ ⟨ht, rfl, hq⟩⟩
def rBoolO (C : Addr) (sp : Sp) (E : XK) : List V → Hp → VK → Prop := fun xs H Q => ∃ x, xs = [x] ∧ rTruO C sp E x H fun b H' => Q (.bl b) H'
theorem call_boolO (M : OwnM X.K C "__bool__" g) (F : FnR X.prog X.w X.K X.mg X.base CX k g sp) (hr : Room (k + 2) X.A) (hx : Passes CX X E) : CallR X (.type "bool") (rBoolO C sp E) := by
  intro pins s σ H xs us Q I r h
  obtain ⟨x, rfl, h⟩ := h
  obtain ⟨u, rfl, ru⟩ := vals1 r
  have hr2 : Room k X.A.in1.in1 := (show Room (k + 1) X.A.in1 from Room.in1 hr).in1
  refine call_boolV (wpAny_mono (truO M F hr2 I.env0.in1.in1 hx I ru h) (fun b s' z => ?_) fun _ _ z => z)
  obtain ⟨H', I', q⟩ := z
  exact ⟨.bl b, H', I', rfl, q⟩
/-- bool(a tuple) -/
def rBoolT (K : PySem.W.Frag) : List V → Hp → VK → Prop := fun xs H Q => ∃ a ys, xs = [V.ref a] ∧ SqT K H a ys ∧ Q (.bl (!ys.isEmpty)) H
theorem call_boolT : CallR X (.type "bool") (rBoolT X.K) := by
  intro pins s σ H xs us Q I r h
  obtain ⟨a, ys, rfl, hs, q⟩ := h
  obtain ⟨u, rfl, ru⟩ := vals1 r
  cases (show u = Value.ref a from ru)
  obtain ⟨its, rv, pl, hz⟩ := I.tuple hs
  have hl := line63
  have hlen := rv.length
  refine call_boolV (truthy_tuple pl (by simp only [List.size_toArray]; omega) ?_)
  exact ⟨.bl (!ys.isEmpty), H, I.tok _, by rw [isEmpty_of rv]; rfl, q⟩
/-- sum(a tuple of ints) -/
def rSumT (K : PySem.W.Frag) : List V → Hp → VK → Prop := fun vs H Q => ∃ (a : Addr) (ns : List Int), vs = [V.ref a] ∧ SqT K H a (ns.map V.int) ∧ Q (.int ns.sum) H
theorem call_sumT (hc : X.calm = true) : CallR X (.builtin "sum") (rSumT X.K) := by
  intro pins s σ H vs us Q I r h
  obtain ⟨a, ns, rfl, hs, q⟩ := h
  obtain ⟨its, rv, pl, _⟩ := I.tuple hs
  obtain ⟨u, rfl, ru⟩ := vals1 r
  cases (show u = Value.ref a from ru)
  have hi := rv.ints
  obtain ⟨xs, hx⟩ := hi.allInts.items
  have hn : numsOf its.toArray.toList = ns := by rw [show its.toArray.toList = its from rfl, hi.numsOf]
  have pl' : s.heap.IsTuple a its.toArray := pl
  rw [hx] at pl' hn
  rw [nums_intItems] at hn
  refine PySem.W.ktm_sumG (I.ok.hd hc) pl' fun h' tk t' hk => ?_
  rw [preSum_eq, List.take_of_length_le (by simp), hn]
  exact ⟨.int _, H, I.kept hk, ⟨_, rfl⟩, q⟩
/-- o[i] of an instance -/
def rIxO (C : Addr) (sp : Sp) (E : XK) : R2 := fun x y H Q => ∃ a dx fs, x = .ref a ∧ H a = some (.ins C dx fs) ∧ sp [.ref a, y] H Q E
def OwnIx (b : Expr) : Prop := ∀ o i, subscripted b true o i = runValue (.builtin "lifetime.subscript" ⟨[o, i], []⟩)
theorem pe_ixO {a b : Expr} {ta tb : TE} {pos : Pos} (M : OwnM X.K C "__getitem__" g) (F : FnR X.prog X.w X.K X.mg X.base CX k g sp) (hr : Room (k + 1) X.A) (hx : Passes CX X E) (ha : PE X a ta) (hb : PE X b tb) (hs : OwnIx b) :
    PE X (.Subscript a b pos) (tOp (rIxO C sp E) ta tb) := by
  refine ⟨fun pins s σ H Q I h => ?_⟩
  refine Subscript_ (binT ha hb I h fun v u s2 x y H2 I2 rx ry q => ?_)
  obtain ⟨a', dx, fs, rfl, ea, q⟩ := q
  cases (show v = Value.ref a' from rx)
  obtain ⟨mA, O, _⟩ := ins_get I2.hok ea
  obtain ⟨od, J, _⟩ := O.look
  obtain ⟨m, hF⟩ := I2.fr
  exact PySem.W.sub_K hF I2.ok.mod.kin J M.at_ M.fi M.fn (wpAny_call (SlX.run_at (us := [.ref a', u]) (ws := [.ref a', y]) F hr.in1 I2.env0.in1 hx I2 (.cons rfl (.cons ry .nil)) q)) (hs _ _)
/-- x in o of an instance: its __contains__ hands back a bool -/
def rInO (C : Addr) (sp : Sp) (E : XK) (f : Bool → Bool) : R2 := fun x y H Q => ∃ a dx fs, y = .ref a ∧ H a = some (.ins C dx fs) ∧ sp [.ref a, x] H (fun v H' => ∃ b, v = .bl b ∧ Q (.bl (f b)) H') E
theorem op_inO (M : OwnM X.K C "__contains__" g) (F : FnR X.prog X.w X.K X.mg X.base CX k g sp) (hr : Room k X.A) (hx : Passes CX X E) : OpR X (compareOp .In) (rInO C sp E id) := by
  intro pins s σ H x y v u Q I rx ry h
  obtain ⟨a, dx, fs, rfl, ea, q⟩ := h
  cases (show u = Value.ref a from ry)
  obtain ⟨mA, O, _⟩ := ins_get I.hok ea
  obtain ⟨od, J, _⟩ := O.look
  obtain ⟨m, hF⟩ := I.fr
  refine PySem.W.in_K hF I.ok.mod.kin J M.at_ M.fn (wpAny_mono (wpAny_call (run_fnR (us := [.ref a, v]) (vs := [.ref a, x]) F hr hx I (.cons rfl (.cons rx .nil)) q)) (fun z s' hz => ?_) fun _ _ z => z)
  obtain ⟨z', H', I', rz, b, ez, qz⟩ := hz
  subst ez
  cases (show z = Value.bool b from rz)
  exact wpAny_truthy_bool ⟨.bl b, H', I', rfl, qz⟩
/-- x op y by x's own method, y of the same class -/
def rBinO (C : Addr) (sp : Sp) (E : XK) : R2 := fun x y H Q => ∃ a dx fs b dy gs, x = .ref a ∧ H a = some (.ins C dx fs) ∧ y = .ref b ∧ H b = some (.ins C dy gs) ∧ sp [.ref a, .ref b] H Q E
theorem op_binO {op : Operator} {m : Str} (hm : PySem.dunder op.info.2 = m) (first : PySem.W.selfFirst X.K C = true) (M : OwnM X.K C m g) (F : FnR X.prog X.w X.K X.mg X.base CX k g sp) (hr : Room k X.A) (hx : Passes CX X E) : OpR X (binaryOp op) (rBinO C sp E) := by
  intro pins s σ H x y v u Q I rx ry h
  obtain ⟨a, dx, fs, b, dy, gs, rfl, ea, rfl, eb, q⟩ := h
  cases (show v = Value.ref a from rx)
  cases (show u = Value.ref b from ry)
  obtain ⟨mA, O, _⟩ := ins_get I.hok ea
  obtain ⟨od, J, _⟩ := O.look
  obtain ⟨mB, O2, _⟩ := ins_get I.hok eb
  obtain ⟨od2, J2, _⟩ := O2.look
  obtain ⟨m', hF⟩ := I.fr
  refine PySem.W.binop_K hF I.ok.mod.kin J J2.type first (by rw [hm]; exact M.at_) M.fn (wpAny_mono (wpAny_call (run_fnR (us := [.ref a, .ref b]) (vs := [.ref a, .ref b]) F hr hx I (.cons rfl (.cons rfl .nil)) q)) (fun z s' hz => ?_) fun _ _ z => z)
  obtain ⟨z', H', I', rz, qz⟩ := hz
  exact SlX.cmpback rz ⟨z', H', I', rz, qz⟩
/-- what the model's binary operators ask of the class and of int -/
structure BinI (K : PySem.W.Frag) (C : Addr) (m rm : Str) (T : String) : Prop where
  r : ∃ rc, PySem.W.findIn K (.ref C) rm = some rc ∧ (rc = none ∨ ∃ g : Addr, rc = some (.ref g))
  t1 : ∃ fo, PySem.W.findIn K (.type T) m = some fo
  t2 : ∃ ro, PySem.W.findIn K (.type T) rm = some ro
  sub : PySem.W.subIn K (.type T) (.ref C) = some false
/-- x op i by x's own method, i an int -/
def rBinI (C : Addr) (sp : Sp) (E : XK) : R2 := fun x y H Q => ∃ a dx fs i, x = .ref a ∧ H a = some (.ins C dx fs) ∧ y = .int i ∧ sp [.ref a, .int i] H Q E
theorem op_binI {op : Operator} {m rm : Str} (hm : PySem.dunder op.info.2 = m) (hrm : PySem.dunderR op.info.2 = rm) (first : PySem.W.selfFirst X.K C = true) (B : BinI X.K C m rm "int") (M : OwnM X.K C m g) (F : FnR X.prog X.w X.K X.mg X.base CX k g sp) (hr : Room k X.A) (hx : Passes CX X E) :
    OpR X (binaryOp op) (rBinI C sp E) := by
  intro pins s σ H x y v u Q I rx ry h
  obtain ⟨a, dx, fs, i, rfl, ea, rfl, q⟩ := h
  cases (show v = Value.ref a from rx)
  obtain ⟨t, rfl⟩ := (show ∃ t, u = Value.int i t from ry)
  obtain ⟨mA, O, _⟩ := ins_get I.hok ea
  obtain ⟨od, J, _⟩ := O.look
  obtain ⟨m', hF⟩ := I.fr
  obtain ⟨rc, hrc, hp⟩ := B.r
  obtain ⟨fo, h1⟩ := B.t1
  obtain ⟨ro, h2⟩ := B.t2
  refine PySem.W.ksp_binT hF I.ok.mod.kin J (T := "int") (by rfl) first (by rw [hm]; exact M.at_) M.fn (by rw [hrm]; exact hrc) hp (by rw [hm]; exact h1) (by rw [hrm]; exact h2) B.sub (wpAny_mono (wpAny_call (run_fnR (us := [.ref a, .int i t]) (vs := [.ref a, .int i]) F hr hx I (.cons rfl (.cons ⟨t, rfl⟩ .nil)) q)) (fun z s' hz => ?_) fun _ _ z => z)
  obtain ⟨z', H', I', rz, qz⟩ := hz
  exact SlX.cmpback rz ⟨z', H', I', rz, qz⟩
/-- C.m(e, ..), m a static method -/
structure SMet (K : PySem.W.Frag) (C : Addr) (mc : Value) (m : Str) (p g : Addr) : Prop where
  at_ : PySem.W.findCls K (.ref C) mc m = some (.get (.builtin "staticmethod.__get__") (.ref p) .none (.ref C))
  rc : ∃ rest, PySem.W.recIn K p "staticmethod" = some (.ref g :: rest)
  kp : PySem.W.keepIn K (.ref g) = true
theorem getsm_ok {pins : List (Addr × Obj)} {σ : L2.St} {H : Hp} {s : Shared} {mc : Value} {m : Str} {p : Addr} {pl : Sem Bool} {Q : Value × List Value → Shared → Prop} {A : Around} {E' : Value → Shared → Prop} (I : Inv X pins σ H s) (r : ClX.CRead X.K C mc) (c : SMet X.K C mc m p g)
    (h : ∀ s', Inv X pins σ H s' → Q (.ref g, []) s') : wpAny (model X.prog X.w) A (getMethod (.ref C) m pl) Q E' s := by
  obtain ⟨rest, hp⟩ := c.rc
  refine PySem.W.method_cls I.kIn r.ga ?_
  refine PySem.W.cls_bind I.kIn r.rd c.at_ (wpAny_call (PySem.W.sm_get (s := { s with toks := s.toks + 1 }) I.kIn hp (PySem.W.handed_on rfl ?_)))
  exact h _ (I.tok _)
def tSMeth (C : Addr) (sp : Sp) (E : XK) (ta : TE) (t : TA) : TE := fun σ H Q => ta σ H fun x H1 => x = .ref C ∧ t σ H1 fun vs H2 => sp vs H2 Q E
theorem pe_smeth {mc : Value} {m : Str} {p : Addr} {o e : Expr} {es : List Expr} {pos apos : Pos} {ta : TE} {t : TA} {pl : Sem Bool} (he : PE X o ta) (r : ClX.CRead X.K C mc) (c : SMet X.K C mc m p g) (F : FnR X.prog X.w X.K X.mg X.base CX k g sp) (hr : Room k X.A) (hx : Passes CX X E) (ha : PA X (e :: es) t)
    (hst : starEach (e :: es) X.env = (false, eval e X.env) :: starEach es X.env := by rfl) (hpl : (backTo pos (starEach es X.env)).any (·.1) = false := by rfl)
    (ht : eval (.Call (.Attribute o m apos) (e :: es) [] pos) X.env = (do
      let ov ← eval o X.env
      standAt apos.atName
      let (f, first) ← holding [ov] (getMethod ov m pl)
      callWith pos f first (backTo pos (starEach (e :: es) X.env)) (backToKw pos (keywordEach [] X.env))) := by rfl) :
    PE X (.Call (.Attribute o m apos) (e :: es) [] pos) (tSMeth C sp E ta t) := by
  refine ⟨fun pins s σ H Q I h => ?_⟩
  refine PySem.W.methodCall_KW (pl := pl) (thn (he.run pins s σ H _ I h) fun u s1 ⟨x, H1, I1, rx, ex, q⟩ => ?_) ht
  subst ex
  obtain rfl : u = Value.ref C := rx
  refine getsm_ok I1 r c fun s2 I2 => ?_
  refine PySem.W.callWith_K (first := []) (h₀ := X.base) I.ok.mod.kin c.kp (thn (ha.run pos pins s2 σ H1 _ I2 q) fun us s3 ⟨vs, H2, I3, rv, q2⟩ => ⟨I3.kIn, ?_⟩) hst hpl
  exact wpAny_call (run_fnR F hr hx I3 rv q2)
theorem pe_smeth0 {mc : Value} {m : Str} {p : Addr} {o : Expr} {pos apos : Pos} {ta : TE} {pl : Sem Bool} (he : PE X o ta) (r : ClX.CRead X.K C mc) (c : SMet X.K C mc m p g) (F : FnR X.prog X.w X.K X.mg X.base CX k g sp) (hr : Room k X.A) (hx : Passes CX X E)
    (ht : eval (.Call (.Attribute o m apos) [] [] pos) X.env = (do
      let ov ← eval o X.env
      standAt apos.atName
      let (f, first) ← holding [ov] (getMethod ov m pl)
      callWith pos f first (backTo pos (starEach [] X.env)) (backToKw pos (keywordEach [] X.env))) := by rfl) :
    PE X (.Call (.Attribute o m apos) [] [] pos) (tSMeth C sp E ta tNil) := by
  refine ⟨fun pins s σ H Q I h => ?_⟩
  refine PySem.W.methodCall_KW (pl := pl) (thn (he.run pins s σ H _ I h) fun u s1 ⟨x, H1, I1, rx, ex, q⟩ => ?_) ht
  subst ex
  obtain rfl : u = Value.ref C := rx
  refine getsm_ok I1 r c fun s2 I2 => ?_
  exact PySem.W.callWith_K0 (first := []) I2.kIn c.kp (wpAny_call (run_fnR (us := []) F hr hx I2 .nil q))
end
end My

namespace My
open PySem PySem.Spec PyProof.Rows L2
/-! ### the text by places -/
def topS (i : Nat) : Stmt := PySem.Challenge.pw_layoutswap_k33_records_recognized.main.body.getD i (.Pass ⟨0, 0, 0, 0⟩)
abbrev s_law_mixed : Stmt := topS 33
theorem sc_law_mixed : FnScope ["number", "lap", "prime", "found", "again"] ["number", "lap"] (defScope s_law_mixed) := ⟨rfl, rfl, rfl, by decide +kernel, rfl, by decide +kernel, by decide +kernel⟩
abbrev s_law_deck_of : Stmt := topS 34
theorem sc_law_deck_of : FnScope ["script", "cell", "cells", "place"] ["script"] (defScope s_law_deck_of) := ⟨rfl, rfl, rfl, by decide +kernel, rfl, by decide +kernel, by decide +kernel⟩
abbrev s_law_below : Stmt := topS 35
theorem sc_law_below : FnScope ["deck", "bound", "cells", "place", "amount", "found"] ["deck", "bound"] (defScope s_law_below) := ⟨rfl, rfl, rfl, by decide +kernel, rfl, by decide +kernel, by decide +kernel⟩
abbrev s_law_pick : Stmt := topS 36
theorem sc_law_pick : FnScope ["deck", "some"] ["deck", "some"] (defScope s_law_pick) := ⟨rfl, rfl, rfl, by decide +kernel, rfl, by decide +kernel, by decide +kernel⟩
/-! ### heaps -/
/-- all that was tracked is as it was, but what stands at p -/
def But (p : Addr) (H H' : Hp) : Prop := (∀ b o, H b = some o → b ≠ p → H' b = some o) ∧ H' p ≠ none
theorem But.trans {p : Addr} {H H1 H2 : Hp} (a : But p H H1) (b : But p H1 H2) : But p H H2 := ⟨fun c o e n => b.1 c o (a.1 c o e n) n, b.2⟩
theorem But.free {p : Addr} {H H' : Hp} (a : But p H H') {q : Addr} (h : H' q = none) : H q = none := by
  cases e : H q with
  | none => rfl
  | some o =>
    by_cases n : q = p
    · subst n
      exact absurd h a.2
    · rw [a.1 q o e n] at h
      cases h
theorem But.same {p : Addr} {H H1 H2 : Hp} (a : But p H H1) (b : Same H1 H2) : But p H H2 := ⟨fun c o e n => b c o (a.1 c o e n), fun z => by
  cases e : H1 p with
  | none => exact a.2 e
  | some o =>
    rw [b p o e] at z
    cases z⟩
theorem But.of {p : Addr} {H H1 : Hp} {o : HO} (h : H1 p = some o) (b : Same H H1) : But p H H1 := ⟨fun c o e n => b c o e, fun z => by
  rw [h] at z
  cases z⟩
theorem same_upd {H : Hp} {p : Addr} {o : HO} (h : H p = none) : Same H (upd H p o) := fun b x e => by
  rw [upd_ne (ne_of_none e h)]
  exact e
theorem but_upd {H : Hp} {p : Addr} {o : HO} : But p H (upd H p o) := ⟨fun b x e n => by
  rw [upd_ne n]
  exact e, fun z => by
  rw [upd_same] at z
  cases z⟩
/-- a pot at p, its cells at c -/
def Pot (H : Hp) (p c : Addr) : Prop := ∃ (ns : List Int) (pl am sz : Int), H p = some (.lst [.ref c, .int pl, .int am, .int sz]) ∧ H c = some (.lst (ns.map V.int)) ∧ ns.length ≤ 16
theorem pot_ne {H : Hp} {p c : Addr} {ns : List Int} {r : List V} (hp : H p = some (.lst (.ref c :: r))) (hc : H c = some (.lst (ns.map V.int))) : c ≠ p := fun z => by
  rw [z, hp] at hc
  cases ns with
  | nil => cases hc
  | cons x s => cases hc
theorem Pot.same {H H' : Hp} {p c : Addr} (h : Pot H p c) (s : Same H H') : Pot H' p c := by
  obtain ⟨ns, pl, am, sz, h1, h2, h3⟩ := h
  exact ⟨ns, pl, am, sz, s _ _ h1, s _ _ h2, h3⟩
theorem Pot.but {H H' : Hp} {p c q : Addr} (h : Pot H p c) (s : But q H H') (n1 : p ≠ q) (n2 : c ≠ q) : Pot H' p c := by
  obtain ⟨ns, pl, am, sz, h1, h2, h3⟩ := h
  exact ⟨ns, pl, am, sz, s.1 _ _ h1 n1, s.1 _ _ h2 n2, h3⟩
theorem at4 {x0 x1 x2 x3 : V} : atI [x0, x1, x2, x3] 0 = some x0 ∧ atI [x0, x1, x2, x3] 1 = some x1 ∧ atI [x0, x1, x2, x3] 2 = some x2 ∧ atI [x0, x1, x2, x3] 3 = some x3 := ⟨rfl, rfl, rfl, rfl⟩
theorem fmod_range {i j : Int} (h : 0 < j) : 0 ≤ i % j ∧ i % j < j := ⟨Int.emod_nonneg _ (by omega), Int.emod_lt_of_pos _ h⟩
theorem at_mod {ns : List Int} {pl : Int} (h : ns ≠ []) : ∃ z, atI (ns.map V.int) (pl % (ns.length : Int)) = some (.int z) := by
  have hl : 0 < ns.length := by
    cases ns with
    | nil => exact absurd rfl h
    | cons => exact Nat.succ_pos _
  have a := fmod_range (i := pl) (j := (ns.length : Int)) (by omega)
  obtain ⟨j, hj⟩ : ∃ j : Nat, pl % (ns.length : Int) = (j : Int) := ⟨(pl % (ns.length : Int)).toNat, by omega⟩
  have hjl : j < ns.length := by omega
  refine ⟨ns[j], ?_⟩
  rw [hj]
  refine atI_nat ?_
  rw [List.getElem?_map, List.getElem?_eq_getElem hjl]
  rfl
/-! ### data: lists of ints, of texts -/
theorem dp_ints {K : PySem.W.Frag} {H : Hp} : ∀ ns : List Int, DpAll K H (ns.map V.int) (ns.map PyData.int)
  | [] => .nil
  | n :: r => .cons (.int n) (dp_ints r)
theorem lay_ints : ∀ ns : List Int, PyData.canLayAll0 (ns.map PyData.int) = true
  | [] => by simp [PyData.canLayAll0]
  | n :: r => by simp [PyData.canLayAll0, PyData.canLay0, lay_ints r]
theorem dep_ints : ∀ ns : List Int, PyData.depthAll (ns.map PyData.int) ≤ 1
  | [] => by simp [PyData.depthAll]
  | n :: r => by
    have h := dep_ints r
    simp only [List.map_cons, PyData.depthAll, PyData.depth]
    omega
theorem sh_of {d : PyData} (h1 : d.canLay0 = true) (h2 : d.depth ≤ 64) : SeqAt.shaped d = true := by
  show (d.canLay0 && decide (d.depth ≤ 64)) = true
  rw [h1, decide_eq_true h2]
  rfl
theorem sh_ints (ns : List Int) : SeqAt.shaped (.list (ns.map PyData.int)) = true := by
  have h := dep_ints ns
  exact sh_of (by simp only [PyData.canLay0]; exact lay_ints ns) (by simp only [PyData.depth]; omega)
theorem sh_nil : SeqAt.shaped (.list []) = true := sh_of (by simp [PyData.canLay0, PyData.canLayAll0]) (by simp [PyData.depth, PyData.depthAll])
theorem eqv_nil : ∀ ds : List PyData, PyData.eqv (.list ds) (.list []) = decide (ds = [])
  | [] => by simp [PyData.eqv, PyData.eqvAll]
  | _ :: _ => by simp [PyData.eqv, PyData.eqvAll]
theorem pos16 : (0 : Int) < 16 := by decide
theorem posQ : (0 : Int) < 998244353 := by decide
theorem posP : (0 : Int) < 2305843009213693951 := by decide
/-! ### what the module holds -/
structure TxtD (mg : Str → Option Value) : Prop where
  n_int : mg "int" = none
  n_range : mg "range" = none
  n_abs : mg "abs" = none
  n_enumerate : mg "enumerate" = none
  n_len : mg "len" = none
/-! ### promises -/
def spMixed : Sp := fun vs H Q _ => ∃ (a b : Int), vs = [.int a, .int b] ∧ ∀ v, Q (.int v) H
def spDeckOf (K : PySem.W.Frag) : Sp := fun vs H Q _ => ∃ (a : Addr) (ns : List Int), vs = [.ref a] ∧ SqL K H a (ns.map V.int) ∧ ns.length ≤ 63 ∧ ∀ p c H', Same H H' → H p = none → H c = none → Pot H' p c → Q (.ref p) H'
def spBelow : Sp := fun vs H Q _ => ∃ (p c : Addr) (b : Int), vs = [.ref p, .int b] ∧ Pot H p c ∧ 0 < b ∧ b < 1073741824 ∧ ∀ v H', 0 ≤ v → v < b → Pot H' p c → But p H H' → Q (.int v) H'
def spPick (K : PySem.W.Frag) : Sp := fun vs H Q _ => ∃ (p c l : Addr) (xs : List V), vs = [.ref p, .ref l] ∧ Pot H p c ∧ SqL K H l xs ∧ xs ≠ [] ∧ xs.length < 1073741824 ∧ (∀ H', But p H H' → SqL K H' l xs) ∧ ∀ v H', v ∈ xs → Pot H' p c → But p H H' → Q v H'
section
variable {P : Program} {w : World} {K : PySem.W.Frag} {mg : Str → Option Value} {base : Heap}
theorem ok_mixed {f : Addr} {fd : FuncData} {k : Nat} (F : Fun K "_law_mixed" "_law_mixed" s_law_mixed f fd) (T : TxtD mg) : FnOk P w K mg base CX0 (k + 1) f fd ["number", "lap"] spMixed := by
  refine F.ok sc_law_mixed (fun vs H Q E h => ?_) (fun cdv A outer s H vs Q E hr h => ?_)
  · obtain ⟨a, b, rfl, _⟩ := h
    rfl
  · obtain ⟨a, b, rfl, q⟩ := h
    refine ⟨_, (pss_cons (ps_set (i := 2) sc_law_mixed.nd rfl (.inl rfl) pe_int)
  (pss_cons (ps_set (i := 3) sc_law_mixed.nd rfl (.inl rfl) (pe_op op_mod (pe_op op_add (pe_op op_add (pe_op op_mul (pv 0) pe_int) (pe_op op_mul (pv 1) pe_int)) pe_int) (pv 2)))
  (pss_cons (ps_for PassesOwn.never rfl (pi_range1 (by rfl) T.n_range (pa_cons pe_int pa_nil)) (pg_name (i := 4) sc_law_mixed.nd rfl (.inl rfl))
   (pss_one (ps_set (i := 3) sc_law_mixed.nd rfl (.inl rfl) (pe_op op_mod (pe_op op_add (pe_op op_add (pe_op op_add (pe_op op_mul (pv 3) (pv 3)) (pe_op op_mul pe_int (pv 3))) (pe_op op_mul pe_int (pv 4))) (pv 1)) (pv 2)))))
  (pss_one (ps_ret (pe_op op_add (pe_op op_mul (pv 3) (pv 2)) (pe_op op_mod (pe_op op_add (pe_op op_mul (pv 3) pe_int) (pv 1)) (pv 2)))))))), ?_⟩
    refine ⟨_, rfl, _, _, rfl, rfl, .inr ⟨by decide, by decide⟩, _, rfl, _, _, rfl, rfl, .inr ⟨by decide, by decide⟩, _, _, rfl, rfl, _, _, rfl, rfl, _, rfl, _, _, rfl, rfl, posP, ?_⟩
    refine ⟨4, rfl, by decide, by decide, for_range (n := 4) (fun i σ H2 => H2 = H ∧ ∃ (am : Int) (v : Option V), σ = [some (.int a), some (.int b), some (.int 2305843009213693951), some (.int am), v] ∧ 0 ≤ am ∧ am < 2305843009213693951)
      ⟨rfl, _, none, rfl, (fmod_range (by decide)).1, (fmod_range (by decide)).2⟩ ?_ ?_⟩
    · rintro i σ H2 hi ⟨rfl, am, v, rfl, h1, h2⟩
      refine ⟨_, rfl, _, rfl, _, _, rfl, rfl, .inl ⟨by omega, by omega⟩, _, rfl, _, _, rfl, rfl, .inl ⟨by decide, by decide⟩, _, _, rfl, rfl, _, rfl, _, _, rfl, rfl, .inl ⟨by decide, by decide⟩, _, _, rfl, rfl, _, rfl, _, _, rfl, rfl, _, rfl, _, _, rfl, rfl, posP, ?_⟩
      exact ⟨rfl, _, _, rfl, (fmod_range (by decide)).1, (fmod_range (by decide)).2⟩
    · rintro σ H2 ⟨rfl, am, v, rfl, h1, h2⟩
      refine ⟨_, rfl, _, rfl, _, _, rfl, rfl, .inl ⟨by omega, by omega⟩, _, rfl, _, _, rfl, rfl, .inl ⟨by omega, by omega⟩, _, rfl, _, _, rfl, rfl, _, rfl, _, _, rfl, rfl, posP, ?_⟩
      exact ⟨_, _, rfl, rfl, q _⟩
theorem cut_map (ns : List Int) (lo hi : Option Int) : cutV (ns.map V.int) lo hi = ((ns.drop (HT.sIx ns.length 0 lo)).take (HT.sIx ns.length ns.length hi - HT.sIx ns.length 0 lo)).map V.int := by
  unfold cutV
  rw [List.length_map, List.map_take, List.map_drop]
theorem ok_deck_of {f : Addr} {fd : FuncData} {k : Nat} (F : Fun K "_law_deck_of" "_law_deck_of" s_law_deck_of f fd) (T : TxtD mg) : FnOk P w K mg base CX0 (k + 1) f fd ["script"] (spDeckOf K) := by
  refine F.ok sc_law_deck_of (fun vs H Q E h => ?_) (fun cdv A outer s H vs Q E hr h => ?_)
  · obtain ⟨a, ns, rfl, _⟩ := h
    rfl
  · obtain ⟨a, ns, rfl, hS, hl, q⟩ := h
    refine ⟨_, (pss_cons (ps_setLc (i := 2) (own := [("cell", 1)]) (g := gName 1) rfl sc_law_deck_of.nd rfl rfl (sw_true rfl rfl rfl (by decide +kernel)) (pi_list (pe_slice sl_list (pv 0) po_none (po_some pe_int))) (blkOk_by (own := [("cell", 1)]) (N := ["script", "cell", "cells", "place"]) (sc := defScope s_law_deck_of) (by decide +kernel)) (fun _ _ _ _ _ => (pg_name (i := 1) sc_law_deck_of.nd rfl (.inl rfl))) (fun _ _ _ _ _ => pts_nil) (fun _ _ _ _ _ => (pe_callB call_abs (by rfl) T.n_abs (by decide +kernel) (pa_cons (pv 1) pa_nil))))
  (pss_cons (ps_for PassesOwn.never rfl (pi_enum (by rfl) T.n_enumerate (pa_cons (pe_slice sl_list (pv 0) (po_some pe_int) (po_some pe_int)) pa_nil)) (pg_tup rfl (pgs_cons (pg_name (i := 3) sc_law_deck_of.nd rfl (.inl rfl)) (pgs_cons (pg_name (i := 1) sc_law_deck_of.nd rfl (.inl rfl)) pgs_nil)))
   (pss_one (ps_asg (pe_op op_add (pe_ix ix_list (pv 2) (pe_op op_mod (pv 3) pe_int) (fun _ _ => rfl)) (pe_callB call_abs (by rfl) T.n_abs (by decide +kernel) (pa_cons (pv 1) pa_nil))) (pg_sub (pv 2) (pe_op op_mod (pv 3) pe_int) set_list))))
  (pss_one (ps_ret (pe_lst (pa_cons (pv 2) (pa_cons pe_int (pa_cons pe_int (pa_cons pe_int pa_nil))))))))), ?_⟩
    -- cells
    refine ⟨_, rfl, _, rfl, a, _, rfl, hS, fun p1 n1 => ?_⟩
    rw [cut_map]
    generalize hm : (ns.drop (HT.sIx ns.length 0 none)).take (HT.sIx ns.length ns.length (some 16) - HT.sIx ns.length 0 none) = ms
    have lm : ms.length = min 16 ns.length := by
      rw [← hm, HT.sIx_none, show HT.sIx ns.length ns.length (some 16) = min 16 ns.length from HT.sIx_nat ns.length ns.length 16]
      rw [List.drop_zero, List.length_take]
      omega
    have s1 : Same H (upd H p1 (.lst (ms.map V.int))) := same_upd n1
    refine ⟨p1, rfl, ⟨_, .inl (.inl upd_same)⟩, fun D nD => ?_⟩
    have nDH : H D = none := s1.free nD
    have nDp : p1 ≠ D := fun z => by
      rw [z, upd_same] at nD
      cases nD
    refine lc_list (K := K) (a := p1) (xs := ms.map V.int) (fun i H2 => Same (upd H p1 (.lst (ms.map V.int))) H2 ∧ ∃ zs : List Int, H2 D = some (.lst (zs.map V.int)) ∧ zs.length = i) ⟨same_upd nD, [], upd_same, rfl⟩ (fun i H2 _ h => .inl (.inl (h.1 _ _ upd_same))) ?_ ?_
    · rintro i x H2 hi ⟨s2, zs, hz, hlz⟩
      have hil : i < ms.length := by
        have h := (List.getElem?_eq_some_iff.mp hi).1
        rw [List.length_map] at h
        exact h
      rw [List.getElem?_map, List.getElem?_eq_getElem hil] at hi
      obtain rfl : V.int ms[i] = x := Option.some.inj hi
      refine ⟨rfl, ?_⟩
      unfold tYes
      dsimp only
      rw [if_pos rfl]
      refine ⟨_, rfl, _, rfl, _, hz, ?_, ?_, ?_⟩
      · rw [List.length_map]
        exact small1000 (by omega)
      · exact fun b o e => by
          have hb : b ≠ D := ne_of_none e nD
          rw [upd_ne hb]
          exact s2 b o e
      · refine ⟨zs ++ [if ms[i] < 0 then -ms[i] else ms[i]], ?_, ?_⟩
        · rw [upd_same, List.map_append]
          rfl
        · rw [List.length_append, hlz]
          rfl
    · rintro H2 ⟨s2, zs, hz, hlz⟩
      have sH : Same H H2 := s1.trans s2
      rw [List.length_map] at hlz
      -- enumerate(script[16:63])
      refine ⟨_, rfl, _, rfl, _, rfl, a, _, rfl, sH.seq hS, fun p2 n2 => ?_⟩
      rw [cut_map]
      generalize hm2 : (ns.drop (HT.sIx ns.length 0 (some 16))).take (HT.sIx ns.length ns.length (some 63) - HT.sIx ns.length 0 (some 16)) = ms2
      have lm2 : ms2.length = min 63 ns.length - 16 := by
        rw [← hm2, show HT.sIx ns.length ns.length (some 63) = min 63 ns.length from HT.sIx_nat ns.length ns.length 63, show HT.sIx ns.length 0 (some 16) = min 16 ns.length from HT.sIx_nat ns.length 0 16]
        rw [List.length_take, List.length_drop]
        omega
      have s3 : Same H2 (upd H2 p2 (.lst (ms2.map V.int))) := same_upd n2
      have nDp2 : D ≠ p2 := ne_of_none hz n2
      refine ⟨p2, _, rfl, .inl (.inl upd_same), ?_⟩
      refine for_it (walk_enum (xs := ms2.map V.int)) (fun i σ H3 => Same H H3 ∧ H3 p2 = some (.lst (ms2.map V.int)) ∧ ∃ (zs : List Int) (y z : Option V), σ = [some (.ref a), y, some (.ref D), z] ∧ H3 D = some (.lst (zs.map V.int)) ∧ zs.length = ms.length)
        ⟨sH.trans s3, upd_same, zs, _, _, rfl, s3 _ _ hz, hlz⟩ (fun i σ H3 _ h => .inl (.inl h.2.1)) ?_ ?_
      · rintro i x σ H3 H4 hi ⟨s4, h4, zs4, y, z, rfl, hz4, lz4⟩ ⟨T4, x4, y4, rfl, nT, rfl, ex, ey⟩
        rw [List.length_map] at hi
        have ey : (ms2.map V.int)[i]? = some y4 := ey
        rw [List.getElem?_map, List.getElem?_eq_getElem hi] at ey
        obtain rfl : V.int ms2[i] = y4 := Option.some.inj ey
        obtain rfl : V.int (i : Nat) = x4 := Option.some.inj ex
        have l17 : zs4.length = 16 := by omega
        have r := fmod_range (i := ((i : Nat) : Int)) (j := 16) (by omega)
        obtain ⟨j, hj⟩ : ∃ j : Nat, ((i : Nat) : Int) % 16 = (j : Int) := ⟨(((i : Nat) : Int) % 16).toNat, by omega⟩
        have hjl : j < zs4.length := by omega
        have s5 : Same H3 (upd H3 T4 (.tup [.int (i : Nat), .int ms2[i]])) := same_upd nT
        have hz5 := s5 _ _ hz4
        refine ⟨T4, _, rfl, .inl (.inl upd_same), rfl, _, _, rfl, _, _, rfl, rfl, ?_⟩
        refine ⟨_, rfl, _, rfl, _, _, rfl, rfl, pos16, D, _, _, V.int zs4[j], rfl, rfl, .inl (.inl hz5), ?_, _, rfl, _, rfl, _, _, rfl, rfl, _, rfl, _, rfl, _, _, rfl, rfl, pos16, D, _, _, j, rfl, rfl, hz5, ?_, ?_⟩
        · rw [hj]
          refine atI_nat ?_
          rw [List.getElem?_map, List.getElem?_eq_getElem hjl]
          rfl
        · rw [List.length_map, hj]
          unfold ixN
          rw [if_pos (by omega), if_pos (by omega)]
          rfl
        · refine ⟨?_, ?_, zs4.set j (zs4[j] + (if ms2[i] < 0 then -ms2[i] else ms2[i])), _, _, rfl, ?_, ?_⟩
          · exact fun b o e => by
              have hb : b ≠ D := ne_of_none e nDH
              rw [upd_ne hb]
              exact s5 _ _ (s4 b o e)
          · rw [upd_ne (fun z => nDp2 z.symm)]
            exact s5 _ _ h4
          · rw [upd_same, List.map_set]
          · rw [List.length_set]
            exact lz4
      · rintro σ H3 ⟨s4, h4, zs4, y, z, rfl, hz4, lz4⟩
        refine ⟨_, rfl, ?_, fun p np => ?_⟩
        · show 4 ≤ sizeLine
          decide
        · have s6 : Same H3 (upd H3 p (.lst [.ref D, .int 0, .int 0, .int 0])) := same_upd np
          exact q p D _ (s4.trans s6) (s4.free np) nDH ⟨zs4, 0, 0, 0, upd_same, s6 _ _ hz4, by omega⟩
theorem ok_below {f fk : Addr} {fd fdk : FuncData} {k : Nat} (F : Fun K "_law_below" "_law_below" s_law_below f fd) (T : TxtD mg) (F__law_mixed : Fun K "_law_mixed" "_law_mixed" s_law_mixed fk fdk) (b__law_mixed : Binds K fdk ["number", "lap"] []) (g_k : mg "_law_mixed" = some (.ref fk)) :
    FnOk P w K mg base CX0 (k + 2) f fd ["deck", "bound"] spBelow := by
  have G__law_mixed : FnOk P w K mg base CX0 1 fk fdk ["number", "lap"] spMixed := ok_mixed F__law_mixed T
  refine F.ok sc_law_below (fun vs H Q E h => ?_) (fun cdv A outer s H vs Q E hr h => ?_)
  · obtain ⟨p, c, b, rfl, _⟩ := h
    rfl
  · obtain ⟨p, c, b, rfl, ⟨ns, pl, am, sz, hp, hc, hl⟩, b0, b1, q⟩ := h
    refine ⟨_, (C8.pss_cut (ps_if (pt_cmpR op_lt (pe_ix ix_list (pv 0) pe_int (fun _ _ => rfl)) (pv 1) (nomark _))
   (pss_cons (ps_par (i := 2) (j := 3) (by rfl) sc_law_below.nd rfl rfl (by decide) rfl rfl (pa_cons (pe_ix ix_list (pv 0) pe_int (fun _ _ => rfl)) (pa_cons (pe_ix ix_list (pv 0) pe_int (fun _ _ => rfl)) pa_nil)) (by rfl))
  (C8.pss_cut (ps_set (i := 4) sc_law_below.nd rfl (.inl rfl) (pe_ifExp (pt_cmpR (op_neD hr.units) (pv 2) (pe_lst pa_nil) (nomark _)) (pe_ix ix_list (pv 2) (pe_op op_mod (pv 3) (pe_callB call_len_seq (by rfl) T.n_len (by decide +kernel) (pa_cons (pv 2) pa_nil))) (fun _ _ => rfl)) pe_int))
  (C8.pss_cut (ps_if (PW.pt (pw_or (pt_cmpR op_ge (pv 3) (pe_callB call_len_seq (by rfl) T.n_len (by decide +kernel) (pa_cons (pv 2) pa_nil)) (nomark _)) (pw_or1 (pt_cmpR op_lt (pv 4) (pe_op op_pow pe_int pe_int) (nomark _)))))
   (pss_one (ps_set (i := 4) sc_law_below.nd rfl (.inl rfl) (pe_call G__law_mixed (hr.mono (by omega)) (by rfl) g_k F__law_mixed.kp b__law_mixed .nil pass0 (pa_cons (pe_op op_mod (pe_callTy call_int1 (by rfl) T.n_int (by decide +kernel) (pa_cons (pv 4) pa_nil)) pe_int) (pa_cons (pv 3) pa_nil)))))
   pss_nil)
  (pss_cons (ps_asg (pe_op op_add (pv 3) pe_int) (pg_sub (pv 0) pe_int set_list))
  (pss_cons (ps_asg (pv 4) (pg_sub (pv 0) pe_int set_list))
  (pss_one (ps_asg (pv 4) (pg_sub (pv 0) pe_int set_list))))))))
   pss_nil)
  (pss_cons (ps_set (i := 5) sc_law_below.nd rfl (.inl rfl) (pe_op op_mod (pe_callTy call_int1 (by rfl) T.n_int (by decide +kernel) (pa_cons (pe_ix ix_list (pv 0) pe_int (fun _ _ => rfl)) pa_nil)) (pv 1)))
  (pss_cons (ps_asg (pe_op op_fdiv (pe_ix ix_list (pv 0) pe_int (fun _ _ => rfl)) (pv 1)) (pg_sub (pv 0) pe_int set_list))
  (pss_cons (ps_asg (pe_op op_fdiv (pe_ix ix_list (pv 0) pe_int (fun _ _ => rfl)) (pv 1)) (pg_sub (pv 0) pe_int set_list))
  (pss_one (ps_ret (pv 5))))))), ?_⟩
    have ncp : c ≠ p := pot_ne hp hc
    refine ⟨fun σ H2 => ∃ (pl2 am2 sz2 : Int) (x2 x3 x4 : Option V), σ = [some (.ref p), some (.int b), x2, x3, x4, none] ∧ But p H H2 ∧ H2 p = some (.lst [.ref c, .int pl2, .int am2, .int sz2]) ∧ H2 c = some (.lst (ns.map V.int)), ?_, ?_⟩
    · refine ⟨_, rfl, p, _, _, _, rfl, rfl, .inl (.inl hp), at4.2.2.2, _, rfl, _, _, rfl, rfl, _, rfl, ite2 (fun e => ?_) (fun e => ?_)⟩
      · refine ⟨_, rfl, p, _, _, _, rfl, rfl, .inl (.inl hp), at4.1, _, rfl, p, _, _, _, rfl, rfl, .inl (.inl hp), at4.2.1, _, _, rfl, ?_⟩
        -- amount = cells[..] if cells != [] else 0
        refine ⟨fun σ H2 => ∃ am3 : Int, σ = [some (.ref p), some (.int b), some (.ref c), some (.int pl), some (.int am3), none] ∧ Same H H2, ?_, ?_⟩
        · refine ⟨_, rfl, Nat.zero_le _, fun o no => ?_⟩
          have so : Same H (upd H o (.lst [])) := same_upd no
          have ho : SqL K (upd H o (.lst [])) o [] := .inl (.inl upd_same)
          have hp1 := so _ _ hp
          have hc1 := so _ _ hc
          refine ⟨_, _, .lst (.inl (.inl hc1)) (dp_ints ns), .lst ho .nil, sh_ints ns, sh_nil, _, rfl, ?_⟩
          rw [eqv_nil]
          by_cases hn : ns = []
          · subst hn
            refine iteF ?_
            exact ⟨_, rfl, so⟩
          · have h1 : decide (ns.map PyData.int = []) = false := by
              cases ns with
              | nil => exact absurd rfl hn
              | cons => rfl
            rw [h1]
            refine iteT ?_
            obtain ⟨z, hz⟩ := at_mod (pl := pl) hn
            have hl0 : 0 < ns.length := by
              cases ns with
              | nil => exact absurd rfl hn
              | cons => exact Nat.succ_pos _
            refine ⟨_, rfl, _, rfl, _, rfl, c, _, rfl, .inl (.inl (.inl hc1)), _, _, rfl, rfl, ?_, c, _, _, V.int z, rfl, rfl, .inl (.inl hc1), ?_, ?_⟩
            · rw [List.length_map]
              omega
            · rw [List.length_map]
              exact hz
            · exact ⟨z, rfl, so⟩
        -- if place >= len(cells) or amount < 10 ** 16
        · rintro σ H2 ⟨am3, rfl, s2⟩
          have hp2 := s2 _ _ hp
          have hc2 := s2 _ _ hc
          refine ⟨fun σ H2 => ∃ am3 : Int, σ = [some (.ref p), some (.int b), some (.ref c), some (.int pl), some (.int am3), none] ∧ Same H H2, ?_, ?_⟩
          · have yes : ∃ am4 : Int, ∀ v : Int, True := ⟨0, fun _ => True.intro⟩
            refine ⟨_, rfl, _, rfl, c, _, rfl, .inl (.inl (.inl hc2)), _, _, rfl, rfl, _, rfl, ?_⟩
            refine ite2 (fun e => ?_) (fun e => ?_)
            · refine iteT ?_
              refine ⟨_, rfl, .inl ⟨_, rfl, _, _, rfl, rfl, posQ, _, rfl, _, _, rfl, fun v => ⟨v, rfl, s2⟩⟩⟩
            · refine ⟨_, rfl, _, _, rfl, rfl, ⟨by decide, by decide, by decide⟩, _, _, rfl, rfl, _, rfl, ?_⟩
              refine ite2 (fun e => ?_) (fun e => ?_)
              · refine ⟨_, rfl, .inl ⟨_, rfl, _, _, rfl, rfl, posQ, _, rfl, _, _, rfl, fun v => ⟨v, rfl, s2⟩⟩⟩
              · exact ⟨am3, rfl, s2⟩
          · -- pot[1] = place + 1; pot[2] = amount; pot[3] = amount
            rintro σ H2 ⟨am3, rfl, s2⟩
            have hp2 := s2 _ _ hp
            have hc2 := s2 _ _ hc
            refine ⟨_, rfl, _, _, rfl, rfl, _, rfl, p, _, _, _, rfl, rfl, hp2, rfl, ?_⟩
            refine ⟨_, rfl, _, rfl, p, _, _, _, rfl, rfl, upd_same, rfl, ?_⟩
            refine ⟨_, rfl, _, rfl, p, _, _, _, rfl, rfl, upd_same, rfl, ?_⟩
            refine ⟨pl + 1, am3, am3, _, _, _, rfl, (((But.of hp2 s2).trans but_upd).trans but_upd).trans but_upd, ?_, ?_⟩
            · rw [upd_same]
              rfl
            · rw [upd_ne ncp, upd_ne ncp, upd_ne ncp]
              exact hc2
      · exact ⟨pl, am, sz, none, none, none, rfl, ⟨fun _ _ z _ => z, by rw [hp]; exact fun z => nomatch z⟩, hp, hc⟩
    · rintro σ H2 ⟨pl2, am2, sz2, x2, x3, x4, rfl, hb, hp2, hc2⟩
      -- found = int(pot[2]) % bound
      refine ⟨_, rfl, p, _, _, _, rfl, rfl, .inl (.inl hp2), at4.2.2.1, .inl ⟨_, rfl, _, rfl, _, _, rfl, rfl, b0, ?_⟩⟩
      -- pot[2] = pot[2] // bound; pot[3] = pot[3] // bound
      refine ⟨_, rfl, p, _, _, _, rfl, rfl, .inl (.inl hp2), at4.2.2.1, _, rfl, _, _, rfl, rfl, ⟨b0, b1⟩, _, rfl, p, _, _, _, rfl, rfl, hp2, rfl, ?_⟩
      refine ⟨_, rfl, p, _, _, _, rfl, rfl, .inl (.inl upd_same), at4.2.2.2, _, rfl, _, _, rfl, rfl, ⟨b0, b1⟩, _, rfl, p, _, _, _, rfl, rfl, upd_same, rfl, ?_⟩
      refine ⟨_, rfl, q _ _ (fmod_range b0).1 (fmod_range b0).2 ⟨ns, pl2, am2 / b, sz2 / b, ?_, ?_, hl⟩ ((hb.trans but_upd).trans but_upd)⟩
      · rw [upd_same]
        rfl
      · rw [upd_ne ncp, upd_ne ncp]
        exact hc2
theorem ok_pick {f fb : Addr} {fd fdb : FuncData} {k : Nat} (F : Fun K "_law_pick" "_law_pick" s_law_pick f fd) (T : TxtD mg) (F__law_below : Fun K "_law_below" "_law_below" s_law_below fb fdb) (b__law_below : Binds K fdb ["deck", "bound"] []) (g_b : mg "_law_below" = some (.ref fb))
    (G__law_below : FnOk P w K mg base CX0 2 fb fdb ["deck", "bound"] spBelow) : FnOk P w K mg base CX0 (k + 3) f fd ["deck", "some"] (spPick K) := by
  refine F.ok sc_law_pick (fun vs H Q E h => ?_) (fun cdv A outer s H vs Q E hr h => ?_)
  · obtain ⟨p, c, l, xs, rfl, _⟩ := h
    rfl
  · obtain ⟨p, c, l, xs, rfl, hP, hS, hne, hlen, hk, q⟩ := h
    have hl : 0 < xs.length := by
      cases xs with
      | nil => exact absurd rfl hne
      | cons => exact Nat.succ_pos _
    refine ⟨_, (pss_one (ps_ret (pe_ix ix_list (pv 1) (pe_call G__law_below (hr.mono (by omega)) (by rfl) g_b F__law_below.kp b__law_below .nil pass0 (pa_cons (pv 0) (pa_cons (pe_callB call_len_seq (by rfl) T.n_len (by decide +kernel) (pa_cons (pv 1) pa_nil)) pa_nil))) (fun _ _ => rfl)))), ?_⟩
    refine ⟨_, rfl, _, rfl, _, rfl, l, xs, rfl, .inl hS, p, c, _, rfl, hP, by omega, by omega, fun v H' v0 v1 hP' hb => ?_⟩
    obtain ⟨j, rfl⟩ : ∃ j : Nat, v = (j : Int) := ⟨v.toNat, by omega⟩
    have hj : j < xs.length := by omega
    exact ⟨l, xs, _, xs[j], rfl, rfl, hk H' hb, atI_nat (List.getElem?_eq_getElem hj), q _ H' (List.getElem_mem hj) hP' hb⟩
end
end My

namespace My
open PySem PySem.Spec PyProof.Rows L2
/-! ### trees as data -/
def headB (ks : List (Str × Int)) : List PyData → Bool
  | .str z :: r => decide ((z, (r.length : Int)) ∈ ks)
  | _ => false
mutual
def treeB (ks : List (Str × Int)) : PyData → Bool
  | .tuple ds => headB ks ds && tailB ks ds
  | .none | .bool _ | .int _ | .str _ | .list _ | .dict _ => false
def tailB (ks : List (Str × Int)) : List PyData → Bool
  | [] => true
  | _ :: r => allB ks r
def allB (ks : List (Str × Int)) : List PyData → Bool
  | [] => true
  | d :: r => treeB ks d && allB ks r
end
mutual
/-- the tags of a tree -/
def tagsN : PyData → Nat
  | .tuple ds => 1 + tagsT ds
  | .none | .bool _ | .int _ | .str _ | .list _ | .dict _ => 0
def tagsT : List PyData → Nat
  | [] => 0
  | _ :: r => tagsL r
def tagsL : List PyData → Nat
  | [] => 0
  | d :: r => tagsN d + tagsL r
end
theorem allB_app (ks : List (Str × Int)) : ∀ a b : List PyData, allB ks (a ++ b) = (allB ks a && allB ks b)
  | [], b => by simp [allB]
  | d :: r, b => by
    rw [List.cons_append]
    simp only [allB]
    rw [allB_app ks r b, Bool.and_assoc]
theorem tagsL_app : ∀ a b : List PyData, tagsL (a ++ b) = tagsL a + tagsL b
  | [], b => by simp [tagsL]
  | d :: r, b => by
    rw [List.cons_append]
    simp only [tagsL]
    rw [tagsL_app r b, Nat.add_assoc]
theorem len_nodes : ∀ ds : List PyData, ds.length ≤ nodesL ds
  | [] => Nat.le_refl _
  | d :: r => by
    have h := len_nodes r
    have h2 : 1 ≤ nodes d := by cases d <;> simp only [nodes] <;> omega
    simp only [nodesL, List.length_cons]
    omega
theorem tailB_drop (ks : List (Str × Int)) (ds : List PyData) : tailB ks ds = allB ks (ds.drop 1) := by cases ds <;> simp [tailB, allB]
theorem tagsT_drop (ds : List PyData) : tagsT ds = tagsL (ds.drop 1) := by cases ds <;> simp [tagsT, tagsL]
theorem nodes_drop (ds : List PyData) : nodesL (ds.drop 1) ≤ nodesL ds := by
  cases ds with
  | nil => exact Nat.le_refl _
  | cons d r =>
    show nodesL r ≤ nodesL (d :: r)
    simp only [nodesL]
    omega
/-- a tag and as many things as it has parts -/
def hasB (ks : List (Str × Int)) : PyData → Bool
  | .tuple ds => headB ks ds
  | _ => false
/-- the things behind the tag -/
def kids : PyData → List PyData
  | .tuple ds => ds.drop 1
  | _ => []
theorem treeB_eq (ks : List (Str × Int)) (d : PyData) : treeB ks d = (hasB ks d && allB ks (kids d)) := by
  cases d <;> simp only [treeB, hasB, kids, Bool.false_and, tailB_drop]
theorem last_split {ds : List PyData} {d : PyData} (h : ds[ds.length - 1]? = some d) : ds = ds.dropLast ++ [d] := by
  obtain ⟨hl, e⟩ := List.getElem?_eq_some_iff.mp h
  have n : ds ≠ [] := fun z => by
    rw [z] at hl
    exact absurd hl (Nat.not_lt_zero _)
  have y := List.dropLast_concat_getLast n
  rw [List.getLast_eq_getElem, e] at y
  exact y.symm
theorem DaAll.snoc {H : Hp} {ds : List PyData} {vs : List V} (h : DaAll H vs ds) (n : vs ≠ []) : ∃ v d, vs[vs.length - 1]? = some v ∧ ds = ds.dropLast ++ [d] ∧ Da H v d ∧ DaAll H vs.dropLast ds.dropLast := by
  have l := h.length
  have l0 : 0 < vs.length := List.length_pos_iff.mpr n
  obtain ⟨d, hd, hv⟩ := h.get (i := vs.length - 1) (List.getElem?_eq_getElem (by omega))
  refine ⟨_, d, List.getElem?_eq_getElem (by omega), last_split (by rw [← l]; exact hd), hv, ?_⟩
  rw [List.dropLast_eq_take, List.dropLast_eq_take, l]
  exact h.take _
theorem head_parts {ks : List (Str × Int)} {z : Str} {r : List PyData} (nd : (ks.map (·.1)).Nodup) : V.bl (decide (partsV ks z = .int ((r.length : Nat) + 1 - 1))) = V.bl (headB ks (.str z :: r)) := by
  congr 1
  unfold headB
  refine decide_eq_decide.mpr ⟨fun h => ?_, fun h => ?_⟩
  · by_cases hz : z ∈ ks.map (·.1)
    · obtain ⟨⟨z', n⟩, hm, rfl⟩ := List.mem_map.mp hz
      rw [parts_yes nd hm] at h
      have e : n = (r.length : Int) := by
        cases h
        omega
      rw [← e]
      exact hm
    · rw [parts_no hz] at h
      cases h
  · rw [parts_yes nd h]
    congr 1
    omega
structure spHasTag (ks : List (Str × Int)) (vs : List V) (H : Hp) (Q : VK) (E : XK) : Prop where
  ex : ∃ (n : Addr) (x : V) (d : PyData), vs = [.ref n, x] ∧ H n = some (.dK (mergeK [] (kvK ks))) ∧ Da H x d ∧ Q (.bl (hasB ks d)) H
structure TxtT (mg : Str → Option Value) : Prop where
  n_isinstance : mg "isinstance" = none
  n_tuple : mg "tuple" = none
  n_len : mg "len" = none
  n_str : mg "str" = none
  n_dict : mg "dict" = none
  n_list : mg "list" = none
  n_int : mg "int" = none
abbrev s_has_tag : Stmt := topS 12
theorem sc_has_tag : FnScope ["numbers", "thing"] ["numbers", "thing"] (defScope s_has_tag) := ⟨rfl, rfl, rfl, by decide +kernel, rfl, by decide +kernel, by decide +kernel⟩
abbrev s_is_tree : Stmt := topS 13
theorem sc_is_tree : FnScope ["kind", "thing", "numbers", "waiting", "tree"] ["kind", "thing"] (defScope s_is_tree) := ⟨rfl, rfl, rfl, by decide +kernel, rfl, by decide +kernel, by decide +kernel⟩
abbrev s_nodes_ahead : Stmt := topS 8
theorem sc_nodes_ahead : FnScope ["patterns", "found", "waiting", "pattern"] ["patterns"] (defScope s_nodes_ahead) := ⟨rfl, rfl, rfl, by decide +kernel, rfl, by decide +kernel, by decide +kernel⟩
abbrev s_size_of_forest : Stmt := topS 10
theorem sc_size_of_forest : FnScope ["trees"] ["trees"] (defScope s_size_of_forest) := ⟨rfl, rfl, rfl, by decide +kernel, rfl, by decide +kernel, by decide +kernel⟩
abbrev s_law_tags_of : Stmt := topS 45
theorem sc_law_tags_of : FnScope ["trees", "found", "waiting", "one"] ["trees"] (defScope s_law_tags_of) := ⟨rfl, rfl, rfl, by decide +kernel, rfl, by decide +kernel, by decide +kernel⟩
theorem eq_len0 (n : Nat) : V.bl (decide (V.int (n : Nat) = V.int 0)) = V.bl (decide (n = 0)) := by
  congr 1
  refine decide_eq_decide.mpr ⟨fun h => ?_, fun h => by rw [h]; rfl⟩
  have z : (n : Int) = 0 := by cases h; rfl
  omega
section
variable {P : Program} {w : World} {K : PySem.W.Frag} {mg : Str → Option Value} {base : Heap}
theorem ok_has_tag {ks : List (Str × Int)} {f : Addr} {fd : FuncData} {k : Nat} (F : Fun K "has_tag" "has_tag" s_has_tag f fd) (T : TxtT mg) (nd : (ks.map (·.1)).Nodup) : FnOk P w K mg base CX0 (k + 1) f fd ["numbers", "thing"] (spHasTag ks) := by
  refine F.ok sc_has_tag (fun vs H Q E h => ?_) (fun cdv A outer s H vs Q E hr h => ?_)
  · obtain ⟨n, x, d, rfl, _⟩ := h
    rfl
  · obtain ⟨n, x, d, rfl, hn, hx, q⟩ := h
    refine ⟨_, (pss_cons (ps_if (PW.pt (pw_or (pt_not (pt_val (pe_callB call_isi (by rfl) T.n_isinstance (by decide +kernel) (pa_cons (pv 1) (pa_cons (pe_bltn (v := .ty "tuple") (by rfl) T.n_tuple (by decide +kernel) rfl) pa_nil))))) (pw_or (pt_cmpR op_eq (pe_callB call_len_seq (by rfl) T.n_len (by decide +kernel) (pa_cons (pv 1) pa_nil)) pe_int (nomark _)) (pw_or1 (pt_not (pt_val (pe_callB call_isi (by rfl) T.n_isinstance (by decide +kernel) (pa_cons (pe_ix ix_tup (pv 1) pe_int (fun _ _ => rfl)) (pa_cons (pe_bltn (v := .ty "str") (by rfl) T.n_str (by decide +kernel) rfl) pa_nil)))))))))
   (pss_one (ps_ret pe_bl))
   pss_nil)
  (pss_one (ps_ret (pe_cmpR op_eq (pe_dget1 (hu_of hr) (pv 0) (pe_ix ix_tup (pv 1) pe_int (fun _ _ => rfl)) ⟨by rfl, by rfl, by rfl, by rfl⟩) (pe_op op_sub (pe_callB call_len_seq (by rfl) T.n_len (by decide +kernel) (pa_cons (pv 1) pa_nil)) pe_int) (nomark _))))), ?_⟩
    refine ⟨_, rfl, _, _, _, _, dT d, rfl, .ty "tuple", hx.ty, kit_ty (kit_tup d), _, rfl, ?_⟩
    cases hx with
    | @tup a xs ds e h =>
      have lx := h.length
      refine iteF ?_
      refine ⟨_, rfl, a, xs, rfl, .inr (.inl e), rfl, _, eq_len0 _, ?_⟩
      cases h with
      | nil =>
        refine iteT ?_
        exact q
      | @cons v vs d0 ds0 hv ht =>
        refine iteF ?_
        refine ⟨_, rfl, a, _, _, v, rfl, rfl, .inl e, atI_nat (j := 0) rfl, _, _, _, _, dS d0, rfl, .ty "str", hv.ty, kit_ty (kit_str d0), _, rfl, ?_⟩
        cases hv with
        | str z =>
          refine iteF ?_
          refine ⟨_, rfl, n, rfl, .inl ⟨_, .inl hn⟩, _, rfl, a, _, _, .str z, rfl, rfl, .inl e, atI_nat (j := 0) rfl, _, .inl ⟨_, Sum.inr z, .inl hn, rfl, rfl⟩, _, rfl, a, _, rfl, .inr (.inl e), _, _, rfl, rfl, ?_⟩
          have lv : vs.length = ds0.length := ht.length
          have ev : V.int (((V.str z :: vs).length : Nat) - 1) = V.int ((ds0.length : Nat) + 1 - 1) := by
            congr 1
            rw [List.length_cons, lv]
            omega
          show rEq (partsV ks z) (V.int (((V.str z :: vs).length : Nat) - 1)) H Q
          rw [ev]
          refine ⟨?_, ?_⟩
          · by_cases hz : z ∈ ks.map (·.1)
            · obtain ⟨⟨z', n'⟩, hm, rfl⟩ := List.mem_map.mp hz
              rw [parts_yes nd hm]
              rfl
            · rw [parts_no hz]
              rfl
          · rw [head_parts nd]
            exact q
        | _ =>
          refine iteT ?_
          exact q
    | _ =>
      refine iteT ?_
      exact q
end
end My

namespace My
open PySem PySem.Spec PyProof.Rows L2
theorem same_rfl (H : Hp) : Same H H := fun _ _ e => e
theorem same_at {H H2 : Hp} {D : Addr} {o : HO} (s : Same H H2) (n : H D = none) : Same H (upd H2 D o) := fun b u e => by
  rw [upd_ne (ne_of_none e n)]
  exact s _ _ e
structure spIsTree (vs : List V) (H : Hp) (Q : VK) (E : XK) : Prop where
  ex : ∃ (a : Addr) (ks : List (Str × Int)) (x : V) (d : PyData), vs = [.ref a, x] ∧ KindF H a ks ∧ (ks.map (·.1)).Nodup ∧ Da H x d ∧ nodes d ≤ 100000 ∧ ∀ H', Same H H' → Q (.bl (treeB ks d)) H'
theorem hasB_tup {ks : List (Str × Int)} {H : Hp} {v : V} {d : PyData} (h : hasB ks d = true) (hv : Da H v d) : ∃ a xs ds, v = .ref a ∧ d = .tuple ds ∧ Rd H a (.tup xs) ∧ DaAll H xs ds ∧ headB ks ds = true ∧ 0 < xs.length := by
  cases hv with
  | @tup a xs ds e hx =>
    have hh : headB ks ds = true := h
    refine ⟨a, xs, ds, rfl, rfl, e, hx, hh, ?_⟩
    cases hx with
    | nil => cases hh
    | cons => exact Nat.succ_pos _
  | _ => cases h
theorem cut_tail (xs : List V) (h : 0 < xs.length) : cutV xs (some 1) none = xs.drop 1 := by
  unfold cutV
  rw [show HT.sIx xs.length 0 (some 1) = min 1 xs.length from HT.sIx_nat xs.length 0 1, show HT.sIx xs.length xs.length none = xs.length from HT.sIx_none ..]
  rw [Nat.min_eq_left h, List.take_of_length_le (by rw [List.length_drop]; exact Nat.le_refl _)]
section
variable {P : Program} {w : World} {K : PySem.W.Frag} {mg : Str → Option Value} {base : Heap}
theorem ok_is_tree {f f1 : Addr} {fd fd1 : FuncData} {k : Nat} (F : Fun K "is_tree" "is_tree" s_is_tree f fd) (T : TxtT mg) (F_has_tag : Fun K "has_tag" "has_tag" s_has_tag f1 fd1) (b_has_tag : Binds K fd1 ["numbers", "thing"] []) (g_has_tag : mg "has_tag" = some (.ref f1)) : FnOk P w K mg base CX0 (k + 2) f fd ["kind", "thing"] spIsTree := by
  refine F.ok sc_is_tree (fun vs H Q E h => ?_) (fun cdv A outer s H vs Q E hr h => ?_)
  · obtain ⟨a, ks, x, d, rfl, _⟩ := h
    rfl
  · obtain ⟨a, ks, x, d, rfl, ⟨rs, o, ea, od, pr⟩, nd, hx, few, q⟩ := h
    have G_has_tag : FnOk P w K mg base CX0 1 f1 fd1 ["numbers", "thing"] (spHasTag ks) := ok_has_tag F_has_tag T nd
    refine ⟨_, (pss_cons (ps_set (i := 2) sc_is_tree.nd rfl (.inl rfl) (pe_callTy (call_dictT (by rfl)) (by rfl) T.n_dict (by decide +kernel) (pa_cons (pv 0) pa_nil)))
  (pss_cons (ps_set (i := 3) sc_is_tree.nd rfl (.inl rfl) (pe_lst (pa_cons (pv 1) pa_nil)))
  (pss_cons (ps_while PassesOwn.never (pt_truth (pv 3) (by intro _; rfl))
   (pss_cons (ps_set (i := 4) sc_is_tree.nd rfl (.inl rfl) (pe_bm0 PySem.F.plainAttrs_list PySem.F.slot_list_pop PySem.F.type_list_pop mt_pop (pv 3)))
  (pss_cons (ps_if (pt_not (pt_val (pe_call G_has_tag (hr.mono (by omega)) (by rfl) g_has_tag F_has_tag.kp b_has_tag .nil pass0 (pa_cons (pv 2) (pa_cons (pv 4) pa_nil)))))
   (pss_one (ps_ret pe_bl))
   pss_nil)
  (pss_one (ps_expr (pe_bm PySem.F.plainAttrs_list PySem.F.slot_list_extend PySem.F.type_list_extend mt_extendT (pv 3) (pa_cons (pe_slice sl_X (pv 4) (po_some pe_int) po_none) pa_nil)))))))
  (pss_one (ps_ret pe_bl))))), ?_⟩
    clear G_has_tag
    refine ⟨_, rfl, a, rs, kvK ks, o, rfl, ea, od, prs_pairs pr, fun n nn => ?_⟩
    have sn : Same H (upd H n (.dK (mergeK [] (kvK ks)))) := same_upd nn
    have hn : (upd H n (.dK (mergeK [] (kvK ks)))) n = some (.dK (mergeK [] (kvK ks))) := upd_same
    generalize upd H n (.dK (mergeK [] (kvK ks))) = H1 at sn hn ⊢
    refine ⟨_, rfl, by show 1 ≤ sizeLine; decide, fun l nl => ?_⟩
    have nlH : H l = none := sn.free nl
    have nln : n ≠ l := ne_of_none hn nl
    refine ⟨fun j σ H2 => ∃ (vs : List V) (ds : List PyData) (v4 : Option V), nodesL ds = j ∧ j ≤ 100000 ∧ Same H H2 ∧ H2 n = some (.dK (mergeK [] (kvK ks))) ∧ H2 l = some (.lst vs) ∧ DaAll H vs ds ∧ allB ks ds = treeB ks d ∧ σ = [some (.ref a), some x, some (.ref n), some (.ref l), v4],
      ⟨nodesL [d], [x], [d], none, rfl, ?_, same_at sn nlH, ?_, upd_same, .cons hx .nil, ?_, rfl⟩, ?_⟩
    · simp only [nodesL]
      omega
    · rw [upd_ne nln]
      exact hn
    · simp only [allB, Bool.and_true]
    rintro j σ H2 ⟨vs, ds, v4, rfl, jb, s2, hn2, hl2, hda, hall, rfl⟩
    refine ⟨_, rfl, !vs.isEmpty, .inl ⟨vs, .inl (.inl hl2), rfl⟩, ?_⟩
    cases hE : vs.isEmpty with
    | true =>
      refine iteF ?_
      have e : vs = [] := List.isEmpty_iff.mp hE
      subst e
      cases hda
      have e2 : treeB ks d = true := by rw [← hall]; rfl
      rw [e2] at q
      exact q _ s2
    | false =>
      refine iteT ?_
      have ne : vs ≠ [] := fun z => by
        rw [z] at hE
        cases hE
      obtain ⟨v, d1, hv, eds, hd1, hrest⟩ := hda.snoc ne
      have en : nodesL ds = nodesL ds.dropLast + nodes d1 := by
        rw [eds, nodesL_app]
        simp [nodesL]
      have eall : allB ks ds = (allB ks ds.dropLast && treeB ks d1) := by
        rw [eds, allB_app]
        simp [allB]
      refine ⟨fun σ H8 => ∃ i, i < nodesL ds ∧ ∃ (vs : List V) (ds : List PyData) (v4 : Option V), nodesL ds = i ∧ i ≤ 100000 ∧ Same H H8 ∧ H8 n = some (.dK (mergeK [] (kvK ks))) ∧ H8 l = some (.lst vs) ∧ DaAll H vs ds ∧ allB ks ds = treeB ks d ∧ σ = [some (.ref a), some x, some (.ref n), some (.ref l), v4], fun σ' H' h => h, ?_⟩
      refine ⟨_, rfl, .inl ⟨rfl, _, .inl (.inl hl2)⟩, l, vs, v, rfl, rfl, hl2, hv, ?_⟩
      have s3 : Same H (upd H2 l (.lst vs.dropLast)) := same_at s2 nlH
      have hn3 : (upd H2 l (.lst vs.dropLast)) n = some (.dK (mergeK [] (kvK ks))) := by rw [upd_ne nln]; exact hn2
      have hl3 : (upd H2 l (.lst vs.dropLast)) l = some (.lst vs.dropLast) := upd_same
      generalize upd H2 l (.lst vs.dropLast) = H3 at s3 hn3 hl3 ⊢
      refine ⟨_, rfl, _, rfl, ⟨n, v, d1, rfl, hn3, hd1.same s3, ?_⟩⟩
      refine ⟨hasB ks d1, rfl, ?_⟩
      cases hh : hasB ks d1 with
      | false =>
        refine iteT ?_
        have e2 : treeB ks d = false := by rw [← hall, eall, treeB_eq, hh, Bool.false_and, Bool.and_false]
        rw [e2] at q
        exact q _ s3
      | true =>
        refine iteF ?_
        obtain ⟨b, xs, ds1, rfl, rfl, eb, hxs, hhead, pos⟩ := hasB_tup hh hd1
        refine ⟨_, rfl, .inl ⟨rfl, _, .inl (.inl hl3)⟩, _, rfl, _, rfl, b, xs, rfl, rd_same eb s3, fun r H4 s4 hr4 => ?_⟩
        rw [cut_tail xs pos] at hr4
        have hl4 := s4 _ _ hl3
        have lx := hxs.length
        have nk : nodesL (ds1.drop 1) ≤ nodesL ds1 := nodes_drop ds1
        have nd1 : nodes (.tuple ds1) = 1 + nodesL ds1 := by simp only [nodes]
        have lk := len_nodes (ds1.drop 1)
        have lv := len_nodes ds.dropLast
        have lr := hrest.length
        refine ⟨l, r, vs.dropLast, xs.drop 1, rfl, rfl, hl4, .inl hr4, ?_, ?_⟩
        · have a1 : (xs.drop 1).length = (ds1.drop 1).length := by rw [List.length_drop, List.length_drop, lx]
          rw [a1, lr, sizeLine_eq]
          omega
        · refine ⟨nodesL (ds.dropLast ++ ds1.drop 1), ?_, _, _, _, rfl, ?_, same_at (s3.trans s4) nlH, ?_, upd_same, hrest.app (hxs.drop 1), ?_, rfl⟩
          · rw [nodesL_app]
            omega
          · rw [nodesL_app]
            omega
          · rw [upd_ne nln]
            exact s4 _ _ hn3
          · rw [← hall, eall, allB_app, treeB_eq, hh, Bool.true_and]
            rfl
end
end My

namespace My
open PySem PySem.Spec PyProof.Rows L2
theorem allB_rev (ks : List (Str × Int)) : ∀ ds : List PyData, allB ks ds.reverse = allB ks ds
  | [] => rfl
  | d :: r => by
    rw [List.reverse_cons, allB_app, allB_rev ks r]
    simp only [allB, Bool.and_true]
    rw [Bool.and_comm]
theorem nodesL_rev : ∀ ds : List PyData, nodesL ds.reverse = nodesL ds
  | [] => rfl
  | d :: r => by
    rw [List.reverse_cons, nodesL_app, nodesL_rev r]
    simp only [nodesL]
    omega
theorem tagsL_rev : ∀ ds : List PyData, tagsL ds.reverse = tagsL ds
  | [] => rfl
  | d :: r => by
    rw [List.reverse_cons, tagsL_app, tagsL_rev r]
    simp only [tagsL]
    omega
theorem treeB_tup {ks : List (Str × Int)} {H : Hp} {v : V} {d : PyData} (h : treeB ks d = true) (hv : Da H v d) : ∃ a z xs ds, v = .ref a ∧ d = .tuple (.str z :: ds) ∧ Rd H a (.tup (.str z :: xs)) ∧ DaAll H xs ds ∧ (z, (ds.length : Int)) ∈ ks ∧ allB ks ds = true := by
  rw [treeB_eq, Bool.and_eq_true] at h
  obtain ⟨a, xs, ds, rfl, rfl, e, hx, hh, _⟩ := hasB_tup h.1 hv
  cases hx with
  | nil => cases hh
  | @cons v0 vs0 d0 ds0 hv0 ht =>
    have hz : ∃ z, d0 = .str z := by
      cases d0 with
      | str z => exact ⟨z, rfl⟩
      | _ => simp [headB] at hh
    obtain ⟨z, rfl⟩ := hz
    have ev : v0 = .str z := by
      cases hv0
      rfl
    subst ev
    exact ⟨a, z, _, _, rfl, rfl, e, ht, of_decide_eq_true hh, h.2⟩
structure spAhead (vs : List V) (H : Hp) (Q : VK) (E : XK) : Prop where
  ex : ∃ (a : Addr) (ks : List (Str × Int)) (xs : List V) (ds : List PyData), vs = [.ref a] ∧ Rd H a (.tup xs) ∧ DaAll H xs ds ∧ allB ks ds = true ∧ nodesL ds ≤ 100000 ∧ ∀ r ys H', Same H H' → H' r = some (.lst ys) → ys.length = tagsL ds → Q (.ref r) H'
structure spForest (vs : List V) (H : Hp) (Q : VK) (E : XK) : Prop where
  ex : ∃ (a : Addr) (ks : List (Str × Int)) (xs : List V) (ds : List PyData), vs = [.ref a] ∧ Rd H a (.tup xs) ∧ DaAll H xs ds ∧ allB ks ds = true ∧ nodesL ds ≤ 100000 ∧ ∀ H', Same H H' → Q (.int (tagsL ds : Nat)) H'
section
variable {P : Program} {w : World} {K : PySem.W.Frag} {mg : Str → Option Value} {base : Heap}
theorem ok_ahead {f : Addr} {fd : FuncData} {k : Nat} (F : Fun K "nodes_ahead" "nodes_ahead" s_nodes_ahead f fd) (T : TxtT mg) : FnOk P w K mg base CX0 (k + 1) f fd ["patterns"] spAhead := by
  refine F.ok sc_nodes_ahead (fun vs H Q E h => ?_) (fun cdv A outer s H vs Q E hr h => ?_)
  · obtain ⟨a, ks, xs, ds, rfl, _⟩ := h
    rfl
  · obtain ⟨a, ks, xs, ds, rfl, ea, hx, hall, few, q⟩ := h
    refine ⟨_, (pss_cons (ps_set (i := 1) sc_nodes_ahead.nd rfl (.inl rfl) (pe_lst pa_nil))
  (pss_cons (ps_set (i := 2) sc_nodes_ahead.nd rfl (.inl rfl) (pe_callTy call_list_of (by rfl) T.n_list (by decide +kernel) (pa_cons (pe_revT (pv 0)) pa_nil)))
  (pss_cons (ps_while PassesOwn.never (pt_truth (pv 2) (by intro _; rfl))
   (pss_cons (ps_set (i := 3) sc_nodes_ahead.nd rfl (.inl rfl) (pe_bm0 PySem.F.plainAttrs_list PySem.F.slot_list_pop PySem.F.type_list_pop mt_pop (pv 2)))
  (pss_one (ps_if (pt_val (pe_callB call_isi (by rfl) T.n_isinstance (by decide +kernel) (pa_cons (pv 3) (pa_cons (pe_bltn (v := .ty "int") (by rfl) T.n_int (by decide +kernel) rfl) pa_nil))))
   (pss_one (ps_expr (pe_bm PySem.F.plainAttrs_list PySem.F.slot_list_append PySem.F.type_list_append mt_append (pv 1) (pa_cons (pv 3) pa_nil))))
   (pss_cons (ps_expr (pe_bm PySem.F.plainAttrs_list PySem.F.slot_list_append PySem.F.type_list_append mt_append (pv 1) (pa_cons (pe_tup (pa_cons (pe_ix ix_tup (pv 3) pe_int (fun _ _ => rfl)) (pa_cons (pe_op op_sub (pe_callB call_len_seq (by rfl) T.n_len (by decide +kernel) (pa_cons (pv 3) pa_nil)) pe_int) pa_nil))) pa_nil)))
  (pss_one (ps_expr (pe_bm PySem.F.plainAttrs_list PySem.F.slot_list_extend PySem.F.type_list_extend mt_extendT (pv 2) (pa_cons (pe_tailT (pv 3)) pa_nil)))))))))
  (pss_one (ps_ret (pv 1)))))), ?_⟩
    have lx := hx.length
    have ln := len_nodes ds
    refine ⟨by show 0 ≤ sizeLine; decide, fun f nf => ?_⟩
    have s1 : Same H (upd H f (.lst [])) := same_upd nf
    have hf : (upd H f (.lst [])) f = some (.lst []) := upd_same
    generalize upd H f (.lst []) = H1 at s1 hf ⊢
    refine ⟨_, rfl, a, xs, rfl, .inl (rd_same ea s1), fun t nt => ?_⟩
    have s2 : Same H1 (upd H1 t (.tup xs.reverse)) := same_upd nt
    have ht : (upd H1 t (.tup xs.reverse)) t = some (.tup xs.reverse) := upd_same
    generalize upd H1 t (.tup xs.reverse) = H2 at s2 ht ⊢
    refine ⟨t, _, rfl, .inr (.inl (.inl ht)), fun l nl => ?_⟩
    have hf2 := s2 _ _ hf
    have nlH : H l = none := s1.free (s2.free nl)
    have nfl : f ≠ l := ne_of_none hf2 nl
    refine ⟨fun j σ H3 => ∃ (vs ys : List V) (ds' : List PyData) (v3 : Option V), nodesL ds' = j ∧ j ≤ 100000 ∧ Same H H3 ∧ H3 f = some (.lst ys) ∧ H3 l = some (.lst vs) ∧ DaAll H vs ds' ∧ allB ks ds' = true ∧ ys.length + tagsL ds' = tagsL ds ∧ ys.length + j ≤ 100000 ∧ σ = [some (.ref a), some (.ref f), some (.ref l), v3],
      ⟨nodesL ds.reverse, xs.reverse, [], ds.reverse, none, rfl, ?_, same_at (s1.trans s2) nlH, ?_, upd_same, hx.rev, ?_, ?_, ?_, rfl⟩, ?_⟩
    · rw [nodesL_rev]
      exact few
    · rw [upd_ne nfl]
      exact hf2
    · rw [allB_rev]
      exact hall
    · rw [tagsL_rev, List.length_nil, Nat.zero_add]
    · rw [nodesL_rev, List.length_nil, Nat.zero_add]
      exact few
    rintro j σ H3 ⟨vs, ys, ds', v3, rfl, jb, s3, hf3, hl3, hda, hall', htag, hb, rfl⟩
    refine ⟨_, rfl, !vs.isEmpty, .inl ⟨vs, .inl (.inl hl3), rfl⟩, ?_⟩
    cases hE : vs.isEmpty with
    | true =>
      refine iteF ?_
      have e : vs = [] := List.isEmpty_iff.mp hE
      subst e
      cases hda
      exact ⟨_, rfl, q f ys _ s3 hf3 (by simpa [tagsL] using htag)⟩
    | false =>
      refine iteT ?_
      have ne : vs ≠ [] := fun z => by
        rw [z] at hE
        cases hE
      obtain ⟨v, d1, hv, eds, hd1, hrest⟩ := hda.snoc ne
      have en : nodesL ds' = nodesL ds'.dropLast + nodes d1 := by
        rw [eds, nodesL_app]
        simp [nodesL]
      have et : tagsL ds' = tagsL ds'.dropLast + tagsN d1 := by
        rw [eds, tagsL_app]
        simp [tagsL]
      have eall : (allB ks ds'.dropLast && treeB ks d1) = true := by
        rw [eds, allB_app] at hall'
        simpa [allB] using hall'
      rw [Bool.and_eq_true] at eall
      obtain ⟨b, z, xs1, ds1, rfl, rfl, eb, hxs, hmem, hkids⟩ := treeB_tup eall.2 hd1
      refine ⟨fun σ H8 => ∃ i, i < nodesL ds' ∧ ∃ (vs ys : List V) (ds' : List PyData) (v3 : Option V), nodesL ds' = i ∧ i ≤ 100000 ∧ Same H H8 ∧ H8 f = some (.lst ys) ∧ H8 l = some (.lst vs) ∧ DaAll H vs ds' ∧ allB ks ds' = true ∧ ys.length + tagsL ds' = tagsL ds ∧ ys.length + i ≤ 100000 ∧ σ = [some (.ref a), some (.ref f), some (.ref l), v3], fun σ' H' h => h, ?_⟩
      refine ⟨_, rfl, .inl ⟨rfl, _, .inl (.inl hl3)⟩, l, vs, .ref b, rfl, rfl, hl3, hv, ?_⟩
      have s4 : Same H (upd H3 l (.lst vs.dropLast)) := same_at s3 nlH
      have hf4 : (upd H3 l (.lst vs.dropLast)) f = some (.lst ys) := by rw [upd_ne nfl]; exact hf3
      have hl4 : (upd H3 l (.lst vs.dropLast)) l = some (.lst vs.dropLast) := upd_same
      generalize upd H3 l (.lst vs.dropLast) = H4 at s4 hf4 hl4 ⊢
      have eb4 := rd_same eb s4
      refine ⟨_, rfl, _, _, _, _, _, rfl, .ty "int", (hd1.same s4).ty, kit_ty (kit_int _), _, rfl, ?_⟩
      refine iteF ?_
      refine ⟨_, rfl, .inl ⟨rfl, _, .inl (.inl hf4)⟩, _, rfl, b, _, _, .str z, rfl, rfl, .inl eb4, atI_nat (j := 0) rfl, _, rfl, b, _, rfl, .inr (.inl eb4), _, _, rfl, rfl, by show 2 ≤ sizeLine; decide, fun t4 nt4 => ?_⟩
      have s5 := same_upd (o := .tup [.str z, .int (((V.str z :: xs1).length : Nat) - 1)]) nt4
      have nfH : H f = none := nf
      refine ⟨f, ys, _, rfl, rfl, s5 _ _ hf4, ?_, ?_⟩
      · rw [sizeLine_eq]
        omega
      have s6 : Same H (upd (upd H4 t4 (.tup [.str z, .int (((V.str z :: xs1).length : Nat) - 1)])) f (.lst (ys ++ [.ref t4]))) := same_at (s4.trans s5) nfH
      have hf6 : (upd (upd H4 t4 (.tup [.str z, .int (((V.str z :: xs1).length : Nat) - 1)])) f (.lst (ys ++ [.ref t4]))) f = some (.lst (ys ++ [.ref t4])) := upd_same
      have hl6 : (upd (upd H4 t4 (.tup [.str z, .int (((V.str z :: xs1).length : Nat) - 1)])) f (.lst (ys ++ [.ref t4]))) l = some (.lst vs.dropLast) := by
        rw [upd_ne (Ne.symm nfl)]
        exact s5 _ _ hl4
      generalize upd (upd H4 t4 (.tup [.str z, .int (((V.str z :: xs1).length : Nat) - 1)])) f (.lst (ys ++ [.ref t4])) = H6 at s6 hf6 hl6 ⊢
      refine ⟨_, rfl, .inl ⟨rfl, _, .inl (.inl hl6)⟩, _, rfl, b, _, rfl, .inl (rd_same eb s6), Nat.succ_pos _, fun r nr => ?_⟩
      have s7 := same_upd (o := .tup ((V.str z :: xs1).drop 1).reverse) nr
      have hr7 : (upd H6 r (.tup ((V.str z :: xs1).drop 1).reverse)) r = some (.tup xs1.reverse) := upd_same
      have nlr : l ≠ r := ne_of_none hl6 nr
      have nfr : f ≠ r := ne_of_none hf6 nr
      have lv := len_nodes ds'.dropLast
      have lr := hrest.length
      have l1 := hxs.length
      have n1 := len_nodes ds1
      have nd1 : nodes (.tuple (.str z :: ds1)) = 1 + (1 + nodesL ds1) := by simp only [nodes, nodesL]
      have td1 : tagsN (.tuple (.str z :: ds1)) = 1 + tagsL ds1 := by simp only [tagsN, tagsT]
      refine ⟨l, r, vs.dropLast, xs1.reverse, rfl, rfl, s7 _ _ hl6, .inl (.inl hr7), ?_, ?_⟩
      · rw [List.length_reverse, l1, lr, sizeLine_eq]
        omega
      · refine ⟨nodesL (ds'.dropLast ++ ds1.reverse), ?_, _, ys ++ [.ref t4], _, _, rfl, ?_, same_at (s6.trans s7) nlH, ?_, upd_same, hrest.app hxs.rev, ?_, ?_, ?_, rfl⟩
        · rw [nodesL_app, nodesL_rev]
          omega
        · rw [nodesL_app, nodesL_rev]
          omega
        · rw [upd_ne nfl]
          exact s7 _ _ hf6
        · rw [allB_app, allB_rev, eall.1, hkids]
          rfl
        · rw [tagsL_app, tagsL_rev, List.length_append, List.length_singleton]
          omega
        · rw [nodesL_app, nodesL_rev, List.length_append, List.length_singleton]
          omega
theorem ok_forest {f f1 : Addr} {fd fd1 : FuncData} {k : Nat} (F : Fun K "size_of_forest" "size_of_forest" s_size_of_forest f fd) (T : TxtT mg) (F_nodes_ahead : Fun K "nodes_ahead" "nodes_ahead" s_nodes_ahead f1 fd1) (b_nodes_ahead : Binds K fd1 ["patterns"] []) (g_nodes_ahead : mg "nodes_ahead" = some (.ref f1)) (G_nodes_ahead : FnOk P w K mg base CX0 1 f1 fd1 ["patterns"] spAhead) : FnOk P w K mg base CX0 (k + 2) f fd ["trees"] spForest := by
  refine F.ok sc_size_of_forest (fun vs H Q E h => ?_) (fun cdv A outer s H vs Q E hr h => ?_)
  · obtain ⟨a, ks, xs, ds, rfl, _⟩ := h
    rfl
  · obtain ⟨a, ks, xs, ds, rfl, ea, hx, hall, few, q⟩ := h
    refine ⟨_, (pss_one (ps_ret (pe_callB call_len_seq (by rfl) T.n_len (by decide +kernel) (pa_cons (pe_call G_nodes_ahead (hr.mono (by omega)) (by rfl) g_nodes_ahead F_nodes_ahead.kp b_nodes_ahead .nil pass0 (pa_cons (pv 0) pa_nil)) pa_nil)))), ?_⟩
    refine ⟨_, rfl, ⟨a, ks, xs, ds, rfl, ea, hx, hall, few, fun r ys H' s h l => ?_⟩⟩
    refine ⟨r, ys, rfl, .inl (.inl (.inl h)), ?_⟩
    rw [l]
    exact q _ s
end
end My

namespace My
open PySem PySem.Spec PyProof.Rows L2
section
variable {P : Program} {w : World} {K : PySem.W.Frag} {mg : Str → Option Value} {base : Heap}
theorem ok_tags_of {f : Addr} {fd : FuncData} {k : Nat} (F : Fun K "_law_tags_of" "_law_tags_of" s_law_tags_of f fd) (T : TxtT mg) : FnOk P w K mg base CX0 (k + 1) f fd ["trees"] spForest := by
  refine F.ok sc_law_tags_of (fun vs H Q E h => ?_) (fun cdv A outer s H vs Q E hr h => ?_)
  · obtain ⟨a0, ks, xs0, ds0, rfl, _⟩ := h
    rfl
  · obtain ⟨a0, ks, xs0, ds0, rfl, ea0, hx, hall0, few, q⟩ := h
    refine ⟨_, (pss_cons (ps_par (i := 1) (j := 2) (by rfl) sc_law_tags_of.nd rfl rfl (by decide) rfl rfl (pa_cons pe_int (pa_cons (pe_callTy call_list_of (by rfl) T.n_list (by decide +kernel) (pa_cons (pv 0) pa_nil)) pa_nil)) (by rfl))
  (pss_cons (ps_while PassesOwn.never (pt_cmpR (op_neNil hr.units) (pv 2) (pe_lst pa_nil) (nomark _))
   (pss_cons (ps_set (i := 3) sc_law_tags_of.nd rfl (.inl rfl) (pe_bm0 PySem.F.plainAttrs_list PySem.F.slot_list_pop PySem.F.type_list_pop mt_pop (pv 2)))
  (pss_cons (ps_set (i := 1) sc_law_tags_of.nd rfl (.inl rfl) (pe_op op_add (pv 1) pe_int))
  (pss_one (ps_expr (pe_bm PySem.F.plainAttrs_list PySem.F.slot_list_extend PySem.F.type_list_extend mt_extend (pv 2) (pa_cons (pe_callTy call_list_of (by rfl) T.n_list (by decide +kernel) (pa_cons (pe_slice sl_X (pv 3) (po_some pe_int) po_none) pa_nil)) pa_nil)))))))
  (pss_one (ps_ret (pv 1))))), ?_⟩
    refine ⟨_, rfl, a0, _, rfl, .inr (.inl ea0), fun l nl => ⟨_, _, rfl, ?_⟩⟩
    have nlH : H l = none := nl
    refine ⟨fun j σ H3 => ∃ (vs : List V) (ds' : List PyData) (n : Int) (v3 : Option V), nodesL ds' = j ∧ j ≤ 100000 ∧ Same H H3 ∧ H3 l = some (.lst vs) ∧ DaAll H vs ds' ∧ allB ks ds' = true ∧ n + (tagsL ds' : Nat) = (tagsL ds0 : Nat) ∧ σ = [some (.ref a0), some (.int n), some (.ref l), v3],
      ⟨nodesL ds0, xs0, ds0, 0, none, rfl, few, same_at (same_rfl H) nlH, upd_same, hx, hall0, by omega, rfl⟩, ?_⟩
    rintro j σ H3 ⟨vs, ds', n, v3, rfl, jb, s3, hl3, hda, hall', htag, rfl⟩
    refine ⟨_, rfl, by show 0 ≤ sizeLine; decide, fun o no => ?_⟩
    have so : Same H3 (upd H3 o (.lst [])) := same_upd no
    have ho : (upd H3 o (.lst [])) o = some (.lst []) := upd_same
    generalize upd H3 o (.lst []) = H4 at so ho ⊢
    have hl4 := so _ _ hl3
    have s4 := s3.trans so
    refine ⟨l, o, vs, rfl, rfl, hl4, ho, _, rfl, ?_⟩
    cases hE : vs.isEmpty with
    | true =>
      refine iteF ?_
      have e : vs = [] := List.isEmpty_iff.mp hE
      subst e
      cases hda
      have en : n = (tagsL ds0 : Nat) := by
        simp only [tagsL] at htag
        omega
      subst en
      exact ⟨_, rfl, q _ s4⟩
    | false =>
      refine iteT ?_
      have ne : vs ≠ [] := fun z => by
        rw [z] at hE
        cases hE
      obtain ⟨v, d1, hv, eds, hd1, hrest⟩ := hda.snoc ne
      have en : nodesL ds' = nodesL ds'.dropLast + nodes d1 := by
        rw [eds, nodesL_app]
        simp [nodesL]
      have et : tagsL ds' = tagsL ds'.dropLast + tagsN d1 := by
        rw [eds, tagsL_app]
        simp [tagsL]
      have eall : (allB ks ds'.dropLast && treeB ks d1) = true := by
        rw [eds, allB_app] at hall'
        simpa [allB] using hall'
      rw [Bool.and_eq_true] at eall
      obtain ⟨b, z, xs1, ds1, rfl, rfl, eb, hxs, hmem, hkids⟩ := treeB_tup eall.2 hd1
      refine ⟨fun σ H8 => ∃ i, i < nodesL ds' ∧ ∃ (vs : List V) (ds' : List PyData) (n : Int) (v3 : Option V), nodesL ds' = i ∧ i ≤ 100000 ∧ Same H H8 ∧ H8 l = some (.lst vs) ∧ DaAll H vs ds' ∧ allB ks ds' = true ∧ n + (tagsL ds' : Nat) = (tagsL ds0 : Nat) ∧ σ = [some (.ref a0), some (.int n), some (.ref l), v3], fun σ' H' h => h, ?_⟩
      refine ⟨_, rfl, .inl ⟨rfl, _, .inl (.inl hl4)⟩, l, vs, .ref b, rfl, rfl, hl4, hv, ?_⟩
      have s5 : Same H (upd H4 l (.lst vs.dropLast)) := same_at s4 nlH
      have hl5 : (upd H4 l (.lst vs.dropLast)) l = some (.lst vs.dropLast) := upd_same
      generalize upd H4 l (.lst vs.dropLast) = H5 at s5 hl5 ⊢
      refine ⟨_, rfl, _, _, rfl, rfl, ?_⟩
      refine ⟨_, rfl, .inl ⟨rfl, _, .inl (.inl hl5)⟩, _, rfl, _, rfl, b, _, rfl, rd_same eb s5, fun r H6 s6 hr6 => ?_⟩
      rw [cut_tail (V.str z :: xs1) (Nat.succ_pos _)] at hr6
      refine ⟨r, _, rfl, .inr (.inl hr6), fun m nm => ?_⟩
      have s7 := same_upd (o := .lst ((V.str z :: xs1).drop 1)) nm
      have hm7 : (upd H6 m (.lst ((V.str z :: xs1).drop 1))) m = some (.lst xs1) := upd_same
      generalize upd H6 m (.lst ((V.str z :: xs1).drop 1)) = H7 at s7 hm7 ⊢
      have hl7 := s7 _ _ (s6 _ _ hl5)
      have lv := len_nodes ds'.dropLast
      have lr := hrest.length
      have l1 := hxs.length
      have n1 := len_nodes ds1
      have nd1 : nodes (.tuple (.str z :: ds1)) = 1 + (1 + nodesL ds1) := by simp only [nodes, nodesL]
      have td1 : tagsN (.tuple (.str z :: ds1)) = 1 + tagsL ds1 := by simp only [tagsN, tagsT]
      refine ⟨l, m, vs.dropLast, xs1, rfl, rfl, hl7, hm7, ?_, ?_⟩
      · rw [l1, lr, sizeLine_eq]
        omega
      · refine ⟨nodesL (ds'.dropLast ++ ds1), ?_, _, _, _, _, rfl, ?_, same_at ((s5.trans s6).trans s7) nlH, upd_same, hrest.app hxs, ?_, ?_, rfl⟩
        · rw [nodesL_app]
          omega
        · rw [nodesL_app]
          omega
        · rw [allB_app, eall.1, hkids]
          rfl
        · rw [tagsL_app]
          omega
end
end My

namespace My
open PySem PySem.Spec PyProof.Rows L2
theorem But.set {p D : Addr} {H H' : Hp} {o : HO} (h : But p H H') (n : H D = none) : But p H (upd H' D o) := ⟨fun b u e m => by
  rw [upd_ne (ne_of_none e n)]
  exact h.1 b u e m, fun z => by
  by_cases y : p = D
  · subst y
    rw [upd_same] at z
    cases z
  · rw [upd_ne y] at z
    exact h.2 z⟩
theorem Pot.upd {H : Hp} {p c D : Addr} {o : HO} (h : Pot H p c) (n1 : p ≠ D) (n2 : c ≠ D) : Pot (L2.upd H D o) p c := by
  obtain ⟨ns, pl, am, sz, h1, h2, h3⟩ := h
  exact ⟨ns, pl, am, sz, by rw [upd_ne n1]; exact h1, by rw [upd_ne n2]; exact h2, h3⟩
theorem Pot.p {H : Hp} {p c : Addr} (h : Pot H p c) : ∃ xs, H p = some (.lst xs) := by
  obtain ⟨ns, pl, am, sz, h1, h2, h3⟩ := h
  exact ⟨_, h1⟩
theorem Pot.c {H : Hp} {p c : Addr} (h : Pot H p c) : ∃ xs, H c = some (.lst xs) := by
  obtain ⟨ns, pl, am, sz, h1, h2, h3⟩ := h
  exact ⟨_, h2⟩
theorem Pot.ne {H : Hp} {p c D : Addr} (h : Pot H p c) (n : H D = none) : p ≠ D ∧ c ≠ D := by
  obtain ⟨xs, e⟩ := h.p
  obtain ⟨ys, g⟩ := h.c
  exact ⟨ne_of_none e n, ne_of_none g n⟩
theorem Pot.but0 {H : Hp} {p c : Addr} (h : Pot H p c) : But p H H := by
  obtain ⟨xs, e⟩ := h.p
  exact .of e (same_rfl H)
theorem Pot.but1 {H H' : Hp} {p c : Addr} (h : Pot H p c) (s : Same H H') : But p H H' := by
  obtain ⟨xs, e⟩ := h.p
  exact .of (s _ _ e) s
theorem Prs.but {p c : Addr} {H H' : Hp} (b : But p H H') (hP : Pot H p c) {rs : List Addr} {ks : List (Str × Int)} (h : Prs H rs ks) : Prs H' rs ks := by
  obtain ⟨xs, ep⟩ := hP.p
  induction h with
  | nil => exact .nil
  | cons e _ ih =>
    refine .cons ?_ ih
    rcases e with e | ⟨o, e⟩
    · refine .inl (b.1 _ _ e fun z => ?_)
      rw [z, ep] at e
      cases e
    · refine .inr ⟨o, b.1 _ _ e fun z => ?_⟩
      rw [z, ep] at e
      cases e
theorem seq_nat {n j : Nat} (h : j < n) : seqIndex? (j : Int) n = some j := by
  refine (ixN_seq ?_).1
  unfold ixN
  rw [if_pos (by omega), if_pos (by omega)]
  rfl
/-- a word: the stem with another letter at its place -/
theorem fits_few {n : Nat} (h : n ≤ 100) : n ≤ sizeLine := Nat.le_of_lt (small1000 (by omega))
theorem eraseIdx_map {α β : Type} (f : α → β) : ∀ (l : List α) (j : Nat), (l.map f).eraseIdx j = (l.eraseIdx j).map f
  | [], _ => rfl
  | _ :: _, 0 => rfl
  | a :: r, j + 1 => by
    rw [List.map_cons, List.eraseIdx_cons_succ, List.eraseIdx_cons_succ, List.map_cons, eraseIdx_map f r j]
def TAGS : List Str := ["leaf", "join", "a", "z9", "node", "b2b", "tip", "eightabc"]
/-- a drawn kind -/
structure Rk (ks : List (Str × Int)) : Prop where
  few : ks.length ≤ 8
  nd : (ks.map (·.1)).Nodup
  leaf : ∃ q ∈ ks, q.2 = 0
  node : ∃ q ∈ ks, 0 < q.2
  all : ∀ q ∈ ks, q.1 ∈ TAGS ∧ 0 ≤ q.2 ∧ q.2 ≤ 4
structure spKind (vs : List V) (H : Hp) (Q : VK) (E : XK) : Prop where
  ex : ∃ (p c : Addr) (most : Nat), vs = [.ref p, .int most] ∧ Pot H p c ∧ 2 ≤ most ∧ most ≤ 8 ∧ ∀ (a : Addr) (ks : List (Str × Int)) (H' : Hp), But p H H' → Pot H' p c → KindF H' a ks → Rk ks → Q (.ref a) H'
structure TxtM (mg : Str → Option Value) : Prop where
  n_range : mg "range" = none
  n_len : mg "len" = none
  n_tuple : mg "tuple" = none
abbrev s_law_some_kind : Stmt := topS 37
theorem sc_law_some_kind : FnScope ["deck", "most", "parts", "turn", "tags", "found", "tag"] ["deck", "most"] (defScope s_law_some_kind) := ⟨rfl, rfl, rfl, by decide +kernel, rfl, by decide +kernel, by decide +kernel⟩
theorem get_split {α : Type} {l : List α} {j : Nat} {x : α} (h : l[j]? = some x) : ∀ y, y ∈ l ↔ y = x ∨ y ∈ l.eraseIdx j := by
  induction l generalizing j with
  | nil => cases h
  | cons a r ih =>
    intro y
    cases j with
    | zero =>
      cases h
      simp
    | succ j =>
      have h' : r[j]? = some x := h
      have z := ih h' y
      rw [List.mem_cons, List.eraseIdx_cons_succ, List.mem_cons, z]
      constructor
      · rintro (h | h | h)
        · exact .inr (.inl h)
        · exact .inl h
        · exact .inr (.inr h)
      · rintro (h | h | h)
        · exact .inr (.inl h)
        · exact .inl h
        · exact .inr (.inr h)
theorem nodup_erase {α : Type} {l : List α} {j : Nat} {x : α} (h : l[j]? = some x) (nd : l.Nodup) : x ∉ l.eraseIdx j ∧ (l.eraseIdx j).Nodup := by
  induction l generalizing j with
  | nil => cases h
  | cons a r ih =>
    rw [List.nodup_cons] at nd
    cases j with
    | zero =>
      cases h
      exact ⟨nd.1, nd.2⟩
    | succ j =>
      have h' : r[j]? = some x := h
      obtain ⟨i1, i2⟩ := ih h' nd.2
      rw [List.eraseIdx_cons_succ, List.nodup_cons]
      have mx : x ∈ r := List.mem_of_getElem? h'
      refine ⟨fun z => ?_, fun z => nd.1 (((get_split h') a).mpr (.inr z)), i2⟩
      rcases List.mem_cons.mp z with z | z
      · exact nd.1 (z ▸ mx)
      · exact i1 z
section
variable {P : Program} {w : World} {K : PySem.W.Frag} {mg : Str → Option Value} {base : Heap}
theorem ok_some_kind {f fb fp : Addr} {fd fdb fdp : FuncData} {k : Nat} (F : Fun K "_law_some_kind" "_law_some_kind" s_law_some_kind f fd) (T : TxtM mg) (F__law_below : Fun K "_law_below" "_law_below" s_law_below fb fdb) (b__law_below : Binds K fdb ["deck", "bound"] []) (g__law_below : mg "_law_below" = some (.ref fb)) (G__law_below : FnOk P w K mg base CX0 2 fb fdb ["deck", "bound"] spBelow)
    (F__law_pick : Fun K "_law_pick" "_law_pick" s_law_pick fp fdp) (b__law_pick : Binds K fdp ["deck", "some"] []) (g__law_pick : mg "_law_pick" = some (.ref fp)) (G__law_pick : FnOk P w K mg base CX0 3 fp fdp ["deck", "some"] (spPick K)) : FnOk P w K mg base CX0 (k + 4) f fd ["deck", "most"] spKind := by
  refine F.ok sc_law_some_kind (fun vs H Q E h => ?_) (fun cdv A outer s H vs Q E hr h => ?_)
  · obtain ⟨p, c, m, rfl, _⟩ := h
    rfl
  · obtain ⟨p, c, most, rfl, hP, m2, m8, q⟩ := h
    refine ⟨_, (pss_cons (ps_set (i := 2) sc_law_some_kind.nd rfl (.inl rfl) (pe_lst (pa_cons pe_int (pa_cons (pe_call G__law_pick (hr.mono (by omega)) (by rfl) g__law_pick F__law_pick.kp b__law_pick .nil pass0 (pa_cons (pv 0) (pa_cons (pe_lst (pa_cons pe_int (pa_cons pe_int (pa_cons pe_int (pa_cons pe_int (pa_cons pe_int pa_nil)))))) pa_nil))) pa_nil))))
  (pss_cons (ps_for PassesOwn.never rfl (pi_range1 (by rfl) T.n_range (pa_cons (pe_call G__law_below (hr.mono (by omega)) (by rfl) g__law_below F__law_below.kp b__law_below .nil pass0 (pa_cons (pv 0) (pa_cons (pe_op op_sub (pv 1) pe_int) pa_nil))) pa_nil)) (pg_name (i := 3) sc_law_some_kind.nd rfl (.inl rfl))
   (pss_one (ps_expr (pe_bm PySem.F.plainAttrs_list PySem.F.slot_list_append PySem.F.type_list_append mt_append (pv 2) (pa_cons (pe_call G__law_pick (hr.mono (by omega)) (by rfl) g__law_pick F__law_pick.kp b__law_pick .nil pass0 (pa_cons (pv 0) (pa_cons (pe_lst (pa_cons pe_int (pa_cons pe_int (pa_cons pe_int (pa_cons pe_int (pa_cons pe_int (pa_cons pe_int (pa_cons pe_int pa_nil)))))))) pa_nil))) pa_nil)))))
  (pss_cons (ps_par (i := 4) (j := 5) (by rfl) sc_law_some_kind.nd rfl rfl (by decide) rfl rfl (pa_cons (pe_lst (pa_cons pe_str (pa_cons pe_str (pa_cons pe_str (pa_cons pe_str (pa_cons pe_str (pa_cons pe_str (pa_cons pe_str (pa_cons pe_str pa_nil))))))))) (pa_cons (pe_lst pa_nil) pa_nil)) (by rfl))
  (pss_cons (ps_while PassesOwn.never (pt_cmpR (op_neNil hr.units) (pv 2) (pe_lst pa_nil) (nomark _))
   (pss_cons (ps_set (i := 6) sc_law_some_kind.nd rfl (.inl rfl) (pe_bm PySem.F.plainAttrs_list PySem.F.slot_list_pop PySem.F.type_list_pop mt_popAt (pv 4) (pa_cons (pe_call G__law_below (hr.mono (by omega)) (by rfl) g__law_below F__law_below.kp b__law_below .nil pass0 (pa_cons (pv 0) (pa_cons (pe_callB call_len_seq (by rfl) T.n_len (by decide +kernel) (pa_cons (pv 4) pa_nil)) pa_nil))) pa_nil)))
  (pss_one (ps_expr (pe_bm PySem.F.plainAttrs_list PySem.F.slot_list_append PySem.F.type_list_append mt_append (pv 5) (pa_cons (pe_tup (pa_cons (pv 6) (pa_cons (pe_bm PySem.F.plainAttrs_list PySem.F.slot_list_pop PySem.F.type_list_pop mt_popAt (pv 2) (pa_cons (pe_call G__law_below (hr.mono (by omega)) (by rfl) g__law_below F__law_below.kp b__law_below .nil pass0 (pa_cons (pv 0) (pa_cons (pe_callB call_len_seq (by rfl) T.n_len (by decide +kernel) (pa_cons (pv 2) pa_nil)) pa_nil))) pa_nil)) pa_nil))) pa_nil))))))
  (pss_one (ps_ret (pe_callTy call_tupleF (by rfl) T.n_tuple (by decide +kernel) (pa_cons (pv 5) pa_nil)))))))), ?_⟩
    clear G__law_below G__law_pick
    -- parts = [0, pick(..)]
    refine ⟨_, rfl, by show 5 ≤ sizeLine; decide, fun l1 n1 => ?_⟩
    have s1 := same_upd (o := .lst [.int 2, .int 2, .int 2, .int 3, .int 4]) n1
    obtain ⟨np1, nc1⟩ := hP.ne n1
    refine ⟨p, c, l1, _, rfl, hP.same s1, .inl (.inl upd_same), (fun z => nomatch z), by show 5 < 1073741824; decide, fun H' hb => .inl (.inl (hb.1 _ _ upd_same (Ne.symm np1))), fun x H2 hx hP2 b2 => ?_⟩
    obtain ⟨n, rfl, hn1, hn4⟩ : ∃ n : Int, x = .int n ∧ 0 < n ∧ n ≤ 4 := by
      simp only [List.mem_cons, List.not_mem_nil, or_false] at hx
      rcases hx with rfl | rfl | rfl | rfl | rfl <;> exact ⟨_, rfl, by decide, by decide⟩
    have bH2 : But p H H2 := (hP.but1 s1).trans b2
    refine ⟨by show 2 ≤ sizeLine; decide, fun L nL => ?_⟩
    have nLH : H L = none := bH2.free nL
    obtain ⟨npL, ncL⟩ := hP2.ne nL
    have s3 := same_upd (o := .lst [.int 0, .int n]) nL
    have bH3 : But p H (upd H2 L (.lst [.int 0, .int n])) := bH2.set nLH
    have hP3 := hP2.same s3
    have hL3 : (upd H2 L (.lst [.int 0, .int n])) L = some (.lst ([0, n].map V.int)) := upd_same
    generalize upd H2 L (.lst [.int 0, .int n]) = H3 at bH3 hP3 hL3 s3 ⊢
    -- for turn in range(below(deck, most - 1))
    refine ⟨_, rfl, _, rfl, _, _, rfl, rfl, p, c, _, rfl, hP3, by omega, by omega, fun t H4 t0 t1 hP4 b4 => ?_⟩
    obtain ⟨tn, rfl⟩ : ∃ tn : Nat, t = (tn : Int) := ⟨t.toNat, by omega⟩
    have hL4 := b4.1 _ _ hL3 (Ne.symm npL)
    have bH4 := bH3.trans b4
    refine ⟨tn, rfl, by omega, by omega, for_range (n := tn) (fun i σ H5 => But p H H5 ∧ Pot H5 p c ∧ ∃ (ns : List Int) (v3 : Option V), H5 L = some (.lst (ns.map V.int)) ∧ ns.length = 2 + i ∧ 0 ∈ ns ∧ n ∈ ns ∧ (∀ y ∈ ns, 0 ≤ y ∧ y ≤ 4) ∧ σ = [some (.ref p), some (.int most), some (.ref L), v3, none, none, none]) ⟨bH4, hP4, [0, n], none, hL4, rfl, List.mem_cons_self, List.mem_cons_of_mem _ List.mem_cons_self, ?_, rfl⟩ ?_ ?_⟩
    · intro y hy
      simp only [List.mem_cons, List.not_mem_nil, or_false] at hy
      rcases hy with rfl | rfl <;> omega
    · rintro i σ H5 hi ⟨bH5, hP5, ns, v3, hL5, ln, z0, zn, all, rfl⟩
      refine ⟨_, rfl, .inl ⟨rfl, _, .inl (.inl hL5)⟩, ?_⟩
      refine ⟨_, rfl, by show 7 ≤ sizeLine; decide, fun l nl => ?_⟩
      have sl := same_upd (o := .lst [.int 0, .int 0, .int 1, .int 1, .int 2, .int 3, .int 4]) nl
      obtain ⟨npl, ncl⟩ := hP5.ne nl
      refine ⟨p, c, l, _, rfl, hP5.same sl, .inl (.inl upd_same), (fun z => nomatch z), by show 7 < 1073741824; decide, fun H' hb => .inl (.inl (hb.1 _ _ upd_same (Ne.symm npl))), fun x H6 hx hP6 b6 => ?_⟩
      obtain ⟨m, rfl, m0, m4⟩ : ∃ n : Int, x = .int n ∧ 0 ≤ n ∧ n ≤ 4 := by
        simp only [List.mem_cons, List.not_mem_nil, or_false] at hx
        rcases hx with rfl | rfl | rfl | rfl | rfl | rfl | rfl <;> exact ⟨_, rfl, by decide, by decide⟩
      have hL6 := b6.1 _ _ (sl _ _ hL5) (Ne.symm npL)
      refine ⟨L, _, _, rfl, rfl, hL6, ?_, ?_⟩
      · rw [List.length_map, ln]
        exact small1000 (by omega)
      · refine ⟨((bH5.same sl).trans b6).set nLH, hP6.upd npL ncL, ns ++ [m], _, ?_, ?_, ?_, ?_, ?_, rfl⟩
        · rw [upd_same, List.map_append]
          rfl
        · rw [List.length_append, ln]
          rfl
        · exact List.mem_append_left _ z0
        · exact List.mem_append_left _ zn
        · intro y hy
          rcases List.mem_append.mp hy with hy | hy
          · exact all y hy
          · rw [List.mem_singleton.mp hy]
            exact ⟨m0, m4⟩
    · rintro σ H5 ⟨bH5, hP5, ns, v3, hL5, ln, z0, zn, all, rfl⟩
      -- tags, found
      refine ⟨by show 8 ≤ sizeLine; decide, fun G0 nG => ⟨by show 0 ≤ sizeLine; decide, fun F0 nF => ⟨_, _, rfl, ?_⟩⟩⟩
      have eT : [V.str "leaf", .str "join", .str "a", .str "z9", .str "node", .str "b2b", .str "tip", .str "eightabc"] = TAGS.map V.str := rfl
      have s6 : Same H5 (upd H5 G0 (.lst (TAGS.map V.str))) := same_upd nG
      have nF' : (upd H5 G0 (.lst (TAGS.map V.str))) F0 = none := nF
      have s7 : Same (upd H5 G0 (.lst (TAGS.map V.str))) (upd (upd H5 G0 (.lst (TAGS.map V.str))) F0 (.lst [])) := same_upd nF'
      have nGH : H G0 = none := bH5.free nG
      have hG7 : (upd (upd H5 G0 (.lst (TAGS.map V.str))) F0 (.lst [])) G0 = some (.lst (TAGS.map V.str)) := s7 _ _ upd_same
      have hL7 := s7 _ _ (s6 _ _ hL5)
      have hF7 : (upd (upd H5 G0 (.lst (TAGS.map V.str))) F0 (.lst [])) F0 = some (.lst []) := upd_same
      have hP7 := (hP5.same s6).same s7
      have nFH : H F0 = none := bH5.free (s6.free nF)
      have bH7 : But p H (upd (upd H5 G0 (.lst (TAGS.map V.str))) F0 (.lst [])) := (bH5.set nGH).set nFH
      obtain ⟨npG, ncG⟩ := hP5.ne nG
      obtain ⟨npF, ncF⟩ := (hP5.same s6).ne nF
      have nLG : L ≠ G0 := ne_of_none hL5 nG
      have nLF : L ≠ F0 := ne_of_none (s6 _ _ hL5) nF
      have nGF : G0 ≠ F0 := ne_of_none (show (upd H5 G0 (.lst (TAGS.map V.str))) G0 = some (.lst (TAGS.map V.str)) from upd_same) nF
      generalize hH7 : upd (upd H5 G0 (.lst (TAGS.map V.str))) F0 (.lst []) = H7 at hG7 hL7 hF7 hP7 bH7
      have hH7' : upd (upd H5 G0 (.lst [V.str "leaf", .str "join", .str "a", .str "z9", .str "node", .str "b2b", .str "tip", .str "eightabc"])) F0 (.lst []) = H7 := hH7
      rw [hH7']
      refine ⟨fun j σ H8 => ∃ (ns : List Int) (ts : List Str) (ks : List (Str × Int)) (rs : List Addr) (v3 v6 : Option V), ns.length = j ∧ But p H H8 ∧ Pot H8 p c ∧ H8 L = some (.lst (ns.map V.int)) ∧ H8 G0 = some (.lst (ts.map V.str)) ∧ H8 F0 = some (.lst (rs.map V.ref)) ∧ Prs H8 rs ks ∧ ns.length ≤ ts.length ∧ ts.length ≤ 8 ∧ ns.length + ks.length ≤ 8 ∧ ts.Nodup ∧ (∀ y ∈ ts, y ∈ TAGS) ∧ (ks.map (·.1)).Nodup ∧ (∀ q ∈ ks, q.1 ∉ ts) ∧
          (0 ∈ ns ∨ ∃ q ∈ ks, q.2 = 0) ∧ (n ∈ ns ∨ ∃ q ∈ ks, q.2 = n) ∧ (∀ y ∈ ns, 0 ≤ y ∧ y ≤ 4) ∧ (∀ q ∈ ks, q.1 ∈ TAGS ∧ 0 ≤ q.2 ∧ q.2 ≤ 4) ∧ σ = [some (.ref p), some (.int most), some (.ref L), v3, some (.ref G0), some (.ref F0), v6],
        ⟨ns.length, ns, TAGS, [], [], v3, none, rfl, bH7, hP7, hL7, hG7, hF7, .nil, ?_, by decide, ?_, by decide, fun _ z => z, by simp, fun _ z => (nomatch z), .inl z0, .inl zn, all, fun _ z => (nomatch z), rfl⟩, ?_⟩
      · rw [ln]
        show _ ≤ 8
        omega
      · rw [ln, List.length_nil]
        omega
      rintro j σ H8 ⟨ns, ts, ks, rs, v3, v6, rfl, bH8, hP8, hL8, hG8, hF8, pr, lt, lt8, l8, ndt, alt, ndk, dis, z0, zn, all, allk, rfl⟩
      refine ⟨_, rfl, by show 0 ≤ sizeLine; decide, fun o no => ?_⟩
      have so : Same H8 (upd H8 o (.lst [])) := same_upd no
      have ho : (upd H8 o (.lst [])) o = some (.lst []) := upd_same
      have bH9 := bH8.same so
      generalize upd H8 o (.lst []) = H9 at so ho bH9 ⊢
      have hP9 := hP8.same so
      have hL9 := so _ _ hL8
      have hG9 := so _ _ hG8
      have hF9 := so _ _ hF8
      have pr9 := pr.same so
      refine ⟨L, o, ns.map V.int, rfl, rfl, hL9, ho, _, rfl, ?_⟩
      cases hE : (ns.map V.int).isEmpty with
      | true =>
        refine iteF ?_
        have e : ns = [] := by
          cases ns with
          | nil => rfl
          | cons => cases hE
        subst e
        refine ⟨_, rfl, F0, _, rfl, .inl (.inl hF9), fun a ob na nob => ?_⟩
        have sa := same_upd (o := .frz ob (.tup (rs.map V.ref))) na
        refine q a ks _ (bH9.same sa) (hP9.same sa) ⟨rs, ob, upd_same, nob, pr9.same sa⟩ ⟨by simpa using l8, ndk, ?_, ?_, allk⟩
        · rcases z0 with z | z
          · cases z
          · exact z
        · rcases zn with z | ⟨y, hy, ey⟩
          · cases z
          · exact ⟨y, hy, by omega⟩
      | false =>
        refine iteT ?_
        have l0 : 0 < ns.length := by
          cases ns with
          | nil => cases hE
          | cons => exact Nat.succ_pos _
        refine ⟨fun σ H8' => ∃ i, i < ns.length ∧ ∃ (ns : List Int) (ts : List Str) (ks : List (Str × Int)) (rs : List Addr) (v3 v6 : Option V), ns.length = i ∧ But p H H8' ∧ Pot H8' p c ∧ H8' L = some (.lst (ns.map V.int)) ∧ H8' G0 = some (.lst (ts.map V.str)) ∧ H8' F0 = some (.lst (rs.map V.ref)) ∧ Prs H8' rs ks ∧ ns.length ≤ ts.length ∧ ts.length ≤ 8 ∧ ns.length + ks.length ≤ 8 ∧ ts.Nodup ∧ (∀ y ∈ ts, y ∈ TAGS) ∧ (ks.map (·.1)).Nodup ∧ (∀ q ∈ ks, q.1 ∉ ts) ∧
          (0 ∈ ns ∨ ∃ q ∈ ks, q.2 = 0) ∧ (n ∈ ns ∨ ∃ q ∈ ks, q.2 = n) ∧ (∀ y ∈ ns, 0 ≤ y ∧ y ≤ 4) ∧ (∀ q ∈ ks, q.1 ∈ TAGS ∧ 0 ≤ q.2 ∧ q.2 ≤ 4) ∧ σ = [some (.ref p), some (.int most), some (.ref L), v3, some (.ref G0), some (.ref F0), v6], fun σ' H' h => h, ?_⟩
        -- tag = tags.pop(below(deck, len(tags)))
        refine ⟨_, rfl, .inl ⟨rfl, _, .inl (.inl hG9)⟩, _, rfl, _, rfl, G0, _, rfl, .inl (.inl (.inl hG9)), p, c, _, rfl, hP9, ?_, ?_, fun t HA t0 t1 hPA bA => ?_⟩
        · rw [List.length_map]
          omega
        · rw [List.length_map]
          omega
        rw [List.length_map] at t1
        obtain ⟨tn, rfl⟩ : ∃ tn : Nat, t = (tn : Int) := ⟨t.toNat, by omega⟩
        have htn : tn < ts.length := by omega
        have eT : ts[tn]? = some ts[tn] := List.getElem?_eq_getElem htn
        have bHA := bH9.trans bA
        have hGA := bA.1 _ _ hG9 (Ne.symm npG)
        have hLA := bA.1 _ _ hL9 (Ne.symm npL)
        have hFA := bA.1 _ _ hF9 (Ne.symm npF)
        refine ⟨G0, ts.map V.str, (tn : Int), tn, .str ts[tn], rfl, rfl, hGA, by omega, by omega, seq_nat (by rw [List.length_map]; exact htn), by rw [List.getElem?_map, eT]; rfl, ?_⟩
        rw [eraseIdx_map]
        have bHB : But p H (upd HA G0 (.lst ((ts.eraseIdx tn).map V.str))) := bHA.set nGH
        have hPB : Pot (upd HA G0 (.lst ((ts.eraseIdx tn).map V.str))) p c := hPA.upd npG ncG
        have hGB : (upd HA G0 (.lst ((ts.eraseIdx tn).map V.str))) G0 = some (.lst ((ts.eraseIdx tn).map V.str)) := upd_same
        have hLB : (upd HA G0 (.lst ((ts.eraseIdx tn).map V.str))) L = some (.lst (ns.map V.int)) := by rw [upd_ne nLG]; exact hLA
        have hFB : (upd HA G0 (.lst ((ts.eraseIdx tn).map V.str))) F0 = some (.lst (rs.map V.ref)) := by rw [upd_ne (Ne.symm nGF)]; exact hFA
        have prA : Prs HA rs ks := pr9.but bA hP9
        have prB : Prs (upd HA G0 (.lst ((ts.eraseIdx tn).map V.str))) rs ks := prA.grow hGA
        generalize upd HA G0 (.lst ((ts.eraseIdx tn).map V.str)) = HB at bHB hPB hGB hLB hFB prB ⊢
        -- found.append((tag, parts.pop(below(deck, len(parts)))))
        refine ⟨_, rfl, .inl ⟨rfl, _, .inl (.inl hFB)⟩, _, rfl, _, rfl, .inl ⟨rfl, _, .inl (.inl hLB)⟩, _, rfl, _, rfl, L, _, rfl, .inl (.inl (.inl hLB)), p, c, _, rfl, hPB, ?_, ?_, fun u HC u0 u1 hPC bC => ?_⟩
        · rw [List.length_map]
          omega
        · rw [List.length_map]
          omega
        rw [List.length_map] at u1
        obtain ⟨un, rfl⟩ : ∃ un : Nat, u = (un : Int) := ⟨u.toNat, by omega⟩
        have hun : un < ns.length := by omega
        have eU : ns[un]? = some ns[un] := List.getElem?_eq_getElem hun
        have bHC := bHB.trans bC
        have hGC := bC.1 _ _ hGB (Ne.symm npG)
        have hLC := bC.1 _ _ hLB (Ne.symm npL)
        have hFC := bC.1 _ _ hFB (Ne.symm npF)
        refine ⟨L, ns.map V.int, (un : Int), un, .int ns[un], rfl, rfl, hLC, by omega, by omega, seq_nat (by rw [List.length_map]; exact hun), by rw [List.getElem?_map, eU]; rfl, ?_⟩
        rw [eraseIdx_map]
        have bHD : But p H (upd HC L (.lst ((ns.eraseIdx un).map V.int))) := bHC.set nLH
        have hPD : Pot (upd HC L (.lst ((ns.eraseIdx un).map V.int))) p c := hPC.upd npL ncL
        have hLD : (upd HC L (.lst ((ns.eraseIdx un).map V.int))) L = some (.lst ((ns.eraseIdx un).map V.int)) := upd_same
        have hGD : (upd HC L (.lst ((ns.eraseIdx un).map V.int))) G0 = some (.lst ((ts.eraseIdx tn).map V.str)) := by rw [upd_ne (Ne.symm nLG)]; exact hGC
        have hFD : (upd HC L (.lst ((ns.eraseIdx un).map V.int))) F0 = some (.lst (rs.map V.ref)) := by rw [upd_ne (Ne.symm nLF)]; exact hFC
        have prC : Prs HC rs ks := prB.but bC hPB
        have prD : Prs (upd HC L (.lst ((ns.eraseIdx un).map V.int))) rs ks := prC.grow hLC
        generalize upd HC L (.lst ((ns.eraseIdx un).map V.int)) = HD at bHD hPD hGD hLD hFD prD ⊢
        refine ⟨by show 2 ≤ sizeLine; decide, fun r nr => ?_⟩
        have sr : Same HD (upd HD r (.tup [.str ts[tn], .int ns[un]])) := same_upd nr
        have hr : (upd HD r (.tup [.str ts[tn], .int ns[un]])) r = some (.tup [.str ts[tn], .int ns[un]]) := upd_same
        have bHE := bHD.same sr
        generalize upd HD r (.tup [.str ts[tn], .int ns[un]]) = HE at sr hr bHE ⊢
        have hFE := sr _ _ hFD
        have nrF : r ≠ F0 := fun z => by
          rw [z, hFE] at hr
          cases hr
        have lrs := pr.length
        refine ⟨F0, _, _, rfl, rfl, hFE, ?_, ?_⟩
        · rw [List.length_map, lrs]
          exact small1000 (by omega)
        obtain ⟨mT, ndT⟩ := nodup_erase eT ndt
        have splT := get_split eT
        have splN := get_split eU
        have leN : (ns.eraseIdx un).length = ns.length - 1 := List.length_eraseIdx_of_lt hun
        have leT : (ts.eraseIdx tn).length = ts.length - 1 := List.length_eraseIdx_of_lt htn
        have inT : ts[tn] ∈ ts := List.getElem_mem htn
        have inN : ns[un] ∈ ns := List.getElem_mem hun
        refine ⟨(ns.eraseIdx un).length, by omega, ns.eraseIdx un, ts.eraseIdx tn, ks ++ [(ts[tn], ns[un])], rs ++ [r], _, _, rfl, bHE.set nFH, (hPD.same sr).upd npF ncF, ?_, ?_, ?_, ?_, by omega, by omega, ?_, ndT, fun y hy => alt y ((splT y).mpr (.inr hy)), ?_, ?_, ?_, ?_, fun y hy => all y ((splN y).mpr (.inr hy)), ?_, rfl⟩
        · rw [upd_ne nLF]
          exact sr _ _ hLD
        · rw [upd_ne nGF]
          exact sr _ _ hGD
        · rw [upd_same, List.map_append]
          rfl
        · refine Prs.snoc ((prD.same sr).grow hFE) (.inl ?_)
          rw [upd_ne nrF]
          exact hr
        · rw [List.length_append, List.length_singleton]
          omega
        · rw [List.map_append]
          refine List.nodup_append.mpr ⟨ndk, by simp, ?_⟩
          intro a ha b hb z
          obtain ⟨y, hy, rfl⟩ := List.mem_map.mp ha
          simp only [List.map_cons, List.map_nil, List.mem_singleton] at hb
          have e : y.1 = ts[tn] := z.trans hb
          exact dis y hy (by rw [e]; exact inT)
        · intro y hy m
          rcases List.mem_append.mp hy with hy | hy
          · exact dis y hy ((splT _).mpr (.inr m))
          · rw [List.mem_singleton.mp hy] at m
            exact mT m
        · rcases z0 with z | ⟨y, hy, ey⟩
          · rcases (splN 0).mp z with e | e
            · exact .inr ⟨_, List.mem_append_right _ List.mem_cons_self, e.symm⟩
            · exact .inl e
          · exact .inr ⟨y, List.mem_append_left _ hy, ey⟩
        · rcases zn with z | ⟨y, hy, ey⟩
          · rcases (splN n).mp z with e | e
            · exact .inr ⟨_, List.mem_append_right _ List.mem_cons_self, e.symm⟩
            · exact .inl e
          · exact .inr ⟨y, List.mem_append_left _ hy, ey⟩
        · intro y hy
          rcases List.mem_append.mp hy with hy | hy
          · exact allk y hy
          · rw [List.mem_singleton.mp hy]
            exact ⟨alt _ inT, all _ inN⟩
end
end My

namespace My
open PySem PySem.Spec PyProof.Rows L2
/-! ### small data -/
theorem smL_drop {n : Nat} : ∀ {ds : List PyData}, smL ds = true → smL (ds.drop n) = true := by
  induction n with
  | zero => intro ds h; simpa using h
  | succ n ih =>
    intro ds h
    cases ds with
    | nil => simpa using h
    | cons d r =>
      simp only [smL, Bool.and_eq_true] at h
      exact ih h.2
theorem smL_at : ∀ {ds : List PyData} {i : Nat} {d : PyData}, smL ds = true → ds[i]? = some d → smB d = true
  | [], _, _, _, e => by cases e
  | d0 :: r, 0, _, h, e => by
    cases e
    simp only [smL, Bool.and_eq_true] at h
    exact h.1
  | d0 :: r, i + 1, _, h, e => by
    simp only [smL, Bool.and_eq_true] at h
    exact smL_at h.2 (i := i) e
theorem depth_at : ∀ {ds : List PyData} {i : Nat} {d : PyData} {n : Nat}, PyData.depthAll ds ≤ n → ds[i]? = some d → d.depth ≤ n
  | [], _, _, _, _, e => by cases e
  | d0 :: r, 0, _, n, h, e => by
    cases e
    simp only [PyData.depthAll] at h
    omega
  | d0 :: r, i + 1, _, n, h, e => by
    simp only [PyData.depthAll] at h
    exact depth_at (by omega) (i := i) e
theorem tags_ok : ∀ z ∈ TAGS, z.length ≤ 8 ∧ ∀ c ∈ z.cps.toList, c < 1114112 := by decide +kernel
theorem Prs.item {H : Hp} {rs : List Addr} {ks : List (Str × Int)} (h : Prs H rs ks) {i : Nat} {x : V} (e : (rs.map V.ref)[i]? = some x) : ∃ r p, x = .ref r ∧ ks[i]? = some p ∧ Rd H r (.tup [.str p.1, .int p.2]) := by
  rw [List.getElem?_map] at e
  cases hr : rs[i]? with
  | none => rw [hr] at e; cases e
  | some r =>
    rw [hr] at e
    cases e
    obtain ⟨p, hp, h2⟩ := h.get hr
    exact ⟨r, p, rfl, hp, h2⟩
theorem take_next {α β : Type} {f : α → β} {l : List α} {i : Nat} {a : α} (h : l[i]? = some a) : (l.take i).map f ++ [f a] = (l.take (i + 1)).map f := by
  rw [List.take_add_one, h, List.map_append]
  rfl
theorem empty_snoc (xs : List V) (v : V) : (xs ++ [v]).isEmpty = false := by cases xs <;> rfl
theorem in_bools (ks : List (Str × Int)) : ∀ ds : List PyData, (!inV (.bl false) (ds.map fun d => V.bl (treeB ks d))) = allB ks ds
  | [] => rfl
  | d :: r => by
    have ih := in_bools ks r
    unfold inV at ih ⊢
    rw [List.map_cons, List.any_cons, Bool.not_or, ih]
    simp only [allB]
    congr 1
    cases treeB ks d <;> rfl
theorem flat_bools (ks : List (Str × Int)) (ds : List PyData) : (ds.map fun d => V.bl (treeB ks d)).all flatV = true := by
  rw [List.all_eq_true]
  intro x hx
  obtain ⟨d, _, rfl⟩ := List.mem_map.mp hx
  rfl
theorem nodes_at : ∀ {ds : List PyData} {i : Nat} {d : PyData}, ds[i]? = some d → nodes d ≤ nodesL ds
  | [], _, _, e => by cases e
  | d0 :: r, 0, _, e => by
    cases e
    simp only [nodesL]
    omega
  | d0 :: r, i + 1, _, e => by
    have h := nodes_at (ds := r) (i := i) e
    simp only [nodesL]
    omega
structure spLawTree (n : Nat) (vs : List V) (H : Hp) (Q : VK) (E : XK) : Prop where
  ex : ∃ (a : Addr) (ks : List (Str × Int)) (rs : List Addr) (x : V) (d : PyData), vs = [.ref a, x] ∧ Rd H a (.tup (rs.map V.ref)) ∧ Prs H rs ks ∧ Rk ks ∧ Da H x d ∧ smB d = true ∧ nodes d ≤ 1000 ∧ d.depth ≤ n ∧ ∀ H', Same H H' → Q (.bl (treeB ks d)) H'
/-- what the calls within keep: nothing where there are none -/
def spBack : Nat → Sp
  | 0 => fun _ _ _ _ => False
  | n + 1 => fun vs H Q E => spLawTree n vs H Q E
abbrev s_law_is_tree : Stmt := topS 39
theorem sc_law_is_tree : FnScope ["kind", "thing", "pair", "part"] ["kind", "thing"] (defScope s_law_is_tree) := ⟨rfl, rfl, rfl, by decide +kernel, rfl, by decide +kernel, by decide +kernel⟩
section
variable {P : Program} {w : World} {K : PySem.W.Frag} {mg : Str → Option Value} {base : Heap}
theorem ok_never {k : Nat} {f : Addr} {fd : FuncData} {ps : List Str} : FnOk P w K mg base CX0 k f fd ps fun _ _ _ _ => False := ⟨fun _ _ _ _ h => h.elim, fun _ _ _ _ _ _ _ _ _ _ _ _ _ h => h.elim⟩
theorem step_law_tree {f : Addr} {fd : FuncData} {n : Nat} (F__law_is_tree : Fun K "_law_is_tree" "_law_is_tree" s_law_is_tree f fd) (T : TxtT mg) (b__law_is_tree : Binds K fd ["kind", "thing"] []) (g__law_is_tree : mg "_law_is_tree" = some (.ref f)) (G__law_is_tree : FnOk P w K mg base CX0 n f fd ["kind", "thing"] (spBack n)) : FnOk P w K mg base CX0 (n + 1) f fd ["kind", "thing"] (spLawTree n) := by
  refine F__law_is_tree.ok sc_law_is_tree (fun vs H Q E h => ?_) (fun cdv A outer s H vs Q E hr h => ?_)
  · obtain ⟨a, ks, rs, x, d, rfl, _⟩ := h
    rfl
  · obtain ⟨a, ks, rs, x, d, rfl, ea, pr, hK, hx, hsm, few, hdep, q⟩ := h
    refine ⟨_, (pss_cons (ps_if (PW.pt (pw_or (pt_not (pt_val (pe_callB call_isi (by rfl) T.n_isinstance (by decide +kernel) (pa_cons (pv 1) (pa_cons (pe_bltn (v := .ty "tuple") (by rfl) T.n_tuple (by decide +kernel) rfl) pa_nil))))) (pw_or (pt_cmpR op_eq (pe_callB call_len_seq (by rfl) T.n_len (by decide +kernel) (pa_cons (pv 1) pa_nil)) pe_int (nomark _)) (pw_or1 (pt_not (pt_val (pe_callB call_isi (by rfl) T.n_isinstance (by decide +kernel) (pa_cons (pe_ix ix_tup (pv 1) pe_int (fun _ _ => rfl)) (pa_cons (pe_bltn (v := .ty "str") (by rfl) T.n_str (by decide +kernel) rfl) pa_nil)))))))))
   (pss_one (ps_ret pe_bl))
   pss_nil)
  (pss_cons (ps_if (pt_cmpR (op_eqNil hr.units) (pe_lc (own := [("pair", 2)]) (g := gName 2) rfl sc_law_is_tree.nd (pi_tup (pv 0)) (blkOk_by (own := [("pair", 2)]) (N := ["kind", "thing", "pair", "part"]) (sc := defScope s_law_is_tree) (by decide +kernel)) (fun _ _ _ _ _ => (pg_name (i := 2) sc_law_is_tree.nd rfl (.inl rfl))) (fun _ _ _ _ _ => (pts_one (pt_cmpR (op_eqDK (K := K) rfl hr.units) (pv 2) (pe_tup (pa_cons (pe_ix (r := rIxT K) ix_tup (pv 1) pe_int (fun _ _ => rfl)) (pa_cons (pe_op op_sub (pe_callB (call_len_seqK (K := K) rfl) (by rfl) T.n_len (by decide +kernel) (pa_cons (pv 1) pa_nil)) pe_int) pa_nil))) (nomark _)))) (fun _ _ _ _ _ => (pv 2))) (pe_lst pa_nil) (nomark _))
   (pss_one (ps_ret pe_bl))
   pss_nil)
  (pss_one (ps_ret (pe_cmpR op_notIn_seq pe_bl (pe_lc (own := [("part", 3)]) (g := gName 3) rfl sc_law_is_tree.nd (pi_tup (pe_slice sl_X (pv 1) (po_some pe_int) po_none)) (blkOk_by (own := [("part", 3)]) (N := ["kind", "thing", "pair", "part"]) (sc := defScope s_law_is_tree) (by decide +kernel)) (fun _ _ _ _ _ => (pg_name (i := 3) sc_law_is_tree.nd rfl (.inl rfl))) (fun _ _ _ _ _ => pts_nil) (fun _ _ _ _ _ => (pe_call G__law_is_tree (hr.mono (by omega)) (by rfl) g__law_is_tree F__law_is_tree.kp b__law_is_tree .nil pass0 (pa_cons (pv 0) (pa_cons (pv 3) pa_nil))))) rfl))))), ?_⟩
    clear G__law_is_tree
    have lr := pr.length
    refine ⟨_, rfl, _, _, _, _, dT d, rfl, .ty "tuple", hx.ty, kit_ty (kit_tup d), _, rfl, ?_⟩
    cases hx with
    | @tup b xs ds e h =>
      have lx := h.length
      refine iteF ?_
      refine ⟨_, rfl, b, xs, rfl, .inr (.inl e), rfl, _, eq_len0 _, ?_⟩
      cases h with
      | nil =>
        refine iteT ?_
        exact q H (same_rfl H)
      | @cons v vs d0 ds0 hv0 ht =>
        have sm0 : smB d0 = true ∧ smL ds0 = true := by
          simp only [smB, smL, Bool.and_eq_true] at hsm
          exact hsm
        refine iteF ?_
        refine ⟨_, rfl, b, _, _, v, rfl, rfl, .inl e, atI_nat (j := 0) rfl, _, _, _, _, dS d0, rfl, .ty "str", hv0.ty, kit_ty (kit_str d0), _, rfl, ?_⟩
        cases hv0 with
        | str z =>
          refine iteF ?_
          obtain ⟨zl, zv⟩ := sm_str sm0.1
          have lds : vs.length = ds0.length := ht.length
          -- [pair for pair in kind if pair == (thing[0], len(thing) - 1)] == []
          refine ⟨_, rfl, a, rfl, ⟨_, .inl ea⟩, fun D nD => ?_⟩
          refine lc_it (walk_tup (xs := rs.map V.ref)) (fun i H2 => Same H H2 ∧ ∃ ys, H2 D = some (.lst ys) ∧ ys.length ≤ i ∧ ys.isEmpty = !decide ((z, (ds0.length : Int)) ∈ ks.take i)) ⟨same_upd nD, [], upd_same, Nat.zero_le _, rfl⟩ (fun i H2 _ h => .inl (rd_same ea h.1)) ?_ ?_
          · rintro i y H2 H3 hi ⟨s2, ys, hD, ly, hy⟩ ⟨rfl, ex⟩
            obtain ⟨r, pp, rfl, hk, hr2⟩ := pr.item ex
            obtain ⟨pT, p0, p4⟩ := hK.all pp (List.mem_of_getElem? hk)
            have eb2 := rd_same e s2
            refine ⟨rfl, ?_⟩
            refine ⟨_, rfl, _, rfl, b, _, _, .str z, rfl, rfl, .inl eb2, atI_nat (j := 0) rfl, _, rfl, b, _, rfl, .inr (.inl eb2), _, _, rfl, rfl, by show 2 ≤ sizeLine; decide, fun t nt => ?_⟩
            have st := same_upd (o := .tup [.str z, .int (((V.str z :: vs).length : Nat) - 1)]) nt
            have em : ((((V.str z :: vs).length : Nat) : Int) - 1) = (ds0.length : Int) := by
              rw [List.length_cons, lds]
              omega
            have hr3 := rd_same (rd_same hr2 s2) st
            refine ⟨.tuple [.str pp.1, .int pp.2], .tuple [.str z, .int (((V.str z :: vs).length : Nat) - 1)], .tup (.inl hr3) (.cons (.str _) (.cons (.int _) .nil)), .tup (.inl (.inl upd_same)) (.cons (.str _) (.cons (.int _) .nil)), sh_pair (tags_ok _ pT).2 _, sh_pair zv _, _, rfl, ?_⟩
            rw [eqv_pair, em]
            have hD3 := st _ _ hD
            have tk : ks.take (i + 1) = ks.take i ++ [pp] := by
              rw [List.take_add_one, hk]
              rfl
            by_cases hc : (pp.1, pp.2) = (z, (ds0.length : Int))
            · rw [decide_eq_true hc]
              refine iteT ?_
              refine ⟨_, rfl, ys, hD3, ?_, ?_, ys ++ [.ref r], upd_same, ?_, ?_⟩
              · have z8 := hK.few
                have zi : i < ks.length := (List.getElem?_eq_some_iff.mp hk).1
                exact small1000 (by omega)
              · exact same_at (s2.trans st) nD
              · rw [List.length_append, List.length_singleton]
                omega
              · rw [empty_snoc, tk]
                have m : (z, (ds0.length : Int)) ∈ ks.take i ++ [pp] := List.mem_append_right _ (by rw [← hc]; exact List.mem_cons_self)
                rw [decide_eq_true m]
                rfl
            · rw [decide_eq_false hc]
              refine iteF ?_
              refine ⟨s2.trans st, ys, hD3, by omega, ?_⟩
              rw [hy, tk]
              have m : ((z, (ds0.length : Int)) ∈ ks.take i ++ [pp]) ↔ (z, (ds0.length : Int)) ∈ ks.take i := by
                rw [List.mem_append, List.mem_singleton]
                constructor
                · rintro (h | h)
                  · exact h
                  · exact absurd h.symm hc
                · exact .inl
              rw [decide_eq_decide.mpr m]
          · rintro H2 ⟨s2, ys, hD, ly, hy⟩
            rw [List.length_map, lr, List.take_length] at hy
            refine ⟨by show 0 ≤ sizeLine; decide, fun o no => ?_⟩
            have so := same_upd (o := .lst []) no
            have s3 := s2.trans so
            refine ⟨D, o, ys, rfl, rfl, so _ _ hD, upd_same, _, rfl, ?_⟩
            rw [hy]
            generalize upd H2 o (.lst []) = H3 at so s3 ⊢
            have hTree : treeB ks (.tuple (.str z :: ds0)) = (decide ((z, (ds0.length : Int)) ∈ ks) && allB ks ds0) := by
              simp only [treeB, headB, tailB]
            by_cases hm : (z, (ds0.length : Int)) ∈ ks
            · rw [decide_eq_true hm]
              refine iteF ?_
              -- False not in [_law_is_tree(kind, part) for part in thing[1:]]
              refine ⟨_, rfl, _, rfl, b, _, rfl, rd_same e s3, fun r H4 s4 hr4 => ?_⟩
              rw [cut_tail (V.str z :: vs) (Nat.succ_pos _)] at hr4
              have hr4 : Rd H4 r (.tup vs) := hr4
              have s5 := s3.trans s4
              refine ⟨r, rfl, ⟨_, .inl hr4⟩, fun B nB => ?_⟩
              have nBH : H B = none := s5.free nB
              refine lc_it (walk_tup (xs := vs)) (fun i H5 => Same H4 H5 ∧ H5 B = some (.lst ((ds0.take i).map fun d => V.bl (treeB ks d)))) ⟨same_upd nB, upd_same⟩ (fun i H5 _ h => .inl (rd_same hr4 h.1)) ?_ ?_
              · rintro i y H5 H6 hi ⟨s6, hB⟩ ⟨rfl, ex⟩
                obtain ⟨d1, hd1, hy1⟩ := ht.get ex
                refine ⟨rfl, ?_⟩
                unfold tYes
                dsimp only
                rw [if_pos rfl]
                have s7 := s5.trans s6
                have dep1 : d1.depth + 1 ≤ n := by
                  simp only [PyData.depth, PyData.depthAll] at hdep
                  have z1 := depth_at (n := PyData.depthAll ds0) (Nat.le_refl _) hd1
                  omega
                have nod1 : nodes d1 ≤ 1000 := by
                  have z1 : nodes d1 ≤ nodesL ds0 := nodes_at hd1
                  simp only [nodes, nodesL] at few
                  omega
                obtain ⟨m, rfl⟩ : ∃ m, n = m + 1 := ⟨n - 1, by omega⟩
                refine ⟨_, rfl, _, rfl, ⟨a, ks, rs, y, d1, rfl, rd_same ea s7, pr.same s7, hK, hy1.same s7, smL_at sm0.2 hd1, nod1, by omega, fun H7 s8 => ?_⟩⟩
                refine ⟨_, s8 _ _ hB, ?_, ?_, ?_⟩
                · rw [List.length_map, List.length_take]
                  have z1 := len_nodes ds0
                  simp only [nodes, nodesL] at few
                  exact small1000 (by omega)
                · exact same_at (s6.trans s8) nB
                · rw [upd_same, take_next hd1]
              · rintro H5 ⟨s6, hB⟩
                rw [lds, List.take_length] at hB
                refine ⟨B, _, rfl, .inl (.inl (.inl hB)), rfl, flat_bools ks ds0, ?_⟩
                show Q (.bl (if true = true then !inV (.bl false) (ds0.map fun d => V.bl (treeB ks d)) else _)) H5
                rw [if_pos rfl, in_bools]
                have e2 : treeB ks (.tuple (.str z :: ds0)) = allB ks ds0 := by rw [hTree, decide_eq_true hm, Bool.true_and]
                rw [← e2]
                exact q _ (s5.trans s6)
            · rw [decide_eq_false hm]
              refine iteT ?_
              have e2 : treeB ks (.tuple (.str z :: ds0)) = false := by rw [hTree, decide_eq_false hm, Bool.false_and]
              rw [e2] at q
              exact q _ s3
        | _ =>
          refine iteT ?_
          exact q H (same_rfl H)
    | _ =>
      refine iteT ?_
      exact q H (same_rfl H)
theorem ok_law_tree {f : Addr} {fd : FuncData} (F : Fun K "_law_is_tree" "_law_is_tree" s_law_is_tree f fd) (T : TxtT mg) (b : Binds K fd ["kind", "thing"] []) (g : mg "_law_is_tree" = some (.ref f)) : ∀ n, FnOk P w K mg base CX0 (n + 1) f fd ["kind", "thing"] (spLawTree n)
  | 0 => step_law_tree F T b g ok_never
  | n + 1 => step_law_tree F T b g (ok_law_tree F T b g n)
end
end My

namespace My
open PySem PySem.Spec PyProof.Rows L2
/-! ### the heap without the deck -/
def Out (p : Addr) (H : Hp) : Hp := fun a => if a = p then none else H a
theorem out_ne {p a : Addr} {H : Hp} (n : a ≠ p) : Out p H a = H a := if_neg n
theorem out_some {p a : Addr} {H : Hp} {o : HO} (e : Out p H a = some o) : a ≠ p ∧ H a = some o := by
  unfold Out at e
  by_cases z : a = p
  · rw [if_pos z] at e
    cases e
  · rw [if_neg z] at e
    exact ⟨z, e⟩
theorem out_but {p : Addr} {H H' : Hp} (b : But p H H') : Same (Out p H) (Out p H') := fun a o e => by
  obtain ⟨n, e⟩ := out_some e
  rw [out_ne n]
  exact b.1 a o e n
theorem out_same {p : Addr} {H H' : Hp} (s : Same H H') : Same (Out p H) (Out p H') := fun a o e => by
  obtain ⟨n, e⟩ := out_some e
  rw [out_ne n]
  exact s a o e
theorem out_sub {p : Addr} {H : Hp} : Same (Out p H) H := fun a o e => (out_some e).2
theorem rd_out {p a : Addr} {H : Hp} {L xs : List V} (hp : H p = some (.lst L)) (e : Rd H a (.tup xs)) : Rd (Out p H) a (.tup xs) := by
  rcases e with e | ⟨o, e⟩
  · refine .inl ?_
    rw [out_ne fun z => ?_]
    · exact e
    · rw [z, hp] at e
      cases e
  · refine .inr ⟨o, ?_⟩
    rw [out_ne fun z => ?_]
    · exact e
    · rw [z, hp] at e
      cases e
theorem Rd.but {p c a : Addr} {H H' : Hp} {xs : List V} (b : But p H H') (hP : Pot H p c) (e : Rd H a (.tup xs)) : Rd H' a (.tup xs) := by
  obtain ⟨L, hp⟩ := hP.p
  exact rd_same (rd_same (rd_out hp e) (out_but b)) out_sub
/-- the heap without some lists -/
def Outs (L : List Addr) (H : Hp) : Hp := fun a => if a ∈ L then none else H a
theorem outs_ne {L : List Addr} {a : Addr} {H : Hp} (n : a ∉ L) : Outs L H a = H a := if_neg n
theorem outs_some {L : List Addr} {a : Addr} {H : Hp} {o : HO} (e : Outs L H a = some o) : a ∉ L ∧ H a = some o := by
  unfold Outs at e
  by_cases z : a ∈ L
  · rw [if_pos z] at e
    cases e
  · rw [if_neg z] at e
    exact ⟨z, e⟩
theorem outs_but {L : List Addr} {p : Addr} (m : p ∈ L) {H H' : Hp} (b : But p H H') : Same (Outs L H) (Outs L H') := fun a o e => by
  obtain ⟨n, e⟩ := outs_some e
  rw [outs_ne n]
  exact b.1 a o e fun z => n (z ▸ m)
theorem outs_same {L : List Addr} {H H' : Hp} (s : Same H H') : Same (Outs L H) (Outs L H') := fun a o e => by
  obtain ⟨n, e⟩ := outs_some e
  rw [outs_ne n]
  exact s a o e
theorem outs_sub {L : List Addr} {H : Hp} : Same (Outs L H) H := fun a o e => (outs_some e).2
theorem outs_upd {L : List Addr} {H : Hp} {l : Addr} {o : HO} (m : l ∈ L) : Outs L (upd H l o) = Outs L H := by
  funext b
  unfold Outs
  by_cases z : b ∈ L
  · rw [if_pos z, if_pos z]
  · rw [if_neg z, if_neg z, upd_ne fun e => z (by rw [e]; exact m)]
/-- lists stand there -/
def Dk (L : List Addr) (H : Hp) : Prop := ∀ b ∈ L, ∃ xs, H b = some (.lst xs)
theorem Dk.same {L : List Addr} {H H' : Hp} (d : Dk L H) (s : Same H H') : Dk L H' := fun b hb => (d b hb).imp fun xs e => s _ _ e
theorem Dk.but {L : List Addr} {p c : Addr} {H H' : Hp} (d : Dk L H) (b : But p H H') (hP : Pot H' p c) : Dk L H' := fun a ha => by
  by_cases z : a = p
  · rw [z]
    exact hP.p
  · obtain ⟨xs, e⟩ := d a ha
    exact ⟨xs, b.1 _ _ e z⟩
theorem rd_outs {L : List Addr} {a : Addr} {H : Hp} {xs : List V} (d : Dk L H) (e : Rd H a (.tup xs)) : Rd (Outs L H) a (.tup xs) := by
  rcases e with e | ⟨o, e⟩
  · refine .inl ?_
    rw [outs_ne fun z => ?_]
    · exact e
    · obtain ⟨ys, g⟩ := d a z
      rw [g] at e
      cases e
  · refine .inr ⟨o, ?_⟩
    rw [outs_ne fun z => ?_]
    · exact e
    · obtain ⟨ys, g⟩ := d a z
      rw [g] at e
      cases e
/-- what keeps the tuples keeps the trees -/
def TK (H H' : Hp) : Prop := ∀ a xs, Rd H a (.tup xs) → Rd H' a (.tup xs)
theorem tk_same {H H' : Hp} (s : Same H H') : TK H H' := fun _ _ e => rd_same e s
theorem tk_but {p c : Addr} {H H' : Hp} (b : But p H H') (hP : Pot H p c) : TK H H' := fun _ _ e => Rd.but b hP e
theorem tk_upd {H : Hp} {B : Addr} {xs : List V} {o : HO} (h : H B = some (.lst xs)) : TK H (upd H B o) := fun a ys e => by
  rcases e with e | ⟨ob, e⟩
  · refine .inl ?_
    rw [upd_ne fun z => ?_]
    · exact e
    · rw [z, h] at e
      cases e
  · refine .inr ⟨ob, ?_⟩
    rw [upd_ne fun z => ?_]
    · exact e
    · rw [z, h] at e
      cases e
theorem TK.trans {H H1 H2 : Hp} (a : TK H H1) (b : TK H1 H2) : TK H H2 := fun c xs e => b c xs (a c xs e)
mutual
theorem Da.keep {ks : List (Str × Int)} {H H' : Hp} (k : TK H H') : ∀ (d : PyData) (v : V), treeB ks d = true → Da H v d → Da H' v d
  | .tuple ds, v, ht, h => by
    simp only [treeB, Bool.and_eq_true] at ht
    cases h with
    | tup e hx => exact .tup (k _ _ e) (DaAll.keepT k ds _ ht.1 ht.2 hx)
  | .none, _, ht, _ | .bool _, _, ht, _ | .int _, _, ht, _ | .str _, _, ht, _ | .list _, _, ht, _ | .dict _, _, ht, _ => by simp [treeB] at ht
theorem DaAll.keepT {ks : List (Str × Int)} {H H' : Hp} (k : TK H H') : ∀ (ds : List PyData) (vs : List V), headB ks ds = true → tailB ks ds = true → DaAll H vs ds → DaAll H' vs ds
  | [], _, hh, _, _ => by simp [headB] at hh
  | d0 :: r, _, hh, ht, h => by
    simp only [tailB] at ht
    cases h with
    | cons h0 hr =>
      have r' := DaAll.keepL k r _ ht hr
      cases d0 with
      | str z =>
        cases h0
        exact .cons (.str z) r'
      | _ => simp [headB] at hh
theorem DaAll.keepL {ks : List (Str × Int)} {H H' : Hp} (k : TK H H') : ∀ (ds : List PyData) (vs : List V), allB ks ds = true → DaAll H vs ds → DaAll H' vs ds
  | [], _, _, h => by
    cases h
    exact .nil
  | d0 :: r, _, ht, h => by
    simp only [allB, Bool.and_eq_true] at ht
    cases h with
    | cons h0 hr => exact .cons (Da.keep k d0 _ ht.1 h0) (DaAll.keepL k r _ ht.2 hr)
end
theorem depthAll_app : ∀ a b : List PyData, PyData.depthAll (a ++ b) = max (PyData.depthAll a) (PyData.depthAll b)
  | [], b => by simp [PyData.depthAll]
  | d :: r, b => by
    rw [List.cons_append]
    simp only [PyData.depthAll]
    rw [depthAll_app r b]
    omega
def NB : Nat → Nat
  | 0 => 2
  | n + 1 => 2 + 4 * NB n
structure spSomeTree (n : Nat) (vs : List V) (H : Hp) (Q : VK) (E : XK) : Prop where
  ex : ∃ (p c a : Addr) (ks : List (Str × Int)) (rs : List Addr) (deep : Int), vs = [.ref p, .ref a, .int deep] ∧ deep ≤ n ∧ Pot H p c ∧ Rd H a (.tup (rs.map V.ref)) ∧ Prs H rs ks ∧ Rk ks ∧
    ∀ v d H', But p H H' → Pot H' p c → Da H' v d → treeB ks d = true → smB d = true → nodes d ≤ NB n → d.depth ≤ n + 1 → Q v H'
def spBackS : Nat → Sp
  | 0 => fun _ _ _ _ => False
  | n + 1 => fun vs H Q E => spSomeTree n vs H Q E
theorem eq_int (u i : Int) : V.bl (decide (V.int u = V.int i)) = V.bl (decide (u = i)) := by
  congr 1
  refine decide_eq_decide.mpr ⟨fun h => ?_, fun h => by rw [h]⟩
  cases h
  rfl
abbrev s_law_some_tree : Stmt := topS 38
theorem sc_law_some_tree : FnScope ["deck", "kind", "deep", "some", "tag", "parts", "pair", "part"] ["deck", "kind", "deep"] (defScope s_law_some_tree) := ⟨rfl, rfl, rfl, by decide +kernel, rfl, by decide +kernel, by decide +kernel⟩
section
variable {P : Program} {w : World} {K : PySem.W.Frag} {mg : Str → Option Value} {base : Heap}
theorem step_some_tree {f fp : Addr} {fd fdp : FuncData} {n : Nat} (F__law_some_tree : Fun K "_law_some_tree" "_law_some_tree" s_law_some_tree f fd) (T : TxtM mg) (F__law_pick : Fun K "_law_pick" "_law_pick" s_law_pick fp fdp) (b__law_pick : Binds K fdp ["deck", "some"] []) (g__law_pick : mg "_law_pick" = some (.ref fp)) (G__law_pick : FnOk P w K mg base CX0 3 fp fdp ["deck", "some"] (spPick K))
    (b__law_some_tree : Binds K fd ["deck", "kind", "deep"] []) (g__law_some_tree : mg "_law_some_tree" = some (.ref f)) (G__law_some_tree : FnOk P w K mg base CX0 (n + 3) f fd ["deck", "kind", "deep"] (spBackS n)) : FnOk P w K mg base CX0 (n + 4) f fd ["deck", "kind", "deep"] (spSomeTree n) := by
  refine F__law_some_tree.ok sc_law_some_tree (fun vs H Q E h => ?_) (fun cdv A outer s H vs Q E hr h => ?_)
  · obtain ⟨p, c, a, ks, rs, deep, rfl, _⟩ := h
    rfl
  · obtain ⟨p, c, a, ks, rs, deep, rfl, hdeep, hP, ea, pr, hK, q⟩ := h
    refine ⟨_, (pss_cons (ps_setLc (i := 3) (own := [("pair", 6)]) (g := gName 6) rfl sc_law_some_tree.nd rfl rfl (sw_true rfl rfl rfl (by decide +kernel)) (pi_tup (pv 1)) (blkOk_by (own := [("pair", 6)]) (N := ["deck", "kind", "deep", "some", "tag", "parts", "pair", "part"]) (sc := defScope s_law_some_tree) (by decide +kernel)) (fun _ _ _ _ _ => (pg_name (i := 6) sc_law_some_tree.nd rfl (.inl rfl))) (fun _ _ _ _ _ => (pts_one (PW.pt (pw_or (pt_cmpR op_eq (pe_ix (r := rIxT K) ix_tup (pv 6) pe_int (fun _ _ => rfl)) pe_int (nomark _)) (pw_or1 (pt_cmpR op_gt (pv 2) pe_int (nomark _))))))) (fun _ _ _ _ _ => (pv 6)))
  (pss_cons (ps_asg (pe_call G__law_pick (hr.mono (by omega)) (by rfl) g__law_pick F__law_pick.kp b__law_pick .nil pass0 (pa_cons (pv 0) (pa_cons (pv 3) pa_nil))) (pg_tup rfl (pgs_cons (pg_name (i := 4) sc_law_some_tree.nd rfl (.inl rfl)) (pgs_cons (pg_name (i := 5) sc_law_some_tree.nd rfl (.inl rfl)) pgs_nil))))
  (pss_one (ps_ret (pe_op op_catX (pe_tup (pa_cons (pv 4) pa_nil)) (pe_callTy call_tuple_of (by rfl) T.n_tuple (by decide +kernel) (pa_cons (pe_lc (own := [("part", 7)]) (g := gName 7) rfl sc_law_some_tree.nd (pi_range1 (by rfl) T.n_range (pa_cons (pv 5) pa_nil)) (blkOk_by (own := [("part", 7)]) (N := ["deck", "kind", "deep", "some", "tag", "parts", "pair", "part"]) (sc := defScope s_law_some_tree) (by decide +kernel)) (fun _ _ _ _ _ => (pg_name (i := 7) sc_law_some_tree.nd rfl (.inl rfl))) (fun _ _ _ _ _ => pts_nil) (fun _ _ _ _ _ => (pe_call G__law_some_tree (hr.mono (by omega)) (by rfl) g__law_some_tree F__law_some_tree.kp b__law_some_tree .nil pass0 (pa_cons (pv 0) (pa_cons (pv 1) (pa_cons (pe_op op_sub (pv 2) pe_int) pa_nil)))))) pa_nil))))))), ?_⟩
    clear G__law_some_tree G__law_pick
    have lr := pr.length
    -- some = [pair for pair in kind if pair[1] == 0 or deep > 0]
    refine ⟨_, rfl, a, rfl, ⟨_, .inl ea⟩, fun D nD => ?_⟩
    obtain ⟨npD, ncD⟩ := hP.ne nD
    refine lc_it (walk_tup (xs := rs.map V.ref)) (fun i H2 => Same H H2 ∧ ∃ ys, H2 D = some (.lst ys) ∧ ys.length ≤ i ∧ (∀ v ∈ ys, ∃ (r : Addr) (q : Str × Int), v = .ref r ∧ Rd H r (.tup [.str q.1, .int q.2]) ∧ q ∈ ks ∧ (q.2 = 0 ∨ 0 < deep)) ∧ ((∃ q ∈ ks.take i, q.2 = 0) → ys ≠ [])) ⟨same_upd nD, [], upd_same, Nat.zero_le _, fun _ z => (nomatch z), ?_⟩ (fun i H2 _ h => .inl (rd_same ea h.1)) ?_ ?_
    · rintro ⟨q0, hq0, _⟩
      simp at hq0
    · rintro i y H2 H3 hi ⟨s2, ys, hD, ly, all, ne0⟩ ⟨rfl, ex⟩
      obtain ⟨r, pp, rfl, hk, hr2⟩ := pr.item ex
      have hr3 := rd_same hr2 s2
      have zi : i < ks.length := (List.getElem?_eq_some_iff.mp hk).1
      have z8 := hK.few
      have tk : ks.take (i + 1) = ks.take i ++ [pp] := by
        rw [List.take_add_one, hk]
        rfl
      have yes : (pp.2 = 0 ∨ 0 < deep) → ∃ acc, H3 D = some (.lst acc) ∧ acc.length < sizeLine ∧ Same H (upd H3 D (.lst (acc ++ [.ref r]))) ∧ ∃ ys, upd H3 D (.lst (acc ++ [.ref r])) D = some (.lst ys) ∧ ys.length ≤ i + 1 ∧ (∀ v ∈ ys, ∃ (r : Addr) (q : Str × Int), v = .ref r ∧ Rd H r (.tup [.str q.1, .int q.2]) ∧ q ∈ ks ∧ (q.2 = 0 ∨ 0 < deep)) ∧ ((∃ q ∈ ks.take (i + 1), q.2 = 0) → ys ≠ []) := by
        intro hc
        refine ⟨ys, hD, small1000 (by omega), same_at s2 nD, ys ++ [.ref r], upd_same, ?_, ?_, ?_⟩
        · rw [List.length_append, List.length_singleton]
          omega
        · intro v hv
          rcases List.mem_append.mp hv with hv | hv
          · exact all v hv
          · rw [List.mem_singleton.mp hv]
            exact ⟨r, pp, rfl, hr2, List.mem_of_getElem? hk, hc⟩
        · intro _ z
          exact absurd z (by simp)
      refine ⟨rfl, ?_⟩
      refine ⟨_, rfl, r, _, _, .int pp.2, rfl, rfl, .inl hr3, atI_nat (j := 1) rfl, rfl, _, eq_int _ _, ?_⟩
      by_cases h0 : pp.2 = 0
      · rw [decide_eq_true h0]
        refine iteT ?_
        obtain ⟨acc, h1, h2, h3⟩ := yes (.inl h0)
        exact ⟨_, rfl, acc, h1, h2, h3⟩
      · rw [decide_eq_false h0]
        refine iteF ?_
        refine ⟨_, rfl, _, _, rfl, rfl, _, rfl, ?_⟩
        by_cases h1 : 0 < deep
        · have e1 : decide (deep > 0) = true := decide_eq_true h1
          rw [e1]
          refine iteT ?_
          obtain ⟨acc, g1, g2, g3⟩ := yes (.inr h1)
          exact ⟨_, rfl, acc, g1, g2, g3⟩
        · have e1 : decide (deep > 0) = false := decide_eq_false h1
          rw [e1]
          refine iteF ?_
          refine ⟨s2, ys, hD, by omega, all, ?_⟩
          rw [tk]
          rintro ⟨q0, hq0, e0⟩
          rcases List.mem_append.mp hq0 with hq0 | hq0
          · exact ne0 ⟨q0, hq0, e0⟩
          · rw [List.mem_singleton.mp hq0] at e0
            exact absurd e0 h0
    · rintro H2 ⟨s2, ys, hD, ly, all, ne0⟩
      rw [List.length_map, lr, List.take_length] at ne0
      rw [List.length_map, lr] at ly
      have nys : ys ≠ [] := ne0 hK.leaf
      have z8 := hK.few
      have hP2 := hP.same s2
      -- tag, parts = pick(deck, some)
      refine ⟨_, rfl, _, rfl, p, c, D, ys, rfl, hP2, .inl (.inl hD), nys, by omega, fun H' hb => .inl (.inl (hb.1 _ _ hD (Ne.symm npD))), fun v H3 hv hP3 b3 => ?_⟩
      obtain ⟨r, pp, rfl, hr, hmem, hpp⟩ := all v hv
      have hr3 : Rd H3 r (.tup [.str pp.1, .int pp.2]) := Rd.but b3 hP2 (rd_same hr s2)
      obtain ⟨pT, p0, p4⟩ := hK.all pp hmem
      refine ⟨r, _, rfl, .inl hr3, rfl, _, _, rfl, _, _, rfl, rfl, ?_⟩
      -- (tag,) + tuple([.. for part in range(parts)])
      refine ⟨_, rfl, by show 1 ≤ sizeLine; decide, fun t1 nt1 => ?_⟩
      have st : Same H3 (upd H3 t1 (.tup [.str pp.1])) := same_upd nt1
      have ht1 : (upd H3 t1 (.tup [.str pp.1])) t1 = some (.tup [.str pp.1]) := upd_same
      generalize upd H3 t1 (.tup [.str pp.1]) = H4 at st ht1 ⊢
      have bH3 : But p H H3 := (hP.but1 s2).trans b3
      have bH4 := bH3.same st
      have hP4 := hP3.same st
      refine ⟨_, rfl, pp.2, rfl, by omega, by omega, fun B nB => ?_⟩
      obtain ⟨npB, ncB⟩ := hP4.ne nB
      have nBH : H B = none := bH4.free nB
      refine lc_range (n := pp.2.toNat) (fun j H5 => But p H4 H5 ∧ Pot H5 p c ∧ ∃ (vs : List V) (ds : List PyData), H5 B = some (.lst vs) ∧ DaAll H5 vs ds ∧ ds.length = j ∧ allB ks ds = true ∧ smL ds = true ∧ nodesL ds ≤ j * NB (n - 1) ∧ PyData.depthAll ds ≤ n) ⟨hP4.but1 (same_upd nB), hP4.same (same_upd nB), [], [], upd_same, .nil, rfl, rfl, rfl, by simp [nodesL], by simp [PyData.depthAll]⟩ ?_ ?_
      · rintro j H5 hj ⟨b5, hP5, vs, ds, hB5, hda, lds, hall, hsm, hno, hdp⟩
        refine ⟨rfl, ?_⟩
        unfold tYes
        dsimp only
        rw [if_pos rfl]
        refine ⟨_, rfl, _, rfl, _, rfl, _, _, rfl, rfl, ?_⟩
        cases n with
        | zero =>
          have z1 : pp.2 = 0 := by
            rcases hpp with z | z
            · exact z
            · omega
          rw [z1] at hj
          exact absurd hj (Nat.not_lt_zero _)
        | succ m =>
          have tk5 : TK H H5 := (tk_same s2).trans ((tk_but b3 hP2).trans ((tk_same st).trans (tk_but b5 hP4)))
          refine ⟨p, c, a, ks, rs, deep - 1, rfl, by omega, hP5, tk5 _ _ ea, ?_, hK, fun v d H6 b6 hP6 hv hT hS hN hD => ?_⟩
          · clear hda
            have go : ∀ {rs : List Addr} {ks : List (Str × Int)}, Prs H rs ks → Prs H5 rs ks := by
              intro rs ks h
              induction h with
              | nil => exact .nil
              | cons e _ ih => exact .cons (tk5 _ _ e) ih
            exact go pr
          have hB6 := b6.1 _ _ hB5 (Ne.symm npB)
          have lvs := hda.length
          have tk6 := tk_but b6 hP5
          have tk7 : TK H6 (upd H6 B (.lst (vs ++ [v]))) := tk_upd hB6
          refine ⟨vs, hB6, ?_, (b5.trans b6).set nB, hP6.upd npB ncB, vs ++ [v], ds ++ [d], upd_same, ?_, ?_, ?_, ?_, ?_, ?_⟩
          · exact small1000 (by omega)
          · exact (DaAll.keepL (tk6.trans tk7) ds vs hall hda).app (.cons (Da.keep tk7 d v hT hv) .nil)
          · rw [List.length_append, lds]
            rfl
          · rw [allB_app, hall]
            simp [allB, hT]
          · rw [smL_app, hsm]
            simp [smL, hS]
          · rw [nodesL_app]
            simp only [nodesL]
            rw [Nat.succ_mul]
            show _ ≤ j * NB m + NB m
            have h1 : nodesL ds ≤ j * NB m := hno
            omega
          · rw [depthAll_app]
            simp only [PyData.depthAll]
            omega
      · rintro H5 ⟨b5, hP5, vs, ds, hB5, hda, lds, hall, hsm, hno, hdp⟩
        have lvs := hda.length
        refine ⟨B, vs, rfl, .inl ⟨.inl (.inl hB5), fun u nu => ?_⟩⟩
        have su : Same H5 (upd H5 u (.tup vs)) := same_upd nu
        have hu : (upd H5 u (.tup vs)) u = some (.tup vs) := upd_same
        generalize upd H5 u (.tup vs) = H6 at su hu ⊢
        have ht6 := rd_same (Rd.but b5 hP4 (.inl ht1)) su
        refine ⟨t1, u, [.str pp.1], vs, rfl, rfl, ht6, .inl hu, ?_, fun x H7 s7 hx => ?_⟩
        · show 1 + vs.length ≤ sizeLine
          exact fits_few (by omega)
        · have hT : treeB ks (.tuple (.str pp.1 :: ds)) = true := by
            simp only [treeB, headB, tailB, hall, Bool.and_true]
            refine decide_eq_true ?_
            have e : ((ds.length : Nat) : Int) = pp.2 := by omega
            rw [e]
            exact hmem
          refine q _ (.tuple (.str pp.1 :: ds)) H7 (((bH4.trans b5).same su).same s7) ((hP5.same su).same s7) (.tup hx (.cons (.str _) ((hda.same su).same s7))) hT ?_ ?_ ?_
          · simp only [smB, smL, hsm, Bool.and_true]
            obtain ⟨g1, g2⟩ := tags_ok _ pT
            rw [decide_eq_true (by omega), Bool.true_and, List.all_eq_true]
            exact fun c hc => decide_eq_true (g2 c hc)
          · simp only [nodes, nodesL]
            cases n with
            | zero =>
              have z1 : pp.2 = 0 := by
                rcases hpp with z | z
                · exact z
                · omega
              rw [z1] at hno
              show 1 + (1 + nodesL ds) ≤ 2
              simp at hno
              omega
            | succ m =>
              show _ ≤ 2 + 4 * NB m
              have h1 : nodesL ds ≤ pp.2.toNat * NB m := hno
              have h2 : pp.2.toNat * NB m ≤ 4 * NB m := Nat.mul_le_mul_right _ (by omega)
              omega
          · simp only [PyData.depth, PyData.depthAll]
            omega
theorem ok_some_tree {f fp : Addr} {fd fdp : FuncData} (F : Fun K "_law_some_tree" "_law_some_tree" s_law_some_tree f fd) (T : TxtM mg) (Fp : Fun K "_law_pick" "_law_pick" s_law_pick fp fdp) (bp : Binds K fdp ["deck", "some"] []) (gp : mg "_law_pick" = some (.ref fp)) (Gp : FnOk P w K mg base CX0 3 fp fdp ["deck", "some"] (spPick K))
    (b : Binds K fd ["deck", "kind", "deep"] []) (g : mg "_law_some_tree" = some (.ref f)) : ∀ n, FnOk P w K mg base CX0 (n + 4) f fd ["deck", "kind", "deep"] (spSomeTree n)
  | 0 => step_some_tree F T Fp bp gp Gp b g ok_never
  | n + 1 => step_some_tree F T Fp bp gp Gp b g (ok_some_tree F T Fp bp gp Gp b g n)
end
end My

namespace My
open PySem PySem.Spec PyProof.Rows L2
abbrev s_is_integer : Stmt := topS 6
theorem sc_is_integer : FnScope ["thing"] ["thing"] (defScope s_is_integer) := ⟨rfl, rfl, rfl, by decide +kernel, rfl, by decide +kernel, by decide +kernel⟩
abbrev s_trimmed : Stmt := topS 18
theorem sc_trimmed : FnScope ["factors", "many"] ["factors"] (defScope s_trimmed) := ⟨rfl, rfl, rfl, by decide +kernel, rfl, by decide +kernel, by decide +kernel⟩
abbrev s_are_factors : Stmt := topS 27
theorem sc_are_factors : FnScope ["thing", "factor"] ["thing"] (defScope s_are_factors) := ⟨rfl, rfl, rfl, by decide +kernel, rfl, by decide +kernel, by decide +kernel⟩
/-! ### factors -/
structure TxtF (mg : Str → Option Value) : Prop where
  n_isinstance : mg "isinstance" = none
  n_int : mg "int" = none
  n_bool : mg "bool" = none
  n_len : mg "len" = none
  n_list : mg "list" = none
  n_tuple : mg "tuple" = none
  n_all : mg "all" = none
/-- an integer from 0 on -/
def facD : PyData → Bool
  | .int i => decide (0 ≤ i)
  | _ => false
def itemsD : PyData → List PyData
  | .list ds => ds
  | .tuple ds => ds
  | _ => []
def okF (d : PyData) : Bool := (dL d || dT d) && (itemsD d).all facD
/-- how many of the first m are left without the zeros at the end -/
def lastN (ns : List Int) : Nat → Nat
  | 0 => 0
  | m + 1 => if ns[m]? = some 0 then lastN ns m else m + 1
def trimN (ns : List Int) : List Int := ns.take (lastN ns ns.length)
theorem lastN_le (ns : List Int) : ∀ m, lastN ns m ≤ m
  | 0 => Nat.le_refl _
  | m + 1 => by
    unfold lastN
    split
    · exact Nat.le_succ_of_le (lastN_le ns m)
    · exact Nat.le_refl _
theorem trimN_len (ns : List Int) : (trimN ns).length ≤ ns.length := by
  unfold trimN
  rw [List.length_take]
  omega
theorem last_stay {ns : List Int} {i : Nat} (h : ns[i]? ≠ some 0) : lastN ns (i + 1) = i + 1 := by
  rw [lastN, if_neg h]
theorem last_go {ns : List Int} {i : Nat} (h : ns[i]? = some 0) : lastN ns (i + 1) = lastN ns i := by
  rw [lastN, if_pos h]
theorem cut_take (ns : List Int) (m : Nat) : cutV (ns.map V.int) none (some (m : Int)) = (ns.take m).map V.int := by
  rw [cut_map, HT.sIx_none, show HT.sIx ns.length ns.length (some (m : Int)) = min m ns.length from HT.sIx_nat ns.length ns.length m, List.drop_zero, Nat.sub_zero]
  congr 1
  by_cases h : m ≤ ns.length
  · rw [Nat.min_eq_left h]
  · rw [Nat.min_eq_right (by omega), List.take_of_length_le (Nat.le_refl _), List.take_of_length_le (by omega)]
theorem eqI (a b : Int) : V.bl (decide (V.int a = V.int b)) = V.bl (decide (a = b)) := by
  congr 1
  refine decide_eq_decide.mpr ⟨fun h => ?_, fun h => by rw [h]⟩
  cases h
  rfl
theorem kit_seq {K : PySem.W.Frag} (d : PyData) : PySem.W.kitAny K (.type (tyDa d)) [.type "list", .type "tuple"] = some (dL d || dT d) := by
  refine kitAny_cons (b := dL d) (kit_ty (kit_lst d)) (fun h => ?_) (fun h => by rw [h]; rfl)
  refine kitAny_cons (b := dT d) (kit_ty (kit_tup d)) (fun h2 => by rw [h, h2]; exact kitAny_nil) (fun h2 => by rw [h2, Bool.or_true])
structure spIsInt (vs : List V) (H : Hp) (Q : VK) (E : XK) : Prop where
  ex : ∃ x d, vs = [x] ∧ Da H x d ∧ Q (.bl (dI d && !dB d)) H
structure spFactors (K : PySem.W.Frag) (vs : List V) (H : Hp) (Q : VK) (E : XK) : Prop where
  ex : ∃ x, vs = [x] ∧ ((∃ d, Da H x d ∧ (itemsD d).length ≤ 1000 ∧ ∀ H', Same H H' → Q (.bl (okF d)) H') ∨ (∃ ty, TyX K H x (.type ty) ∧ (∀ H', Same H H' → TyX K H' x (.type ty)) ∧ PySem.W.kitAny K (.type ty) [.type "list", .type "tuple"] = some false ∧ ∀ H', Same H H' → Q (.bl false) H'))
/-- a list or a tuple of ints at a -/
def IntsAt (H : Hp) (a : Addr) (ns : List Int) : Prop := H a = some (.lst (ns.map V.int)) ∨ Rd H a (.tup (ns.map V.int))
theorem IntsAt.same {H H' : Hp} {a : Addr} {ns : List Int} (h : IntsAt H a ns) (s : Same H H') : IntsAt H' a ns := h.elim (fun e => .inl (s _ _ e)) fun e => .inr (rd_same e s)
theorem IntsAt.sq {K : PySem.W.Frag} {H : Hp} {a : Addr} {ns : List Int} (h : IntsAt H a ns) : SqL K H a (ns.map V.int) ∨ SqT K H a (ns.map V.int) := by
  rcases h with e | e
  · exact .inl (.inl (.inl e))
  · exact .inr (.inl e)
structure spTrim (vs : List V) (H : Hp) (Q : VK) (E : XK) : Prop where
  ex : ∃ a ns, vs = [.ref a] ∧ IntsAt H a ns ∧ ns.length ≤ 1000 ∧ ∀ r H', Same H H' → Rd H' r (.tup ((trimN ns).map V.int)) → Q (.ref r) H'
section
variable {P : Program} {w : World} {K : PySem.W.Frag} {mg : Str → Option Value} {base : Heap}
theorem ok_is_integer {f : Addr} {fd : FuncData} {k : Nat} (F : Fun K "is_integer" "is_integer" s_is_integer f fd) (T : TxtF mg) : FnOk P w K mg base CX0 (k + 1) f fd ["thing"] spIsInt := by
  refine F.ok sc_is_integer (fun vs H Q E h => ?_) (fun cdv A outer s H vs Q E hr h => ?_)
  · obtain ⟨x, d, rfl, _⟩ := h
    rfl
  · obtain ⟨x, d, rfl, hx, q⟩ := h
    refine ⟨_, (pss_one (ps_ret (pe_and (pe_callB call_isi (by rfl) T.n_isinstance (by decide +kernel) (pa_cons (pv 0) (pa_cons (pe_bltn (v := .ty "int") (by rfl) T.n_int (by decide +kernel) rfl) pa_nil))) (pe_one (pe_not (pe_callB call_isi (by rfl) T.n_isinstance (by decide +kernel) (pa_cons (pv 0) (pa_cons (pe_bltn (v := .ty "bool") (by rfl) T.n_bool (by decide +kernel) rfl) pa_nil)))))))), ?_⟩
    refine ⟨_, rfl, _, _, _, _, dI d, rfl, .ty "int", hx.ty, kit_ty (kit_int d), _, rfl, ?_⟩
    cases e : dI d with
    | false =>
      rw [e] at q
      exact iteF q
    | true =>
      rw [e] at q
      exact iteT ⟨_, rfl, _, _, _, _, dB d, rfl, .ty "bool", hx.ty, kit_ty (kit_bool d), _, rfl, q⟩
theorem ok_trimmed {f : Addr} {fd : FuncData} {k : Nat} (F : Fun K "trimmed" "trimmed" s_trimmed f fd) (T : TxtF mg) : FnOk P w K mg base CX0 (k + 1) f fd ["factors"] spTrim := by
  refine F.ok sc_trimmed (fun vs H Q E h => ?_) (fun cdv A outer s H vs Q E hr h => ?_)
  · obtain ⟨a, ns, rfl, _⟩ := h
    rfl
  · obtain ⟨a, ns, rfl, ha, hl, q⟩ := h
    refine ⟨_, (pss_cons (ps_set (i := 1) sc_trimmed.nd rfl (.inl rfl) (pe_callB call_len_seq (by rfl) T.n_len (by decide +kernel) (pa_cons (pv 0) pa_nil)))
  (pss_cons (ps_while PassesOwn.never (PW.pt (pw_and (pt_cmpR op_gt (pv 1) pe_int (nomark _)) (pw_and1 (pt_cmpR op_eq (pe_ix ix_seq (pv 0) (pe_op op_sub (pv 1) pe_int) (fun _ _ => rfl)) pe_int (nomark _)))))
   (pss_one (ps_aug (i := 1) sc_trimmed.nd rfl (.inl rfl) pe_int ip_sub)))
  (pss_one (ps_ret (pe_callTy call_tuple_of (by rfl) T.n_tuple (by decide +kernel) (pa_cons (pe_slice sl_either (pv 0) po_none (po_some (pv 1))) pa_nil)))))), ?_⟩
    refine ⟨_, rfl, a, _, rfl, ha.sq, ?_⟩
    rw [List.length_map]
    refine ⟨fun j σ H2 => H2 = H ∧ j ≤ ns.length ∧ lastN ns j = lastN ns ns.length ∧ σ = [some (.ref a), some (.int (j : Nat))], ⟨ns.length, rfl, Nat.le_refl _, rfl, rfl⟩, ?_⟩
    rintro j σ H2 ⟨rfl, hj, hlast, rfl⟩
    have fin : lastN ns j = j → ∀ r H', Same H2 H' → Rd H' r (.tup ((ns.take j).map V.int)) → Q (.ref r) H' := fun z r H' s e => by
      refine q r H' s ?_
      unfold trimN
      rw [← hlast, z]
      exact e
    have cut := cut_take ns j
    refine ⟨_, rfl, _, _, rfl, rfl, _, rfl, ?_⟩
    cases j with
    | zero =>
      rw [show decide (((0 : Nat) : Int) > 0) = false by decide]
      refine iteF ?_
      refine iteF ?_
      refine ⟨_, rfl, _, rfl, _, rfl, ?_⟩
      rcases ha with e | e
      · refine .inl ⟨a, _, rfl, .inl (.inl e), fun p np => ?_⟩
        rw [cut]
        refine ⟨p, _, rfl, .inl ⟨.inl (.inl upd_same), fun l nl => ?_⟩⟩
        exact fin rfl l _ ((same_upd np).trans (same_upd nl)) (.inl upd_same)
      · refine .inr ⟨a, _, rfl, e, fun r H' s1 e1 => ?_⟩
        rw [cut] at e1
        exact ⟨r, _, rfl, .inr ⟨.inl e1, fin rfl r H' s1 e1⟩⟩
    | succ i =>
      rw [decide_eq_true (show ((i + 1 : Nat) : Int) > (0 : Int) by omega)]
      refine iteT ?_
      have hi : i < ns.length := hj
      have e1 : (((i + 1 : Nat)) : Int) - 1 = (i : Int) := by omega
      have gi : (ns.map V.int)[i]? = some (V.int ns[i]) := by rw [List.getElem?_map, List.getElem?_eq_getElem hi]; rfl
      have ix : ∀ {Q : VK}, Q (V.int ns[i]) H2 → rIx K (.ref a) (.int ((((i + 1 : Nat)) : Int) - 1)) H2 Q := by
        intro Q z
        rw [e1]
        exact ha.sq.elim (fun y => .inl ⟨a, _, _, _, rfl, rfl, y, atI_nat gi, z⟩) fun y => .inr (.inl ⟨a, _, _, _, rfl, rfl, y, atI_nat gi, z⟩)
      refine ⟨_, rfl, _, rfl, _, _, rfl, rfl, ix ?_⟩
      refine ⟨rfl, decide (ns[i] = 0), eqI _ 0, ?_⟩
      by_cases hz : ns[i] = 0
      · rw [decide_eq_true hz]
        refine iteT ?_
        refine ⟨fun σ' H' => H' = H2 ∧ i ≤ ns.length ∧ lastN ns i = lastN ns ns.length ∧ σ' = [some (.ref a), some (.int (i : Nat))], fun σ' H' h => ⟨i, by omega, h⟩, ?_⟩
        have gz : ns[i]? = some 0 := by rw [List.getElem?_eq_getElem hi, hz]
        refine ⟨_, rfl, _, _, rfl, rfl, rfl, Nat.le_of_lt hi, by rw [← hlast, last_go gz], ?_⟩
        show [some (V.ref a), some (V.int (((i + 1 : Nat) : Int) - 1))] = _
        rw [e1]
      · rw [decide_eq_false hz]
        refine iteF ?_
        have z0 : ns[i]? ≠ some 0 := fun z => by
          rw [List.getElem?_eq_getElem hi] at z
          exact hz (Option.some.inj z)
        refine ⟨_, rfl, _, rfl, _, rfl, ?_⟩
        rcases ha with e | e
        · refine .inl ⟨a, _, rfl, .inl (.inl e), fun p np => ?_⟩
          rw [cut]
          refine ⟨p, _, rfl, .inl ⟨.inl (.inl upd_same), fun l nl => ?_⟩⟩
          exact fin (last_stay z0) l _ ((same_upd np).trans (same_upd nl)) (.inl upd_same)
        · refine .inr ⟨a, _, rfl, e, fun r H' s1 e1 => ?_⟩
          rw [cut] at e1
          exact ⟨r, _, rfl, .inr ⟨.inl e1, fin (last_stay z0) r H' s1 e1⟩⟩
theorem fac_and (d : PyData) : facD d = ((dI d && !dB d) && match d with | .int i => decide (0 ≤ i) | _ => false) := by
  cases d <;> simp [facD, dI, dB]
theorem ok_are_factors {f f1 : Addr} {fd fd1 : FuncData} {k : Nat} (F : Fun K "are_factors" "are_factors" s_are_factors f fd) (T : TxtF mg) (F_is_integer : Fun K "is_integer" "is_integer" s_is_integer f1 fd1) (b_is_integer : Binds K fd1 ["thing"] []) (g_is_integer : mg "is_integer" = some (.ref f1)) (G_is_integer : FnOk P w K mg base CX0 1 f1 fd1 ["thing"] spIsInt) :
    FnOk P w K mg base CX0 (k + 2) f fd ["thing"] (spFactors K) := by
  refine F.ok sc_are_factors (fun vs H Q E h => ?_) (fun cdv A outer s H vs Q E hr h => ?_)
  · obtain ⟨x, rfl, _⟩ := h
    rfl
  · obtain ⟨x, rfl, h⟩ := h
    refine ⟨_, (pss_cons (ps_if (pt_not (pt_val (pe_callB call_isiT (by rfl) T.n_isinstance (by decide +kernel) (pa_cons (pv 0) (pa_cons (pe_tup (pa_cons (pe_bltn (v := .ty "list") (by rfl) T.n_list (by decide +kernel) rfl) (pa_cons (pe_bltn (v := .ty "tuple") (by rfl) T.n_tuple (by decide +kernel) rfl) pa_nil))) pa_nil)))))
   (pss_one (ps_ret pe_bl))
   pss_nil)
  (pss_one (ps_ret (pe_callB (cr_all (by rfl)) (by rfl) T.n_all (by decide +kernel) (pa_cons (pe_lc (own := [("factor", 1)]) (g := gName 1) rfl sc_are_factors.nd (pi_either (K := K) rfl (pv 0)) (blkOk_by (own := [("factor", 1)]) (N := ["thing", "factor"]) (sc := defScope s_are_factors) (by decide +kernel)) (fun _ _ _ _ _ => (pg_name (i := 1) sc_are_factors.nd rfl (.inl rfl))) (fun _ _ _ _ _ => pts_nil) (fun _ _ _ _ _ => (pe_and (pe_call G_is_integer (hr.mono (by omega)) (by rfl) g_is_integer F_is_integer.kp b_is_integer .nil pass0 (pa_cons (pv 1) pa_nil)) (pe_one (pe_cmpR op_ge (pv 1) pe_int (nomark _)))))) pa_nil))))), ?_⟩
    clear G_is_integer
    refine ⟨_, rfl, by show 2 ≤ sizeLine; decide, fun t nt => ?_⟩
    have st := same_upd (o := .tup [.ty "list", .ty "tuple"]) nt
    rcases h with ⟨d, hx, few, q⟩ | ⟨ty, hty, keep, hk, q⟩
    · refine ⟨x, t, _, _, _, dL d || dT d, rfl, upd_same, .cons (.ty "list") (.cons (.ty "tuple") .nil), (hx.same st).ty, kit_seq d, _, rfl, ?_⟩
      have hx' := hx.same st
      generalize upd H t (.tup [.ty "list", .ty "tuple"]) = H1 at st hx' ⊢
      cases e : (dL d || dT d) with
      | false =>
        refine iteT ?_
        have n : okF d = false := by unfold okF; rw [e, Bool.false_and]
        rw [n] at q
        exact q _ st
      | true =>
        refine iteF ?_
        have ok : okF d = (itemsD d).all facD := by unfold okF; rw [e, Bool.true_and]
        have step : ∀ {xs : List V} {ds : List PyData} {D : Addr}, DaAll H1 xs ds → ds.length ≤ 1000 → H1 D = none → ∀ (i : Nat) (y : V) (H5 H6 : Hp), i < xs.length → (Same H1 H5 ∧ H5 D = some (.lst ((ds.take i).map fun d => V.bl (facD d)))) → YAt xs i H5 y H6 →
            gName 1 y (wipe (L2.start ["thing", "factor"] [x]) [1]) H6 fun σ2 G2 => wipe σ2 [1] = wipe (L2.start ["thing", "factor"] [x]) [1] ∧ tYes σ2 G2 fun b G3 =>
              if b = true then (tAndV (tCall spIsInt [] E0 (tCons (tVar 1) tNil)) (tOp (rI0 fun i j => V.bl (decide (j ≤ i))) (tVar 1) (tC (V.int 0)))) σ2 G3 fun y G4 => ∃ acc, G4 D = some (.lst acc) ∧ acc.length < sizeLine ∧ (Same H1 (upd G4 D (.lst (acc ++ [y]))) ∧ (upd G4 D (.lst (acc ++ [y]))) D = some (.lst ((ds.take (i + 1)).map fun d => V.bl (facD d)))) else (Same H1 G3 ∧ G3 D = some (.lst ((ds.take (i + 1)).map fun d => V.bl (facD d)))) := by
          intro xs ds D hall hfew nD i y H5 H6 hi hP hY
          obtain ⟨rfl, ey⟩ := hY
          obtain ⟨s5, hD⟩ := hP
          obtain ⟨dy, ed, hy⟩ := hall.get ey
          refine ⟨rfl, ?_⟩
          unfold tYes
          dsimp only
          rw [if_pos rfl]
          have fin : ∀ v, v = V.bl (facD dy) → ∃ acc, H6 D = some (.lst acc) ∧ acc.length < sizeLine ∧ (Same H1 (upd H6 D (.lst (acc ++ [v]))) ∧ (upd H6 D (.lst (acc ++ [v]))) D = some (.lst ((ds.take (i + 1)).map fun d => V.bl (facD d)))) := by
            rintro v rfl
            refine ⟨_, hD, ?_, same_at s5 nD, ?_⟩
            · rw [List.length_map, List.length_take]
              exact small1000 (by omega)
            · rw [upd_same, List.take_add_one, ed, List.map_append]
              rfl
          refine ⟨_, rfl, ⟨y, dy, rfl, hy.same s5, _, rfl, ?_⟩⟩
          cases e9 : (dI dy && !dB dy) with
          | false =>
            refine iteF ?_
            exact fin _ (by rw [fac_and, e9]; rfl)
          | true =>
            refine iteT ?_
            obtain ⟨iv, rfl⟩ : ∃ iv, dy = .int iv := by cases dy <;> first | exact ⟨_, rfl⟩ | cases e9
            cases hy
            exact ⟨_, rfl, _, _, rfl, rfl, fin _ rfl⟩
        cases hx' with
        | @lst a xs ds e2 hall =>
          have lx := hall.length
          refine ⟨_, rfl, a, rfl, .inl ⟨⟨_, .inl (.inl e2)⟩, fun D nD => ?_⟩⟩
          refine lc_it (walk_list (xs := xs)) (fun i H5 => Same H1 H5 ∧ H5 D = some (.lst ((ds.take i).map fun d => V.bl (facD d)))) ⟨same_upd nD, upd_same⟩ (fun i H5 _ h => .inl (.inl (h.1 _ _ e2))) (step hall few nD) ?_
          rintro H5 ⟨s5, hD⟩
          rw [lx, List.take_length] at hD
          refine ⟨D, (ds.map facD), rfl, .inl (.inl (by rw [hD, List.map_map]; rfl)), ?_⟩
          have hn : ((ds.map facD).all id) = okF (.list ds) := by
            rw [ok, List.all_map]
            rfl
          rw [hn]
          exact q H5 (st.trans s5)
        | @tup a xs ds e2 hall =>
          have lx := hall.length
          refine ⟨_, rfl, a, rfl, .inr ⟨⟨_, .inl e2⟩, fun D nD => ?_⟩⟩
          refine lc_it (walk_tup (xs := xs)) (fun i H5 => Same H1 H5 ∧ H5 D = some (.lst ((ds.take i).map fun d => V.bl (facD d)))) ⟨same_upd nD, upd_same⟩ (fun i H5 _ h => .inl (rd_same e2 h.1)) (step hall few nD) ?_
          rintro H5 ⟨s5, hD⟩
          rw [lx, List.take_length] at hD
          refine ⟨D, (ds.map facD), rfl, .inl (.inl (by rw [hD, List.map_map]; rfl)), ?_⟩
          have hn : ((ds.map facD).all id) = okF (.tuple ds) := by
            rw [ok, List.all_map]
            rfl
          rw [hn]
          exact q H5 (st.trans s5)
        | _ => cases e
    · refine ⟨x, t, _, _, _, false, rfl, upd_same, .cons (.ty "list") (.cons (.ty "tuple") .nil), keep _ st, hk, _, rfl, ?_⟩
      refine iteT ?_
      exact q _ st
end
end My

namespace My
open PySem PySem.Spec PyProof.Rows L2
/-! ### the errors and the class -/
abbrev i_TooMany : Stmt := inClass (topS 3) 0
theorem sup_TooMany : SupScope ["self", "limit"] ["self", "limit"] (defScope i_TooMany) := ⟨rfl, rfl, rfl, by decide +kernel, rfl, by decide +kernel, by decide +kernel, by decide +kernel, by decide +kernel, by decide +kernel⟩
abbrev s_Layoutinit : Stmt := inClass (topS 31) 0
theorem sc_Layoutinit : FnScope ["self", "factors"] ["self", "factors"] (defScope s_Layoutinit) := ⟨rfl, rfl, rfl, by decide +kernel, rfl, by decide +kernel, by decide +kernel⟩
/-- C(v): one field -/
def spErr1 (C : Addr) (f : Str) (M : V → Prop) : Sp := fun vs H Q _ => ∃ a v, vs = [.ref a, v] ∧ H a = some (exo a C none) ∧ M v ∧ ∀ d, H d = none → d ≠ a → Q .non (upd (upd H d (exd d [(f, v)])) a (exo a C (some d)))
/-- an int that is shown -/
def IntV (v : V) : Prop := ∃ i : Int, v = .int i ∧ i.natAbs < 10 ^ 30
theorem IntV.log {i : Int} (h : i.natAbs < 10 ^ 30) : i.natAbs.log2 < 1920 := by
  by_cases z : i.natAbs = 0
  · rw [z]
    decide
  · exact (Nat.log2_lt z).mpr (Nat.lt_trans h (by decide))
theorem IntV.txt {i : Int} (h : i.natAbs < 10 ^ 30) : (Str.ofString (toString i)).length ≤ 1921 := by
  rw [PySem.ofString_length]
  exact int_text_length_le (by decide) (IntV.log h)
theorem app_len {a b : Str} {m n : Nat} (h1 : a.length ≤ m) (h2 : b.length ≤ n) : (a ++ b).length ≤ m + n := by
  rw [strLen_append]
  exact Nat.add_le_add h1 h2
theorem le_line {a : Str} {m : Nat} (h : a.length ≤ m) (hm : m ≤ 9000) : a.length ≤ sizeLine := by
  rw [sizeLine_eq]
  omega
structure SupD where
  C : Addr
  fI : Addr
  cc : Addr
  cda : Addr
  fd : FuncData
structure PlainCls (K : PySem.W.Frag) (mg : Str → Option Value) (x : Str) (C : Addr) : Prop where
  gC : mg x = some (.ref C)
  q : PySem.W.excIn K C [.type "ValueError", .type "Exception", .type "BaseException", .type "object"] "ValueError.__new__" = true
  kC : PySem.W.keepIn K (.ref C) = true
abbrev SupOf (P : Program) (K : PySem.W.Frag) (mg : Str → Option Value) (x qual : Str) (st : Stmt) (d : SupD) : Prop := SupCls P K mg x qual st d.C d.fI d.cc d.cda d.fd
/-- the classes that the text makes -/
structure LayD where
  too : SupD
  no : Addr
  lay : Addr
structure LayF (P : Program) (K : PySem.W.Frag) (mg : Str → Option Value) (d : LayD) : Prop where
  too : SupOf P K mg "TooMany" "TooMany.__init__" i_TooMany d.too
  noL : PySem.W.findIn K (.ref d.too.C) "limit" = some none
  no : PlainCls K mg "NoLayout" d.no
  noB : PySem.W.subIn K (.ref d.no) (.type "BaseException") = some true
  noT : PySem.W.typeIn K (.ref d.no) = some (.type "type")
  lay : Cls K d.lay
  gLay : mg "Layout" = some (.ref d.lay)
  exNN : PySem.W.exmOne K (.ref d.no) (.ref d.no) = some true
  exTN : PySem.W.exmOne K (.ref d.too.C) (.ref d.no) = some false
  exTT : PySem.W.exmOne K (.ref d.too.C) (.ref d.too.C) = some true
  xf : XfC K d.too.C
  naF : NoAttr K d.lay "factors"
  naD : NoAttr K d.lay "degree"
structure TxtY (mg : Str → Option Value) (tD : Tok) : Prop where
  n_len : mg "len" = none
  g_MOST_DEGREE : mg "MOST_DEGREE" = some (.int 40 tD)
/-- all stays but what stands at x -/
def Kp (x : Addr) (H H' : Hp) : Prop := ∀ b o, H b = some o → b ≠ x → H' b = some o
/-- the ints of a thing that is factors -/
def intsD (d : PyData) : List Int := (itemsD d).filterMap fun | .int i => some i | _ => none
theorem ints_of {H : Hp} : ∀ {ds : List PyData} {xs : List V}, DaAll H xs ds → ds.all facD = true → xs = (ds.filterMap fun | .int i => some i | _ => none).map V.int
  | _, _, .nil, _ => rfl
  | _, _, .cons (d := d) h t, e => by
    rw [List.all_cons, Bool.and_eq_true] at e
    have r := ints_of t e.2
    cases h with
    | int i =>
      rw [List.filterMap_cons]
      show _ :: _ = _ :: _
      rw [r]
    | _ => exact absurd e.1 Bool.false_ne_true
theorem Da.ints {H : Hp} {x : V} {d : PyData} (h : Da H x d) (e : okF d = true) : ∃ a, x = .ref a ∧ IntsAt H a (intsD d) := by
  unfold okF at e
  rw [Bool.and_eq_true] at e
  cases h with
  | lst e2 hall => exact ⟨_, rfl, .inl (by rw [e2, ints_of hall e.2]; rfl)⟩
  | tup e2 hall =>
    refine ⟨_, rfl, .inr ?_⟩
    have r := ints_of hall e.2
    rw [r] at e2
    exact e2
  | _ => exact absurd e.1 Bool.false_ne_true
theorem ints_len (d : PyData) : (intsD d).length ≤ (itemsD d).length := List.length_filterMap_le _ _
structure spLay (K : PySem.W.Frag) (D : LayD) (vs : List V) (H : Hp) (Q : VK) (E : XK) : Prop where
  ex : ∃ x dx y, vs = [.ref x, y] ∧ H x = some (.ins D.lay dx []) ∧
    ((∃ d, Da H y d ∧ (itemsD d).length ≤ 1000 ∧
      (okF d = false → ∀ H', Kp x H H' → E (.ref D.no) none H') ∧
      (okF d = true → 41 < (trimN (intsD d)).length → ∀ H' e, Kp x H H' → H' e = some (.xd [("limit", .int 40)]) → E (.ref D.too.C) (some e) H') ∧
      (okF d = true → (trimN (intsD d)).length ≤ 41 → ∀ H' r, Kp x H H' → H' x = some (.ins D.lay dx [("factors", .ref r), ("degree", .int ((trimN (intsD d)).length - 1 : Int))]) → Rd H' r (.tup ((trimN (intsD d)).map V.int)) → Q .non H')) ∨
     (∃ ty, TyX K H y (.type ty) ∧ (∀ H', Same H H' → TyX K H' y (.type ty)) ∧ PySem.W.kitAny K (.type ty) [.type "list", .type "tuple"] = some false ∧ ∀ H', Kp x H H' → E (.ref D.no) none H'))
theorem kp_of {H H' : Hp} {x : Addr} (s : Same H H') : Kp x H H' := fun b o e _ => s b o e
section
variable {P : Program} {w : World} {K : PySem.W.Frag} {mg : Str → Option Value} {base : Heap}
theorem bd_TooMany {C fI cc cda : Addr} {fd : FuncData} (T : SupCls P K mg "TooMany" "TooMany.__init__" i_TooMany C fI cc cda fd) : Binds K fd ["self", "limit"] [] := by
  obtain ⟨oc, od, doc, pm, an, ct, osl, rfl, lk⟩ := T.fn
  exact .all fun us hl => match us, hl with | [_, _], _ => rfl
theorem ok_TooMany {C fI cc cda : Addr} {fd : FuncData} {k : Nat} (T : SupCls P K mg "TooMany" "TooMany.__init__" i_TooMany C fI cc cda fd) (hno : PySem.W.findIn K (.ref C) "limit" = some none) : FnOk P w K mg base CX0 (k + 1) fI fd ["self", "limit"] (spErr1 C "limit" IntV) := by
  refine ok_sup T sup_TooMany rfl rfl rfl (fun _ => rfl) (fun _ => rfl) (fun vs H Q E h => ?_) (fun A outer s H vs Q E hr h => ?_)
  · obtain ⟨a, v, rfl, _⟩ := h
    rfl
  · obtain ⟨a, v, rfl, ha, ⟨i, rfl, hi⟩, q⟩ := h
    refine ⟨a, _, _, rfl, ha, pe_joined (.cons pe_str (.cons (pe_fmt (pv 1)) (.cons pe_str .nil))), pss_one (ps_ost (pv 0) (pv 1)), ?_⟩
    refine ⟨_, rfl, le_line (m := 60) (by decide) (by decide), _, rfl, .inr ⟨i, rfl, IntV.log hi, _, rfl, le_line (app_len (m := 60) (by decide) (IntV.txt hi)) (by decide), _, rfl, le_line (app_len (n := 60) (app_len (m := 60) (by decide) (IntV.txt hi)) (by decide)) (by decide), ?_⟩⟩
    exact ⟨ha, _, rfl, _, rfl, a, C, rfl, T.ox, hno, .inl ⟨ha, fun d hd ne => q d hd ne⟩⟩
theorem ok_Layoutinit {d : LayD} {tD : Tok} {f f1 f2 : Addr} {fd fd1 fd2 : FuncData} {k : Nat} (F : Fun K "__init__" "Layout.__init__" s_Layoutinit f fd) (T : TxtY mg tD) (D : LayF P K mg d)
    (F_are_factors : Fun K "are_factors" "are_factors" s_are_factors f1 fd1) (b_are_factors : Binds K fd1 ["thing"] []) (g_are_factors : mg "are_factors" = some (.ref f1)) (G_are_factors : FnOk P w K mg base CX0 2 f1 fd1 ["thing"] (spFactors K))
    (F_trimmed : Fun K "trimmed" "trimmed" s_trimmed f2 fd2) (b_trimmed : Binds K fd2 ["factors"] []) (g_trimmed : mg "trimmed" = some (.ref f2)) (G_trimmed : FnOk P w K mg base CX0 1 f2 fd2 ["factors"] spTrim) :
    FnOk P w K mg base (L2.CX P w) (k + 3) f fd ["self", "factors"] (spLay K d) := by
  refine F.okX sc_Layoutinit (fun vs H Q E h => ?_) (fun cdv A outer s H vs Q E hr h => ?_)
  · obtain ⟨x, dx, y, rfl, _⟩ := h
    rfl
  · obtain ⟨x, dx, y, rfl, hx, h⟩ := h
    refine ⟨_, (pss_cons (ps_if (pt_not (pt_val (pe_call G_are_factors (hr.mono (by omega)) (by rfl) g_are_factors F_are_factors.kp b_are_factors .nil pass0 (pa_cons (pv 1) pa_nil))))
   (pss_one (ps_raise rfl (takes_of rfl rfl rfl rfl) (pmk_own PySem.F.excBase_ValueError D.no.q D.no.gC D.no.kC (raises_own D.noB D.noT) (by exact rfl))))
   pss_nil)
  (pss_cons (ps_fld (pv 0) (pe_call G_trimmed (hr.mono (by omega)) (by rfl) g_trimmed F_trimmed.kp b_trimmed .nil pass0 (pa_cons (pv 1) pa_nil)) rfl)
  (pss_cons (ps_fld (pv 0) (pe_op op_sub (pe_callB call_len_seq (by rfl) T.n_len (by decide +kernel) (pa_cons (pe_fld (pv 0) rfl) pa_nil)) pe_int) rfl)
  (pss_one (ps_if (pt_cmpR op_gt (pe_fld (pv 0) rfl) (pe_glob (v := .int 40) (by rfl) T.g_MOST_DEGREE ⟨_, rfl⟩) (nomark _))
   (pss_one (ps_raise rfl (takes_of rfl rfl rfl rfl) (pmk_oex D.too.ox D.too.iC D.too.tI (ok_TooMany (k := 0) D.too D.noL) (hr.mono (by omega)) (bd_TooMany D.too) .nil pass0 (by rfl) D.too.gC (pa_cons (pe_glob (v := .int 40) (by rfl) T.g_MOST_DEGREE ⟨_, rfl⟩) pa_nil))))
   pss_nil))))), ?_⟩
    clear G_are_factors G_trimmed
    rcases h with ⟨t, hy, few, q1, q2, q3⟩ | ⟨ty, hty, keep, hk, q⟩
    · refine ⟨_, rfl, ⟨y, rfl, .inl ⟨t, hy, few, fun H1 s1 => ?_⟩⟩⟩
      refine ⟨_, rfl, ?_⟩
      cases e : okF t with
      | false =>
        refine iteT ?_
        exact q1 e H1 (kp_of s1)
      | true =>
        refine iteF ?_
        obtain ⟨a, rfl, ia⟩ := hy.ints e
        generalize hns : intsD t = ns at q2 q3 ia
        have lns : ns.length ≤ 1000 := by
          rw [← hns]
          exact Nat.le_trans (ints_len t) few
        refine ⟨_, rfl, ⟨a, ns, rfl, ia.same s1, lns, fun r H2 s2 er => ?_⟩⟩
        have k2 : Kp x H H2 := kp_of (s1.trans s2)
        have hx2 := s2 _ _ (s1 _ _ hx)
        refine ⟨_, rfl, x, d.lay, dx, _, rfl, hx2, D.lay, D.naF, by decide, ?_⟩
        have rx : r ≠ x := by
          rintro rfl
          rcases er with z | ⟨o, z⟩ <;> (rw [hx2] at z; cases z)
        have er3 : Rd (upd H2 x (.ins d.lay dx [("factors", .ref r)])) r (.tup ((trimN ns).map V.int)) := by
          rcases er with z | ⟨o, z⟩
          · exact .inl (by rw [upd_ne rx]; exact z)
          · exact .inr ⟨o, by rw [upd_ne rx]; exact z⟩
        have k3 : Kp x H (upd H2 x (.ins d.lay dx [("factors", .ref r)])) := fun b o eb nb => by
          rw [upd_ne nb]
          exact k2 b o eb nb
        have hx3 : (upd H2 x (.ins d.lay dx [("factors", .ref r)])) x = some (.ins d.lay dx [("factors", .ref r)]) := upd_same
        have e3 : upd H2 x (.ins d.lay dx (putF "factors" (.ref r) [])) = upd H2 x (.ins d.lay dx [("factors", .ref r)]) := rfl
        rw [e3]
        generalize upd H2 x (.ins d.lay dx [("factors", .ref r)]) = H3 at hx3 er3 k3 ⊢
        refine ⟨_, rfl, x, d.lay, dx, _, .ref r, rfl, hx3, D.lay, D.naF, rfl, r, _, rfl, .inr (.inl er3), ?_⟩
        refine ⟨_, _, rfl, rfl, _, rfl, x, d.lay, dx, _, rfl, hx3, D.lay, D.naD, by show 1 < 1000; decide, ?_⟩
        rw [List.length_map]
        have e4 : ∀ v, upd H3 x (.ins d.lay dx (putF "degree" v [("factors", .ref r)])) = upd H3 x (.ins d.lay dx [("factors", .ref r), ("degree", v)]) := fun v => rfl
        rw [e4]
        have hx4 : ∀ v, (upd H3 x (.ins d.lay dx [("factors", .ref r), ("degree", v)])) x = some (.ins d.lay dx [("factors", .ref r), ("degree", v)]) := fun v => upd_same
        have k4 : ∀ v, Kp x H (upd H3 x (.ins d.lay dx [("factors", .ref r), ("degree", v)])) := fun v b o eb nb => by
          rw [upd_ne nb]
          exact k3 b o eb nb
        have er4 : ∀ v, Rd (upd H3 x (.ins d.lay dx [("factors", .ref r), ("degree", v)])) r (.tup ((trimN ns).map V.int)) := fun v => by
          rcases er3 with z | ⟨o, z⟩
          · exact .inl (by rw [upd_ne rx]; exact z)
          · exact .inr ⟨o, by rw [upd_ne rx]; exact z⟩
        generalize trimN ns = ts at q2 q3 er4 ⊢
        specialize hx4 (.int ((ts.length : Nat) - 1))
        specialize k4 (.int ((ts.length : Nat) - 1))
        specialize er4 (.int ((ts.length : Nat) - 1))
        generalize upd H3 x (.ins d.lay dx [("factors", .ref r), ("degree", .int ((ts.length : Nat) - 1))]) = H4 at hx4 k4 er4 ⊢
        refine ⟨_, rfl, x, d.lay, dx, _, .int ((ts.length : Nat) - 1), rfl, hx4, D.lay, D.naD, rfl, _, _, rfl, rfl, _, rfl, ?_⟩
        by_cases big : 41 < ts.length
        · rw [decide_eq_true (show (40 : Int) < (ts.length : Nat) - 1 by omega)]
          refine iteT ?_
          refine ⟨by show 1 ≤ 1000; decide, fun a0 na => ?_⟩
          refine ⟨a0, .int 40, rfl, upd_same, ⟨40, rfl, by decide⟩, fun e0 ne0 nea => ?_⟩
          have n4 : H4 e0 = none := by
            rw [upd_ne nea] at ne0
            exact ne0
          refine ⟨rfl, e0, [("limit", .int 40)], upd_same, ?_, n4, ?_⟩
          · rw [upd_ne nea, upd_same]
          · refine q2 e big _ e0 (fun b o eb nb => ?_) upd_same
            have z := k4 b o eb nb
            have z1 := ne_of_none z n4
            have z2 := ne_of_none z na
            rw [upd_ne z1, del_ne z2, upd_ne z2, upd_ne z1, upd_ne z2]
            exact z
        · rw [decide_eq_false (show ¬ (40 : Int) < (ts.length : Nat) - 1 by omega)]
          refine iteF ?_
          exact q3 e (by omega) H4 r k4 hx4 er4
    · refine ⟨_, rfl, ⟨y, rfl, .inr ⟨ty, hty, keep, hk, fun H1 s1 => ?_⟩⟩⟩
      refine ⟨_, rfl, ?_⟩
      refine iteT ?_
      exact q H1 (kp_of s1)
end
end My

namespace My
open PySem PySem.Spec PyProof.Rows L2
/-! ### a layout -/
/-- nothing can be read there (a way that is never gone) -/
theorem pe_dead {X : Cx} {e : Expr} : PE X e (fun _ _ _ => False) := ⟨fun _ _ _ _ _ _ h => h.elim⟩
structure TxtL (mg : Str → Option Value) : Prop where
  n_len : mg "len" = none
  n_bool : mg "bool" = none
  n_sum : mg "sum" = none
  n_max : mg "max" = none
  n_range : mg "range" = none
  n_isinstance : mg "isinstance" = none
  n_list : mg "list" = none
  n_tuple : mg "tuple" = none
  n_repr : mg "repr" = none
/-- an instance of the class at C with the factors ns -/
def LayAt (C : Addr) (H : Hp) (a : Addr) (ns : List Int) : Prop := ∃ dx r, H a = some (.ins C dx [("factors", .ref r), ("degree", .int (ns.length - 1 : Int))]) ∧ Rd H r (.tup (ns.map V.int)) ∧ ns.length ≤ 41 ∧ ∀ n ∈ ns, 0 ≤ n
theorem LayAt.same {C a : Addr} {H H' : Hp} {ns : List Int} (h : LayAt C H a ns) (s : Same H H') : LayAt C H' a ns := by
  obtain ⟨dx, r, h1, h2, h3, h4⟩ := h
  exact ⟨dx, r, s _ _ h1, rd_same h2 s, h3, h4⟩
/-- what isinstance and the operators ask of the class -/
structure LayG (K : PySem.W.Frag) (C : Addr) (mc : Value) : Prop where
  isL : PySem.W.kitOne K (.ref C) (.ref C) = some true
  isI : PySem.W.kitOne K (.type "int") (.ref C) = some false
  ca : PySem.W.findIn K (.ref C) "__class__" = some (some (.builtin "object.__class__"))
  cn : PySem.W.specialIn K (.builtin "object.__class__") "__get__" = some (some (.builtin "getset_descriptor.__get__"))
  ct : PySem.W.takesIn K (.builtin "object.__class__") = some true
  cm : PySem.W.mroIn K C (.type "object") = some true
  rd : ClX.CRead K C mc
  first : PySem.W.selfFirst K C = true
  addI : BinI K C "__add__" "__radd__" "int"
theorem da_ints {H : Hp} : ∀ ns : List Int, DaAll H (ns.map V.int) (ns.map PyData.int)
  | [] => .nil
  | n :: r => .cons (.int n) (da_ints r)
theorem ints_map (ns : List Int) : ((ns.map PyData.int).filterMap fun | .int i => some i | _ => none) = ns := by
  induction ns with
  | nil => rfl
  | cons n r ih =>
    rw [List.map_cons, List.filterMap_cons]
    show n :: _ = n :: r
    rw [ih]
theorem fac_map {ns : List Int} (h : ∀ n ∈ ns, 0 ≤ n) : (ns.map PyData.int).all facD = true := by
  rw [List.all_map, List.all_eq_true]
  intro n hn
  exact decide_eq_true (h n hn)
theorem intsD_pos {d : PyData} (h : okF d = true) : ∀ n ∈ intsD d, 0 ≤ n := by
  intro n hn
  unfold intsD at hn
  obtain ⟨e, he, hf⟩ := List.mem_filterMap.mp hn
  unfold okF at h
  rw [Bool.and_eq_true] at h
  have z := List.all_eq_true.mp h.2 e he
  cases e <;> simp only [reduceCtorEq, Option.some.injEq] at hf
  subst hf
  exact of_decide_eq_true z
def spMk (C : Addr) : Sp := fun vs H Q _ => ∃ x dx y d, vs = [.ref x, y] ∧ H x = some (.ins C dx []) ∧ Da H y d ∧ (itemsD d).length ≤ 1000 ∧ okF d = true ∧ (trimN (intsD d)).length ≤ 41 ∧ ∀ H', Kp x H H' → LayAt C H' x (trimN (intsD d)) → Q .non H'
/-- C(y) -/
theorem lay_new {C : Addr} {H : Hp} {y : V} {d : PyData} {Q : VK} {E : XK} (hy : Da H y d) (few : (itemsD d).length ≤ 1000) (ok : okF d = true) (le : (trimN (intsD d)).length ≤ 41) (q : ∀ x H', Same H H' → H x = none → LayAt C H' x (trimN (intsD d)) → Q (.ref x) H') :
    ∀ x dx, H x = none → H dx = none → dx ≠ x → spMk C [.ref x, y] (upd (upd H dx (.own x)) x (.ins C dx [])) (fun v H2 => v = .non ∧ Q (.ref x) H2) E := by
  intro x dx nx ndx dxx
  have s0 : Same H (upd (upd H dx (.own x)) x (.ins C dx [])) := fun b o e => by
    rw [upd_ne (ne_of_none e nx), upd_ne (ne_of_none e ndx)]
    exact e
  exact ⟨x, dx, y, d, rfl, upd_same, hy.same s0, few, ok, le, fun H' k l => ⟨rfl, q x H' (fun b o e => k b o (s0 b o e) (ne_of_none e nx)) nx l⟩⟩
theorem lay_newI {C : Addr} {H : Hp} {a : Addr} {ns : List Int} {Q : VK} {E : XK} (ia : IntsAt H a ns) (few : ns.length ≤ 1000) (pos : ∀ n ∈ ns, 0 ≤ n) (le : (trimN ns).length ≤ 41) (q : ∀ x H', Same H H' → H x = none → LayAt C H' x (trimN ns) → Q (.ref x) H') :
    ∀ x dx, H x = none → H dx = none → dx ≠ x → spMk C [.ref x, .ref a] (upd (upd H dx (.own x)) x (.ins C dx [])) (fun v H2 => v = .non ∧ Q (.ref x) H2) E := by
  rcases ia with e | e
  · have i : intsD (.list (ns.map PyData.int)) = ns := ints_map ns
    exact lay_new (d := .list (ns.map PyData.int)) (.lst e (da_ints ns)) (by show (ns.map PyData.int).length ≤ 1000; rw [List.length_map]; exact few) (by unfold okF; rw [show itemsD (.list (ns.map PyData.int)) = ns.map PyData.int from rfl, fac_map pos]; rfl) (by rw [i]; exact le) (by rw [i]; exact q)
  · have i : intsD (.tuple (ns.map PyData.int)) = ns := ints_map ns
    exact lay_new (d := .tuple (ns.map PyData.int)) (.tup e (da_ints ns)) (by show (ns.map PyData.int).length ≤ 1000; rw [List.length_map]; exact few) (by unfold okF; rw [show itemsD (.tuple (ns.map PyData.int)) = ns.map PyData.int from rfl, fac_map pos]; rfl) (by rw [i]; exact le) (by rw [i]; exact q)
/-- C(a list or a tuple of ints) -/
def tMakeI (C : Addr) (t : TA) : TE := fun σ H Q => t σ H fun vs H1 => ∃ a ns, vs = [V.ref a] ∧ IntsAt H1 a ns ∧ ns.length ≤ 1000 ∧ (∀ n ∈ ns, 0 ≤ n) ∧ (trimN ns).length ≤ 41 ∧ ∀ x H', Same H1 H' → H1 x = none → LayAt C H' x (trimN ns) → Q (.ref x) H'
theorem pe_makeI {X : Cx} {k : Nat} {f C : Addr} {x : Str} {e : Expr} {es : List Expr} {t : TA} {p pos : Pos} (M : Mk X.K C f) (F : FnR X.prog X.w X.K X.mg X.base (L2.CX X.prog X.w) k f (spMk C)) (hr : Room (k + 1) X.A) (hg : Gl X x) (hm : X.mg x = some (.ref C)) (ha : PA X (e :: es) t) (hdb : (x == ("__debug__" : Str)) = false := by decide)
    (he : starEach (e :: es) X.env = (false, eval e X.env) :: starEach es X.env := by rfl) (hpl : (backTo pos (starEach es X.env)).any (·.1) = false := by rfl) : PE X (.Call (.Name x p) (e :: es) [] pos) (tMakeI C t) := by
  refine ⟨fun pins s σ H Q I h => ?_⟩
  refine wpAny_Call_Name_kw (ld_glob I hg hm ?_ hdb)
  refine PySem.W.callWith_K (h₀ := X.base) I.ok.mod.kin M.kp (thn (ha.run pos pins s σ H _ I h) fun us s1 ⟨vs, H1, I1, r, q⟩ => ⟨I1.kIn, ?_⟩) he hpl
  obtain ⟨a, ns, rfl, ia, few, ps, le, q⟩ := q
  exact StX.run_makeR M F hr (passE (X := X)) I1 r (lay_newI ia few ps le q)
/-- the factor of t^i -/
def getI (ns : List Int) (i : Int) : Int := if 0 ≤ i ∧ i < ns.length then ns.getD i.toNat 0 else 0
def hornI (ns : List Int) (n : Int) : Int := ns.reverse.foldl (fun v f => v * n + f) 0
theorem bl_int {a b : Int} : V.bl (!decide (V.int a = V.int b)) = V.bl (!decide (a = b)) := by
  have z := eqI a b
  cases z' : decide (V.int a = V.int b) <;> rw [z'] at z <;> cases z2 : decide (a = b) <;> rw [z2] at z <;> first | rfl | (cases z)
theorem trim_len1 (ns : List Int) {m : Nat} (h : ns.length ≤ m) : (trimN ns).length ≤ m := Nat.le_trans (trimN_len ns) h
theorem lastN_last (ns : List Int) : ∀ m, ns[lastN ns m - 1]? = some 0 → lastN ns m = 0
  | 0, _ => rfl
  | m + 1, h => by
    by_cases z : ns[m]? = some 0
    · rw [last_go z] at h ⊢
      exact lastN_last ns m h
    · rw [last_stay z] at h
      exact absurd h z
theorem trim_trim (ns : List Int) : trimN (trimN ns) = trimN ns := by
  have hl := lastN_le ns ns.length
  generalize hm : lastN ns ns.length = m at hl
  have e : trimN ns = ns.take m := by unfold trimN; rw [hm]
  rw [e]
  cases m with
  | zero => rfl
  | succ k =>
    have len : (ns.take (k + 1)).length = k + 1 := by rw [List.length_take]; omega
    have st : (ns.take (k + 1))[k]? ≠ some 0 := by
      rw [List.getElem?_take_of_lt (Nat.lt_succ_self k)]
      intro z
      have y := lastN_last ns ns.length (by rw [hm]; exact z)
      omega
    unfold trimN
    rw [len, last_stay st, List.take_take, Nat.min_self]
section
variable {P : Program} {w : World} {K : PySem.W.Frag} {mg : Str → Option Value} {base : Heap}
theorem mk_of_lay {d : LayD} {f : Addr} {fd : FuncData} (G : FnOk P w K mg base (L2.CX P w) 3 f fd ["self", "factors"] (spLay K d)) (b : Binds K fd ["self", "factors"] []) : FnR P w K mg base (L2.CX P w) 3 f (spMk d.lay) := by
  refine (G.raw b .nil).imp (fun vs H Q E h => ?_)
  obtain ⟨x, dx, y, t, rfl, hx, hy, few, ok, le, q⟩ := h
  rw [List.append_nil]
  exact ⟨⟨x, dx, y, rfl, hx, .inl ⟨t, hy, few, fun e => (by rw [ok] at e; cases e), fun _ big => absurd big (by omega), fun _ _ H' r k h1 h2 => q H' k ⟨dx, r, h1, h2, le, fun n hn => intsD_pos ok n (List.mem_of_mem_take hn)⟩⟩⟩⟩
end
end My

namespace My
open PySem PySem.Spec PyProof.Rows L2
abbrev s_Layoutgetitem : Stmt := inClass (topS 31) 17
theorem sc_Layoutgetitem : FnScope ["self", "at"] ["self", "at"] (defScope s_Layoutgetitem) := ⟨rfl, rfl, rfl, by decide +kernel, rfl, by decide +kernel, by decide +kernel⟩
structure spItem (C : Addr) (vs : List V) (H : Hp) (Q : VK) (E : XK) : Prop where
  ex : ∃ a ns i, vs = [.ref a, .int i] ∧ LayAt C H a ns ∧ Q (.int (getI ns i)) H
section
variable {P : Program} {w : World} {K : PySem.W.Frag} {mg : Str → Option Value} {base : Heap}
theorem ok_getitem {d : LayD} {f : Addr} {fd : FuncData} {k : Nat} (F : Fun K "__getitem__" "Layout.__getitem__" s_Layoutgetitem f fd) (D : LayF P K mg d) : FnOk P w K mg base CX0 (k + 1) f fd ["self", "at"] (spItem d.lay) := by
  refine F.ok sc_Layoutgetitem (fun vs H Q E h => ?_) (fun cdv A outer s H vs Q E hr h => ?_)
  · obtain ⟨a, ns, i, rfl, _⟩ := h
    rfl
  · obtain ⟨a, ns, i, rfl, ⟨dx, r, ha, hr', h3, h4⟩, q⟩ := h
    refine ⟨_, (pss_one (ps_ret (pe_ifExp (pt_chain op_le op_le pe_int (pv 1) (pe_fld (pv 0) rfl)) (pe_ix ix_tup (pe_fld (pv 0) rfl) (pv 1) (fun _ _ => rfl)) pe_int))), ?_⟩
    refine ⟨_, rfl, _, _, rfl, rfl, _, rfl, ?_⟩
    by_cases z : 0 ≤ i
    · rw [decide_eq_true z]
      refine iteT ?_
      refine ⟨_, rfl, a, d.lay, dx, _, _, rfl, ha, D.lay, D.naD, rfl, _, _, rfl, rfl, _, rfl, ?_⟩
      by_cases y : i ≤ (ns.length : Int) - 1
      · rw [decide_eq_true y]
        refine iteT ?_
        obtain ⟨j, rfl⟩ : ∃ j : Nat, i = (j : Int) := ⟨i.toNat, by omega⟩
        have hj : j < ns.length := by omega
        refine ⟨_, rfl, a, d.lay, dx, _, .ref r, rfl, ha, D.lay, D.naF, rfl, _, rfl, r, _, _, V.int ns[j], rfl, rfl, .inl hr', atI_nat (by rw [List.getElem?_map, List.getElem?_eq_getElem hj]; rfl), ?_⟩
        have e : getI ns (j : Int) = ns[j] := by
          unfold getI
          rw [if_pos ⟨by omega, by omega⟩, Int.toNat_natCast, List.getD_eq_getElem?_getD, List.getElem?_eq_getElem hj]
          rfl
        rw [e] at q
        exact q
      · rw [decide_eq_false y]
        refine iteF ?_
        rw [show getI ns i = 0 from if_neg (by omega)] at q
        exact q
    · rw [decide_eq_false z]
      refine iteF ?_
      refine ⟨_, rfl, iteF ?_⟩
      rw [show getI ns i = 0 from if_neg (by omega)] at q
      exact q
end
end My

namespace My
open PySem PySem.Spec PyProof.Rows L2
abbrev s_is_record : Stmt := topS 15
theorem sc_is_record : FnScope ["kind", "layout", "thing", "k", "i", "trees", "tree"] ["kind", "layout", "thing"] (defScope s_is_record) := ⟨rfl, rfl, rfl, by decide +kernel, rfl, by decide +kernel, by decide +kernel⟩
abbrev s_size_of_record : Stmt := topS 16
theorem sc_size_of_record : FnScope ["record"] ["record"] (defScope s_size_of_record) := ⟨rfl, rfl, rfl, by decide +kernel, rfl, by decide +kernel, by decide +kernel⟩
abbrev s_law_is_int : Stmt := topS 42
theorem sc_law_is_int : FnScope ["thing"] ["thing"] (defScope s_law_is_int) := ⟨rfl, rfl, rfl, by decide +kernel, rfl, by decide +kernel, by decide +kernel⟩
abbrev s_law_is_record : Stmt := topS 43
theorem sc_law_is_record : FnScope ["kind", "factors", "thing", "one"] ["kind", "factors", "thing"] (defScope s_law_is_record) := ⟨rfl, rfl, rfl, by decide +kernel, rfl, by decide +kernel, by decide +kernel⟩
structure TxtR (mg : Str → Option Value) : Prop where
  n_isinstance : mg "isinstance" = none
  n_tuple : mg "tuple" = none
  n_len : mg "len" = none
  n_all : mg "all" = none
  n_int : mg "int" = none
  n_bool : mg "bool" = none
/-- a record of a layout -/
def recB (ks : List (Str × Int)) (ns : List Int) : PyData → Bool
  | .tuple [.int k, .int i, .tuple ds] => decide (k = (ds.length : Nat)) && (decide (0 ≤ i) && decide (i < getI ns k)) && allB ks ds
  | _ => false
theorem recB_no {ks : List (Str × Int)} {ns : List Int} {d : PyData} (h : dT d = false) : recB ks ns d = false := by
  cases d <;> first | rfl | cases h
theorem recB_len {ks : List (Str × Int)} {ns : List Int} {ds : List PyData} (h : ds.length ≠ 3) : recB ks ns (.tuple ds) = false := by
  unfold recB
  split
  · rename_i e
    cases e
    exact absurd rfl h
  · rfl
theorem recB_k {ks : List (Str × Int)} {ns : List Int} {d0 d1 d2 : PyData} (h : (dI d0 && !dB d0) = false) : recB ks ns (.tuple [d0, d1, d2]) = false := by
  cases d0 <;> first | rfl | cases h
theorem recB_i {ks : List (Str × Int)} {ns : List Int} {d0 d1 d2 : PyData} (h : (dI d1 && !dB d1) = false) : recB ks ns (.tuple [d0, d1, d2]) = false := by
  cases d0 <;> cases d1 <;> first | rfl | cases h
theorem recB_t {ks : List (Str × Int)} {ns : List Int} {d0 d1 d2 : PyData} (h : dT d2 = false) : recB ks ns (.tuple [d0, d1, d2]) = false := by
  cases d0 <;> cases d1 <;> cases d2 <;> first | rfl | cases h
theorem allB_all (ks : List (Str × Int)) : ∀ ds : List PyData, (ds.map fun d => treeB ks d).all id = allB ks ds
  | [] => rfl
  | d :: r => by
    rw [List.map_cons, List.all_cons, allB_all ks r]
    simp only [allB, id]
theorem dint {d : PyData} (h : (dI d && !dB d) = true) : ∃ i, d = .int i := by
  cases d <;> first | exact ⟨_, rfl⟩ | cases h
theorem dtup {d : PyData} (h : dT d = true) : ∃ ds, d = .tuple ds := by
  cases d <;> first | exact ⟨_, rfl⟩ | cases h
theorem three {H : Hp} {xs : List V} {ds : List PyData} (h : DaAll H xs ds) (l : xs.length = 3) : ∃ v0 v1 v2 d0 d1 d2, xs = [v0, v1, v2] ∧ ds = [d0, d1, d2] ∧ Da H v0 d0 ∧ Da H v1 d1 ∧ Da H v2 d2 := by
  cases h with
  | nil => cases l
  | cons h0 t =>
    cases t with
    | nil => cases l
    | cons h1 t =>
      cases t with
      | nil => cases l
      | cons h2 t =>
        cases t with
        | nil => exact ⟨_, _, _, _, _, _, rfl, rfl, h0, h1, h2⟩
        | cons _ _ => simp at l
structure spIsRec (C : Addr) (vs : List V) (H : Hp) (Q : VK) (E : XK) : Prop where
  ex : ∃ (a : Addr) (ks : List (Str × Int)) (x : Addr) (ns : List Int) (v : V) (d : PyData), vs = [.ref a, .ref x, v] ∧ KindF H a ks ∧ (ks.map (·.1)).Nodup ∧ LayAt C H x ns ∧ Da H v d ∧ nodes d ≤ 100000 ∧ ∀ H', Same H H' → Q (.bl (recB ks ns d)) H'
section
variable {P : Program} {w : World} {K : PySem.W.Frag} {mg : Str → Option Value} {base : Heap}
theorem ok_is_record {d : LayD} {f f1 f2 g : Addr} {fd fd1 fd2 : FuncData} {k : Nat} (F : Fun K "is_record" "is_record" s_is_record f fd) (T : TxtR mg) (F_is_integer : Fun K "is_integer" "is_integer" s_is_integer f1 fd1) (b_is_integer : Binds K fd1 ["thing"] []) (g_is_integer : mg "is_integer" = some (.ref f1)) (G_is_integer : FnOk P w K mg base CX0 1 f1 fd1 ["thing"] spIsInt)
    (F_is_tree : Fun K "is_tree" "is_tree" s_is_tree f2 fd2) (b_is_tree : Binds K fd2 ["kind", "thing"] []) (g_is_tree : mg "is_tree" = some (.ref f2)) (G_is_tree : FnOk P w K mg base CX0 2 f2 fd2 ["kind", "thing"] spIsTree)
    (M_getitem : OwnM K d.lay "__getitem__" g) (R_getitem : FnR P w K mg base CX0 1 g (spItem d.lay)) : FnOk P w K mg base CX0 (k + 4) f fd ["kind", "layout", "thing"] (spIsRec d.lay) := by
  refine F.ok sc_is_record (fun vs H Q E h => ?_) (fun cdv A outer s H vs Q E hr h => ?_)
  · obtain ⟨a, ks, x, ns, v, d, rfl, _⟩ := h
    rfl
  · obtain ⟨a, ks, x, ns, v, dd, rfl, kf, nd, lx, hv, few, q⟩ := h
    refine ⟨_, (pss_cons (ps_if (PW.pt (pw_or (pt_not (pt_val (pe_callB call_isi (by rfl) T.n_isinstance (by decide +kernel) (pa_cons (pv 2) (pa_cons (pe_bltn (v := .ty "tuple") (by rfl) T.n_tuple (by decide +kernel) rfl) pa_nil))))) (pw_or1 (pt_cmpR op_ne (pe_callB call_len_seq (by rfl) T.n_len (by decide +kernel) (pa_cons (pv 2) pa_nil)) pe_int (nomark _)))))
   (pss_one (ps_ret pe_bl))
   pss_nil)
  (pss_cons (ps_asg (pv 2) (pg_tup rfl (pgs_cons (pg_name (i := 3) sc_is_record.nd rfl (.inl rfl)) (pgs_cons (pg_name (i := 4) sc_is_record.nd rfl (.inl rfl)) (pgs_cons (pg_name (i := 5) sc_is_record.nd rfl (.inl rfl)) pgs_nil)))))
  (pss_cons (ps_if (PW.pt (pw_or (pt_not (pt_val (pe_call G_is_integer (hr.mono (by omega)) (by rfl) g_is_integer F_is_integer.kp b_is_integer .nil pass0 (pa_cons (pv 3) pa_nil)))) (pw_or (pt_not (pt_val (pe_call G_is_integer (hr.mono (by omega)) (by rfl) g_is_integer F_is_integer.kp b_is_integer .nil pass0 (pa_cons (pv 4) pa_nil)))) (pw_or (pt_not (pt_val (pe_callB call_isi (by rfl) T.n_isinstance (by decide +kernel) (pa_cons (pv 5) (pa_cons (pe_bltn (v := .ty "tuple") (by rfl) T.n_tuple (by decide +kernel) rfl) pa_nil))))) (pw_or1 (pt_cmpR op_ne (pe_callB call_len_seq (by rfl) T.n_len (by decide +kernel) (pa_cons (pv 5) pa_nil)) (pv 3) (nomark _)))))))
   (pss_one (ps_ret pe_bl))
   pss_nil)
  (pss_one (ps_ret (pe_and (pe_chain op_le op_lt pe_int (pv 4) (pe_ixO M_getitem R_getitem (hr.mono (by omega)) pass0 (pv 1) (pv 3) (fun _ _ => rfl))) (pe_one (pe_callB (cr_all (by rfl)) (by rfl) T.n_all (by decide +kernel) (pa_cons (pe_lc (own := [("tree", 6)]) (g := gName 6) rfl sc_is_record.nd (pi_tup (pv 5)) (blkOk_by (own := [("tree", 6)]) (N := ["kind", "layout", "thing", "k", "i", "trees", "tree"]) (sc := defScope s_is_record) (by decide +kernel)) (fun _ _ _ _ _ => (pg_name (i := 6) sc_is_record.nd rfl (.inl rfl))) (fun _ _ _ _ _ => pts_nil) (fun _ _ _ _ _ => (pe_call G_is_tree (hr.mono (by omega)) (by rfl) g_is_tree F_is_tree.kp b_is_tree .nil pass0 (pa_cons (pv 0) (pa_cons (pv 6) pa_nil))))) pa_nil))))))))), ?_⟩
    clear G_is_integer G_is_tree R_getitem
    refine ⟨_, rfl, _, _, _, _, dT dd, rfl, .ty "tuple", hv.ty, kit_ty (kit_tup dd), _, rfl, ?_⟩
    cases hd : dT dd with
    | false =>
      refine iteT ?_
      rw [recB_no hd] at q
      exact q _ (same_rfl _)
    | true =>
      refine iteF ?_
      obtain ⟨ds, rfl⟩ := dtup hd
      cases hv with
      | @tup b xs _ e h =>
        have lxs := h.length
        refine ⟨_, rfl, b, xs, rfl, .inr (.inl e), rfl, _, bl_int, ?_⟩
        by_cases l3 : xs.length = 3
        · rw [decide_eq_true (show ((xs.length : Nat) : Int) = 3 by omega)]
          refine iteF ?_
          obtain ⟨v0, v1, v2, d0, d1, d2, rfl, rfl, h0, h1, h2⟩ := three h l3
          refine ⟨_, rfl, b, _, rfl, .inl e, rfl, _, _, rfl, _, _, rfl, _, _, rfl, rfl, ?_⟩
          refine ⟨_, rfl, ⟨v0, d0, rfl, h0, _, rfl, ?_⟩⟩
          cases i0 : (dI d0 && !dB d0) with
          | false =>
            refine iteT ?_
            rw [recB_k i0] at q
            exact q _ (same_rfl _)
          | true =>
            refine iteF ?_
            refine ⟨_, rfl, ⟨v1, d1, rfl, h1, _, rfl, ?_⟩⟩
            cases i1 : (dI d1 && !dB d1) with
            | false =>
              refine iteT ?_
              rw [recB_i i1] at q
              exact q _ (same_rfl _)
            | true =>
              refine iteF ?_
              refine ⟨_, rfl, _, _, _, _, dT d2, rfl, .ty "tuple", h2.ty, kit_ty (kit_tup d2), _, rfl, ?_⟩
              cases i2 : dT d2 with
              | false =>
                refine iteT ?_
                rw [recB_t i2] at q
                exact q _ (same_rfl _)
              | true =>
                refine iteF ?_
                obtain ⟨kk, rfl⟩ := dint i0
                obtain ⟨ii, rfl⟩ := dint i1
                obtain ⟨es, rfl⟩ := dtup i2
                cases h0
                cases h1
                cases h2 with
                | @tup t ys _ e2 hys =>
                  have lys := hys.length
                  have rb : recB ks ns (.tuple [.int kk, .int ii, .tuple es]) = (decide (kk = (es.length : Nat)) && (decide (0 ≤ ii) && decide (ii < getI ns kk)) && allB ks es) := rfl
                  rw [rb] at q
                  have fewE : nodesL es ≤ 100000 := by
                    simp only [nodes, nodesL] at few
                    omega
                  refine ⟨_, rfl, t, ys, rfl, .inr (.inl e2), _, rfl, rfl, _, bl_int, ?_⟩
                  by_cases hk : kk = (es.length : Nat)
                  · rw [decide_eq_true (show ((ys.length : Nat) : Int) = kk by omega)]
                    refine iteF ?_
                    rw [decide_eq_true hk, Bool.true_and] at q
                    obtain ⟨dx, r, hx, _⟩ := id lx
                    refine ⟨_, rfl, _, _, rfl, rfl, _, rfl, ?_⟩
                    cases c0 : decide (0 ≤ ii) with
                    | false =>
                      refine iteF ?_
                      rw [c0, Bool.false_and, Bool.false_and] at q
                      exact ⟨_, rfl, iteF (q _ (same_rfl _))⟩
                    | true =>
                      refine iteT ?_
                      rw [c0, Bool.true_and] at q
                      refine ⟨_, rfl, _, rfl, x, dx, _, rfl, hx, ⟨⟨x, ns, kk, rfl, lx, _, _, rfl, rfl, _, rfl, ?_⟩⟩⟩
                      cases c1 : decide (ii < getI ns kk) with
                      | false =>
                        refine iteF ?_
                        rw [c1, Bool.false_and] at q
                        exact q _ (same_rfl _)
                      | true =>
                        refine iteT ?_
                        rw [c1, Bool.true_and] at q
                        refine ⟨_, rfl, t, rfl, ⟨_, .inl e2⟩, fun B nB => ?_⟩
                        refine lc_it (walk_tup (xs := ys)) (fun i H5 => Same H H5 ∧ H5 B = some (.lst ((es.take i).map fun d => V.bl (treeB ks d)))) ⟨same_upd nB, upd_same⟩ (fun i H5 _ h => .inl (rd_same e2 h.1)) ?_ ?_
                        · rintro i y H5 H6 hi ⟨s6, hB⟩ ⟨rfl, ex⟩
                          obtain ⟨d1, hd1, hy1⟩ := hys.get ex
                          refine ⟨rfl, ?_⟩
                          unfold tYes
                          dsimp only
                          rw [if_pos rfl]
                          have nod1 : nodes d1 ≤ 100000 := Nat.le_trans (nodes_at hd1) fewE
                          refine ⟨_, rfl, _, rfl, ⟨a, ks, y, d1, rfl, kf.same s6, nd, hy1.same s6, nod1, fun H7 s8 => ?_⟩⟩
                          refine ⟨_, s8 _ _ hB, ?_, same_at (s6.trans s8) nB, ?_⟩
                          · rw [List.length_map, List.length_take]
                            have z1 := len_nodes es
                            rw [sizeLine_eq]
                            omega
                          · rw [upd_same, take_next hd1]
                        · rintro H5 ⟨s6, hB⟩
                          rw [lys, List.take_length] at hB
                          refine ⟨B, es.map fun d => treeB ks d, rfl, .inl (.inl (by rw [hB, List.map_map]; rfl)), ?_⟩
                          rw [allB_all]
                          exact q _ s6
                  · rw [decide_eq_false (show ¬ ((ys.length : Nat) : Int) = kk by omega)]
                    refine iteT ?_
                    rw [decide_eq_false hk, Bool.false_and, Bool.false_and] at q
                    exact q _ (same_rfl _)
        · rw [decide_eq_false (show ¬ ((xs.length : Nat) : Int) = 3 by omega)]
          refine iteT ?_
          rw [recB_len (by omega)] at q
          exact q _ (same_rfl _)
end
end My

namespace My
open PySem PySem.Spec PyProof.Rows L2
theorem recB_neg {ks : List (Str × Int)} {ns : List Int} {kk ii : Int} {d2 : PyData} (h : ¬ 0 ≤ kk) : recB ks ns (.tuple [.int kk, .int ii, d2]) = false := by
  cases d2 <;> try rfl
  show (decide (kk = _) && _ && _) = false
  rw [decide_eq_false (by omega), Bool.false_and, Bool.false_and]
theorem recB_get {ks : List (Str × Int)} {ns : List Int} {kk ii : Int} {d2 : PyData} (h : ¬ (0 ≤ ii ∧ ii < getI ns kk)) : recB ks ns (.tuple [.int kk, .int ii, d2]) = false := by
  cases d2 <;> try rfl
  show (_ && (decide (0 ≤ ii) && decide (ii < getI ns kk)) && _) = false
  rw [show (decide (0 ≤ ii) && decide (ii < getI ns kk)) = false by rw [Bool.and_eq_false_iff, decide_eq_false_iff_not, decide_eq_false_iff_not]; omega, Bool.and_false, Bool.false_and]
theorem getD_cut (ns : List Int) : ∀ m, (∀ k, m ≤ k → ns.getD k 0 = 0) → ∀ k, (ns.take (lastN ns m)).getD k 0 = ns.getD k 0
  | 0, h, k => by
    show ([] : List Int).getD k 0 = _
    rw [h k (Nat.zero_le k)]
    rfl
  | m + 1, h, k => by
    by_cases z : ns[m]? = some 0
    · rw [last_go z]
      refine getD_cut ns m (fun j hj => ?_) k
      rcases Nat.eq_or_lt_of_le hj with e | e
      · subst e
        rw [List.getD_eq_getElem?_getD, z]
        rfl
      · exact h j e
    · rw [last_stay z, List.getD_eq_getElem?_getD, List.getElem?_take]
      by_cases hk : k < m + 1
      · rw [if_pos hk, List.getD_eq_getElem?_getD]
      · rw [if_neg hk, h k (by omega)]
        rfl
theorem getD_trim (ns : List Int) (k : Nat) : (trimN ns).getD k 0 = ns.getD k 0 := by
  unfold trimN
  refine getD_cut ns ns.length (fun j hj => ?_) k
  rw [List.getD_eq_getElem?_getD, List.getElem?_eq_none hj]
  rfl
theorem getI_trim {fs : List Int} {k : Nat} (h : k < fs.length) : getI (trimN fs) (k : Int) = fs.getD k 0 := by
  unfold getI
  by_cases z : (0 : Int) ≤ (k : Nat) ∧ ((k : Nat) : Int) < (trimN fs).length
  · rw [if_pos z, Int.toNat_natCast, getD_trim]
  · rw [if_neg z, ← getD_trim, List.getD_eq_getElem?_getD, List.getElem?_eq_none (by omega)]
    rfl
theorem getI_out {fs : List Int} {k : Int} (h : ¬ k < (fs.length : Nat)) : getI (trimN fs) k = 0 := if_neg (by have := trimN_len fs; omega)
/-- the trees of a thing that may be a record are small -/
def SmT (d : PyData) : Prop := ∀ d0 d1 es, d = .tuple [d0, d1, .tuple es] → ∀ e ∈ es, nodes e ≤ 1000 ∧ e.depth ≤ 8
structure spSizeRec (vs : List V) (H : Hp) (Q : VK) (E : XK) : Prop where
  ex : ∃ (ks : List (Str × Int)) (v : V) (d0 d1 : PyData) (es : List PyData), vs = [v] ∧ Da H v (.tuple [d0, d1, .tuple es]) ∧ allB ks es = true ∧ nodesL es ≤ 100000 ∧ ∀ H', Same H H' → Q (.int (tagsL es : Nat)) H'
structure spLRec (vs : List V) (H : Hp) (Q : VK) (E : XK) : Prop where
  ex : ∃ (a : Addr) (ks : List (Str × Int)) (rs : List Addr) (b : Addr) (fs : List Int) (v : V) (d : PyData), vs = [.ref a, .ref b, v] ∧ Rd H a (.tup (rs.map V.ref)) ∧ Prs H rs ks ∧ Rk ks ∧ H b = some (.lst (fs.map V.int)) ∧ Da H v d ∧ smB d = true ∧ SmT d ∧ nodes d ≤ 100000 ∧ ∀ H', Same H H' → Q (.bl (recB ks (trimN fs) d)) H'
section
variable {P : Program} {w : World} {K : PySem.W.Frag} {mg : Str → Option Value} {base : Heap}
theorem ok_size_of_record {f f1 : Addr} {fd fd1 : FuncData} {k : Nat} (F : Fun K "size_of_record" "size_of_record" s_size_of_record f fd) (F_size_of_forest : Fun K "size_of_forest" "size_of_forest" s_size_of_forest f1 fd1) (b_size_of_forest : Binds K fd1 ["trees"] []) (g_size_of_forest : mg "size_of_forest" = some (.ref f1)) (G_size_of_forest : FnOk P w K mg base CX0 2 f1 fd1 ["trees"] spForest) : FnOk P w K mg base CX0 (k + 3) f fd ["record"] spSizeRec := by
  refine F.ok sc_size_of_record (fun vs H Q E h => ?_) (fun cdv A outer s H vs Q E hr h => ?_)
  · obtain ⟨ks, v, d0, d1, es, rfl, _⟩ := h
    rfl
  · obtain ⟨ks, v, d0, d1, es, rfl, hv, hall, few, q⟩ := h
    refine ⟨_, (pss_one (ps_ret (pe_call G_size_of_forest (hr.mono (by omega)) (by rfl) g_size_of_forest F_size_of_forest.kp b_size_of_forest .nil pass0 (pa_cons (pe_ix ix_tup (pv 0) pe_int (fun _ _ => rfl)) pa_nil)))), ?_⟩
    clear G_size_of_forest
    cases hv with
    | @tup b xs _ e h =>
      obtain ⟨v0, v1, v2, _, _, _, rfl, e3, h0, h1, h2⟩ := three h (by rw [h.length]; rfl)
      cases e3
      cases h2 with
      | @tup t ys _ e2 hys => exact ⟨_, rfl, b, _, _, .ref t, rfl, rfl, .inl e, atI_nat (j := 2) rfl, ⟨t, ks, ys, es, rfl, e2, hys, hall, few, q⟩⟩
theorem ok_law_is_int {f : Addr} {fd : FuncData} {k : Nat} (F : Fun K "_law_is_int" "_law_is_int" s_law_is_int f fd) (T : TxtR mg) : FnOk P w K mg base CX0 (k + 1) f fd ["thing"] spIsInt := by
  refine F.ok sc_law_is_int (fun vs H Q E h => ?_) (fun cdv A outer s H vs Q E hr h => ?_)
  · obtain ⟨x, d, rfl, _⟩ := h
    rfl
  · obtain ⟨x, d, rfl, hx, q⟩ := h
    refine ⟨_, (pss_one (ps_ret (pe_and (pe_callB call_isi (by rfl) T.n_isinstance (by decide +kernel) (pa_cons (pv 0) (pa_cons (pe_bltn (v := .ty "int") (by rfl) T.n_int (by decide +kernel) rfl) pa_nil))) (pe_one (pe_not (pe_callB call_isi (by rfl) T.n_isinstance (by decide +kernel) (pa_cons (pv 0) (pa_cons (pe_bltn (v := .ty "bool") (by rfl) T.n_bool (by decide +kernel) rfl) pa_nil)))))))), ?_⟩
    refine ⟨_, rfl, _, _, _, _, dI d, rfl, .ty "int", hx.ty, kit_ty (kit_int d), _, rfl, ?_⟩
    cases e : dI d with
    | false =>
      rw [e] at q
      exact iteF q
    | true =>
      rw [e] at q
      exact iteT ⟨_, rfl, _, _, _, _, dB d, rfl, .ty "bool", hx.ty, kit_ty (kit_bool d), _, rfl, q⟩
theorem ok_law_is_record {f f1 f2 : Addr} {fd fd1 fd2 : FuncData} {k : Nat} (F : Fun K "_law_is_record" "_law_is_record" s_law_is_record f fd) (T : TxtR mg) (F__law_is_int : Fun K "_law_is_int" "_law_is_int" s_law_is_int f1 fd1) (b__law_is_int : Binds K fd1 ["thing"] []) (g__law_is_int : mg "_law_is_int" = some (.ref f1)) (G__law_is_int : FnOk P w K mg base CX0 1 f1 fd1 ["thing"] spIsInt)
    (F__law_is_tree : Fun K "_law_is_tree" "_law_is_tree" s_law_is_tree f2 fd2) (b__law_is_tree : Binds K fd2 ["kind", "thing"] []) (g__law_is_tree : mg "_law_is_tree" = some (.ref f2)) (G__law_is_tree : FnOk P w K mg base CX0 9 f2 fd2 ["kind", "thing"] (spLawTree 8)) : FnOk P w K mg base CX0 (k + 10) f fd ["kind", "factors", "thing"] spLRec := by
  refine F.ok sc_law_is_record (fun vs H Q E h => ?_) (fun cdv A outer s H vs Q E hr h => ?_)
  · obtain ⟨a, ks, rs, b, fs, v, d, rfl, _⟩ := h
    rfl
  · obtain ⟨a, ks, rs, fa, fs, v, dd, rfl, ea, pr, hK, ef, hv, hsm, hst, few, q⟩ := h
    refine ⟨_, (pss_cons (ps_if (PW.pt (pw_or (pt_not (pt_val (pe_callB call_isi (by rfl) T.n_isinstance (by decide +kernel) (pa_cons (pv 2) (pa_cons (pe_bltn (v := .ty "tuple") (by rfl) T.n_tuple (by decide +kernel) rfl) pa_nil))))) (pw_or (pt_cmpR op_ne (pe_callB call_len_seq (by rfl) T.n_len (by decide +kernel) (pa_cons (pv 2) pa_nil)) pe_int (nomark _)) (pw_or (pt_not (pt_val (pe_call G__law_is_int (hr.mono (by omega)) (by rfl) g__law_is_int F__law_is_int.kp b__law_is_int .nil pass0 (pa_cons (pe_ix ix_tup (pv 2) pe_int (fun _ _ => rfl)) pa_nil)))) (pw_or1 (pt_not (pt_val (pe_call G__law_is_int (hr.mono (by omega)) (by rfl) g__law_is_int F__law_is_int.kp b__law_is_int .nil pass0 (pa_cons (pe_ix ix_tup (pv 2) pe_int (fun _ _ => rfl)) pa_nil)))))))))
   (pss_one (ps_ret pe_bl))
   pss_nil)
  (pss_cons (ps_if (PW.pt (pw_or (pt_not (pt_chain op_le op_lt pe_int (pe_ix ix_tup (pv 2) pe_int (fun _ _ => rfl)) (pe_callB call_len_seq (by rfl) T.n_len (by decide +kernel) (pa_cons (pv 1) pa_nil)))) (pw_or1 (pt_not (pt_chain op_le op_lt pe_int (pe_ix ix_tup (pv 2) pe_int (fun _ _ => rfl)) (pe_ix ix_list (pv 1) (pe_ix ix_tup (pv 2) pe_int (fun _ _ => rfl)) (fun _ _ => rfl)))))))
   (pss_one (ps_ret pe_bl))
   pss_nil)
  (pss_cons (ps_if (PW.pt (pw_or (pt_not (pt_val (pe_callB call_isi (by rfl) T.n_isinstance (by decide +kernel) (pa_cons (pe_ix ix_tup (pv 2) pe_int (fun _ _ => rfl)) (pa_cons (pe_bltn (v := .ty "tuple") (by rfl) T.n_tuple (by decide +kernel) rfl) pa_nil))))) (pw_or1 (pt_cmpR op_ne (pe_callB call_len_seq (by rfl) T.n_len (by decide +kernel) (pa_cons (pe_ix ix_tup (pv 2) pe_int (fun _ _ => rfl)) pa_nil)) (pe_ix ix_tup (pv 2) pe_int (fun _ _ => rfl)) (nomark _)))))
   (pss_one (ps_ret pe_bl))
   pss_nil)
  (pss_one (ps_ret (pe_cmpR op_notIn_seq pe_bl (pe_lc (own := [("one", 3)]) (g := gName 3) rfl sc_law_is_record.nd (pi_tup (pe_ix ix_tup (pv 2) pe_int (fun _ _ => rfl))) (blkOk_by (own := [("one", 3)]) (N := ["kind", "factors", "thing", "one"]) (sc := defScope s_law_is_record) (by decide +kernel)) (fun _ _ _ _ _ => (pg_name (i := 3) sc_law_is_record.nd rfl (.inl rfl))) (fun _ _ _ _ _ => pts_nil) (fun _ _ _ _ _ => (pe_call G__law_is_tree (hr.mono (by omega)) (by rfl) g__law_is_tree F__law_is_tree.kp b__law_is_tree .nil pass0 (pa_cons (pv 0) (pa_cons (pv 3) pa_nil))))) rfl)))))), ?_⟩
    clear G__law_is_int G__law_is_tree
    refine ⟨_, rfl, _, _, _, _, dT dd, rfl, .ty "tuple", hv.ty, kit_ty (kit_tup dd), _, rfl, ?_⟩
    cases hd : dT dd with
    | false =>
      refine iteT ?_
      rw [recB_no hd] at q
      exact q _ (same_rfl _)
    | true =>
      refine iteF ?_
      obtain ⟨ds, rfl⟩ := dtup hd
      cases hv with
      | @tup b xs _ e h =>
        have lxs := h.length
        refine ⟨_, rfl, b, xs, rfl, .inr (.inl e), rfl, _, bl_int, ?_⟩
        by_cases l3 : xs.length = 3
        · rw [decide_eq_true (show ((xs.length : Nat) : Int) = 3 by omega)]
          refine iteF ?_
          obtain ⟨v0, v1, v2, d0, d1, d2, rfl, rfl, h0, h1, h2⟩ := three h l3
          refine ⟨_, rfl, b, _, _, v0, rfl, rfl, .inl e, atI_nat (j := 0) rfl, ⟨v0, d0, rfl, h0, _, rfl, ?_⟩⟩
          cases i0 : (dI d0 && !dB d0) with
          | false =>
            refine iteT ?_
            rw [recB_k i0] at q
            exact q _ (same_rfl _)
          | true =>
            refine iteF ?_
            refine ⟨_, rfl, b, _, _, v1, rfl, rfl, .inl e, atI_nat (j := 1) rfl, ⟨v1, d1, rfl, h1, _, rfl, ?_⟩⟩
            cases i1 : (dI d1 && !dB d1) with
            | false =>
              refine iteT ?_
              rw [recB_i i1] at q
              exact q _ (same_rfl _)
            | true =>
              refine iteF ?_
              obtain ⟨kk, rfl⟩ := dint i0
              obtain ⟨ii, rfl⟩ := dint i1
              cases h0
              cases h1
              refine ⟨_, rfl, b, _, _, .int kk, rfl, rfl, .inl e, atI_nat (j := 0) rfl, _, _, rfl, rfl, _, rfl, ?_⟩
              by_cases k0 : 0 ≤ kk
              · rw [decide_eq_true k0]
                refine iteT ?_
                refine ⟨_, rfl, fa, _, rfl, .inl (.inl (.inl ef)), _, _, rfl, rfl, _, rfl, ?_⟩
                rw [List.length_map]
                by_cases k1 : kk < (fs.length : Nat)
                · rw [decide_eq_true k1]
                  refine iteF ?_
                  refine ⟨_, rfl, b, _, _, .int ii, rfl, rfl, .inl e, atI_nat (j := 1) rfl, _, _, rfl, rfl, _, rfl, ?_⟩
                  obtain ⟨kn, rfl⟩ : ∃ kn : Nat, kk = (kn : Int) := ⟨kk.toNat, by omega⟩
                  have hkn : kn < fs.length := by omega
                  by_cases j0 : 0 ≤ ii
                  · rw [decide_eq_true j0]
                    refine iteT ?_
                    refine ⟨_, rfl, _, rfl, b, _, _, .int (kn : Nat), rfl, rfl, .inl e, atI_nat (j := 0) rfl, fa, _, _, V.int (fs.getD kn 0), rfl, rfl, .inl (.inl ef), atI_nat (by rw [List.getElem?_map, List.getD_eq_getElem?_getD, List.getElem?_eq_getElem hkn]; rfl), _, _, rfl, rfl, _, rfl, ?_⟩
                    rw [← getI_trim hkn]
                    by_cases j1 : ii < getI (trimN fs) (kn : Nat)
                    · rw [decide_eq_true j1]
                      refine iteF ?_
                      refine ⟨_, rfl, b, _, _, v2, rfl, rfl, .inl e, atI_nat (j := 2) rfl, _, _, _, _, dT d2, rfl, .ty "tuple", h2.ty, kit_ty (kit_tup d2), _, rfl, ?_⟩
                      cases i2 : dT d2 with
                      | false =>
                        refine iteT ?_
                        rw [recB_t i2] at q
                        exact q _ (same_rfl _)
                      | true =>
                        refine iteF ?_
                        obtain ⟨es, rfl⟩ := dtup i2
                        cases h2 with
                        | @tup t ys _ e2 hys =>
                          have lys := hys.length
                          have rb : recB ks (trimN fs) (.tuple [.int (kn : Nat), .int ii, .tuple es]) = (decide (((kn : Nat) : Int) = (es.length : Nat)) && (decide (0 ≤ ii) && decide (ii < getI (trimN fs) (kn : Nat))) && allB ks es) := rfl
                          rw [rb, decide_eq_true j0, decide_eq_true j1, Bool.true_and, Bool.and_true] at q
                          refine ⟨_, rfl, b, _, _, .ref t, rfl, rfl, .inl e, atI_nat (j := 2) rfl, t, ys, rfl, .inr (.inl e2), _, rfl, b, _, _, .int (kn : Nat), rfl, rfl, .inl e, atI_nat (j := 0) rfl, rfl, _, bl_int, ?_⟩
                          by_cases hk : ((kn : Nat) : Int) = (es.length : Nat)
                          · rw [decide_eq_true (show ((ys.length : Nat) : Int) = (kn : Nat) by omega)]
                            refine iteF ?_
                            rw [decide_eq_true hk, Bool.true_and] at q
                            have sms : smL es = true := by
                              simp only [smB, smL, Bool.and_eq_true] at hsm
                              exact hsm.2.2.1
                            have sub := hst _ _ es rfl
                            refine ⟨_, rfl, b, _, _, .ref t, rfl, rfl, .inl e, atI_nat (j := 2) rfl, t, rfl, ⟨_, .inl e2⟩, fun B nB => ?_⟩
                            refine lc_it (walk_tup (xs := ys)) (fun i H5 => Same H H5 ∧ H5 B = some (.lst ((es.take i).map fun d => V.bl (treeB ks d)))) ⟨same_upd nB, upd_same⟩ (fun i H5 _ h => .inl (rd_same e2 h.1)) ?_ ?_
                            · rintro i y H5 H6 hi ⟨s6, hB⟩ ⟨rfl, ex⟩
                              obtain ⟨d1, hd1, hy1⟩ := hys.get ex
                              refine ⟨rfl, ?_⟩
                              unfold tYes
                              dsimp only
                              rw [if_pos rfl]
                              obtain ⟨nod1, dep1⟩ := sub d1 (List.mem_of_getElem? hd1)
                              refine ⟨_, rfl, _, rfl, ⟨a, ks, rs, y, d1, rfl, rd_same ea s6, pr.same s6, hK, hy1.same s6, smL_at sms hd1, nod1, dep1, fun H7 s8 => ?_⟩⟩
                              refine ⟨_, s8 _ _ hB, ?_, same_at (s6.trans s8) nB, ?_⟩
                              · rw [List.length_map, List.length_take]
                                have z1 := len_nodes es
                                simp only [nodes, nodesL] at few
                                rw [sizeLine_eq]
                                omega
                              · rw [upd_same, take_next hd1]
                            · rintro H5 ⟨s6, hB⟩
                              rw [lys, List.take_length] at hB
                              refine ⟨B, _, rfl, .inl (.inl (.inl hB)), rfl, flat_bools ks es, ?_⟩
                              show Q (.bl (if true = true then !inV (.bl false) (es.map fun d => V.bl (treeB ks d)) else _)) H5
                              rw [if_pos rfl, in_bools]
                              exact q _ s6
                          · rw [decide_eq_false (show ¬ ((ys.length : Nat) : Int) = (kn : Nat) by omega)]
                            refine iteT ?_
                            rw [decide_eq_false hk, Bool.false_and] at q
                            exact q _ (same_rfl _)
                    · rw [decide_eq_false j1]
                      refine iteT ?_
                      rw [recB_get (by omega)] at q
                      exact q _ (same_rfl _)
                  · rw [decide_eq_false j0]
                    refine iteF ?_
                    refine ⟨_, rfl, iteT ?_⟩
                    rw [recB_get (by omega)] at q
                    exact q _ (same_rfl _)
                · rw [decide_eq_false k1]
                  refine iteT ?_
                  rw [recB_get (by rw [getI_out k1]; omega)] at q
                  exact q _ (same_rfl _)
              · rw [decide_eq_false k0]
                refine iteF ?_
                refine ⟨_, rfl, iteT ?_⟩
                rw [recB_neg k0] at q
                exact q _ (same_rfl _)
        · rw [decide_eq_false (show ¬ ((xs.length : Nat) : Int) = 3 by omega)]
          refine iteT ?_
          rw [recB_len (by omega)] at q
          exact q _ (same_rfl _)
end
end My

namespace My
open PySem PySem.Spec PyProof.Rows L2
abbrev s_law_some_factors : Stmt := topS 40
theorem sc_law_some_factors : FnScope ["deck", "degree", "most", "found", "k"] ["deck", "degree", "most"] (defScope s_law_some_factors) := ⟨rfl, rfl, rfl, by decide +kernel, rfl, by decide +kernel, by decide +kernel⟩
theorem at_last (l : List V) (x : V) : atI (l ++ [x]) (-1) = some x := by
  unfold atI ixN
  rw [List.length_append, List.length_cons, List.length_nil, if_neg (by decide), if_pos (by omega), Option.bind_some]
  rw [show (-1 + ((l.length + (0 + 1) : Nat) : Int)).toNat = l.length by omega]
  simp
theorem ix_last (l : List V) (x : V) : ixN (l ++ [x]).length (-1) = some l.length := by
  unfold ixN
  rw [List.length_append, List.length_cons, List.length_nil, if_neg (by decide), if_pos (by omega)]
  rw [show (-1 + ((l.length + (0 + 1) : Nat) : Int)).toNat = l.length by omega]
theorem set_last (l : List V) (x y : V) : (l ++ [x]).set l.length y = l ++ [y] := by simp
structure TxtW (mg : Str → Option Value) : Prop where
  n_range : mg "range" = none
  n_enumerate : mg "enumerate" = none
  n_tuple : mg "tuple" = none
structure spSomeF (vs : List V) (H : Hp) (Q : VK) (E : XK) : Prop where
  ex : ∃ (p c : Addr) (degree : Nat) (most : Int), vs = [.ref p, .int (degree : Nat), .int most] ∧ Pot H p c ∧ degree ≤ 100 ∧ 2 ≤ most ∧ most ≤ 1000 ∧ ∀ (l : Addr) (ns : List Int) (H' : Hp), H l = none → Pot H' p c → But p H H' → H' l = some (.lst (ns.map V.int)) → 1 ≤ ns.length → ns.length ≤ degree + 1 → (∀ n ∈ ns, 0 ≤ n ∧ n ≤ most) → Q (.ref l) H'
section
variable {P : Program} {w : World} {K : PySem.W.Frag} {mg : Str → Option Value} {base : Heap}
theorem ok_some_factors {f fb fp : Addr} {fd fdb fdp : FuncData} {k : Nat} (F : Fun K "_law_some_factors" "_law_some_factors" s_law_some_factors f fd) (T : TxtW mg) (F__law_below : Fun K "_law_below" "_law_below" s_law_below fb fdb) (b__law_below : Binds K fdb ["deck", "bound"] []) (g__law_below : mg "_law_below" = some (.ref fb))
    (G__law_below : FnOk P w K mg base CX0 2 fb fdb ["deck", "bound"] spBelow) (F__law_pick : Fun K "_law_pick" "_law_pick" s_law_pick fp fdp) (b__law_pick : Binds K fdp ["deck", "some"] []) (g__law_pick : mg "_law_pick" = some (.ref fp))
    (G__law_pick : FnOk P w K mg base CX0 3 fp fdp ["deck", "some"] (spPick K)) : FnOk P w K mg base CX0 (k + 4) f fd ["deck", "degree", "most"] spSomeF := by
  refine F.ok sc_law_some_factors (fun vs H Q E h => ?_) (fun cdv A outer s H vs Q E hr h => ?_)
  · obtain ⟨p, c, degree, most, rfl, _⟩ := h
    rfl
  · obtain ⟨p, c, degree, most, rfl, hP, d100, mo2, mo9, q⟩ := h
    refine ⟨_, (pss_cons (ps_setLc (i := 3) (own := [("k", 4)]) (g := gName 4) rfl sc_law_some_factors.nd rfl rfl (sw_true rfl rfl rfl (by decide +kernel)) (pi_range1 (by rfl) T.n_range (pa_cons (pe_op op_add pe_int (pe_call G__law_below (hr.mono (by omega)) (by rfl) g__law_below F__law_below.kp b__law_below .nil pass0 (pa_cons (pv 0) (pa_cons (pe_op op_add (pv 1) pe_int) pa_nil)))) pa_nil)) (blkOk_by (own := [("k", 4)]) (N := ["deck", "degree", "most", "found", "k"]) (sc := defScope s_law_some_factors) (by decide +kernel)) (fun _ _ _ _ _ => (pg_name (i := 4) sc_law_some_factors.nd rfl (.inl rfl))) (fun _ _ _ _ _ => pts_nil) (fun _ _ _ _ _ => (pe_call G__law_pick (hr.mono (by omega)) (by rfl) g__law_pick F__law_pick.kp b__law_pick .nil pass0 (pa_cons (pv 0) (pa_cons (pe_lst (pa_cons pe_int (pa_cons pe_int (pa_cons pe_int (pa_cons pe_int (pa_cons (pe_call G__law_below (hr.mono (by omega)) (by rfl) g__law_below F__law_below.kp b__law_below .nil pass0 (pa_cons (pv 0) (pa_cons (pe_op op_add (pv 2) pe_int) pa_nil))) pa_nil)))))) pa_nil)))))
  (pss_cons (ps_asg (pe_ifExp (pt_cmpR op_lt (pe_ix ix_list (pv 3) (pe_un un_neg pe_int) (fun _ _ => rfl)) (pv 2) (nomark _)) (pe_op op_add (pe_ix ix_list (pv 3) (pe_un un_neg pe_int) (fun _ _ => rfl)) pe_int) (pe_ix ix_list (pv 3) (pe_un un_neg pe_int) (fun _ _ => rfl))) (pg_sub (pv 3) (pe_un un_neg pe_int) set_list))
  (pss_one (ps_ret (pv 3))))), ?_⟩
    clear G__law_below G__law_pick
    refine ⟨_, rfl, _, rfl, _, _, rfl, rfl, p, c, _, rfl, hP, by omega, by omega, fun v H2 v0 v1 hP2 b2 => ?_⟩
    obtain ⟨n, rfl⟩ : ∃ n : Nat, v = (n : Int) := ⟨v.toNat, by omega⟩
    refine ⟨_, _, rfl, rfl, ?_⟩
    refine ⟨1 + (n : Int), rfl, by omega, by omega, fun D nD => ?_⟩
    have nDH : H D = none := b2.free nD
    obtain ⟨npD, ncD⟩ := hP2.ne nD
    refine lc_range (n := Int.toNat (1 + (n : Int))) (fun j H3 => Pot H3 p c ∧ But p H H3 ∧ ∃ ns : List Int, H3 D = some (.lst (ns.map V.int)) ∧ ns.length = j ∧ ∀ z ∈ ns, 0 ≤ z ∧ z ≤ most) ⟨hP2.same (same_upd nD), b2.same (same_upd nD), [], upd_same, rfl, fun _ z => nomatch z⟩ ?_ ?_
    · rintro j H3 hj ⟨hP3, b3, ns, eD, ln, hns⟩
      refine ⟨rfl, ?_⟩
      unfold tYes
      dsimp only
      rw [if_pos rfl]
      refine ⟨_, rfl, _, rfl, _, rfl, _, _, rfl, rfl, p, c, _, rfl, hP3, by omega, by omega, fun y H4 y0 y1 hP4 b4 => ?_⟩
      have eD4 := b4.1 _ _ eD (Ne.symm npD)
      refine ⟨by show 5 ≤ sizeLine; decide, fun L nL => ?_⟩
      have sL := same_upd (o := .lst [.int 0, .int 0, .int 1, .int 1, .int y]) nL
      have hL : (upd H4 L (.lst [.int 0, .int 0, .int 1, .int 1, .int y])) L = some (.lst [.int 0, .int 0, .int 1, .int 1, .int y]) := upd_same
      have npL : p ≠ L := (hP4.ne nL).1
      generalize upd H4 L (.lst [.int 0, .int 0, .int 1, .int 1, .int y]) = H5 at sL hL ⊢
      have hP5 := hP4.same sL
      have eD5 := sL _ _ eD4
      refine ⟨p, c, L, _, rfl, hP5, .inl (.inl hL), (fun z => nomatch z), by show 5 < 1073741824; decide, fun H' hb => .inl (.inl (hb.1 _ _ hL (Ne.symm npL))), fun x H6 hx hP6 b6 => ?_⟩
      have eD6 := b6.1 _ _ eD5 (Ne.symm npD)
      obtain ⟨xi, rfl, x0, x1⟩ : ∃ xi : Int, x = .int xi ∧ 0 ≤ xi ∧ xi ≤ most := by
        simp only [List.mem_cons, List.not_mem_nil, or_false] at hx
        rcases hx with rfl | rfl | rfl | rfl | rfl <;> exact ⟨_, rfl, by omega, by omega⟩
      refine ⟨_, eD6, ?_, hP6.upd npD ncD, (((b3.trans b4).same sL).trans b6).set nDH, ns ++ [xi], ?_, ?_, ?_⟩
      · rw [List.length_map]
        exact small1000 (by omega)
      · rw [upd_same, List.map_append]
        rfl
      · rw [List.length_append, ln]
        rfl
      · intro z hz
        rcases List.mem_append.mp hz with hz | hz
        · exact hns z hz
        · rw [List.mem_singleton.mp hz]
          exact ⟨x0, x1⟩
    · rintro H3 ⟨hP3, b3, ns, eD, ln, hns⟩
      obtain ⟨ms, z, rfl⟩ : ∃ ms z, ns = ms ++ [z] := by
        have ne : ns ≠ [] := fun e => by
          rw [e] at ln
          simp at ln
          omega
        exact ⟨_, _, (List.dropLast_concat_getLast ne).symm⟩
      obtain ⟨z0, z1⟩ := hns z (List.mem_append.mpr (.inr (List.mem_singleton.mpr rfl)))
      rw [List.map_append] at eD
      have eD : H3 D = some (.lst (ms.map V.int ++ [V.int z])) := eD
      have fin : ∀ y : Int, 0 ≤ y → y ≤ most → Q (.ref D) (upd H3 D (.lst ((ms.map V.int ++ [V.int z]).set (ms.map V.int).length (V.int y)))) := by
        intro y y0 y1
        refine q D (ms ++ [y]) _ nDH (hP3.upd npD ncD) (b3.set nDH) ?_ ?_ ?_ ?_
        · rw [upd_same, set_last, List.map_append]
          rfl
        · rw [List.length_append]
          exact Nat.le_add_left 1 _
        · rw [List.length_append] at ln ⊢
          simp at ln ⊢
          omega
        · intro n hn
          rcases List.mem_append.mp hn with hn | hn
          · exact hns n (List.mem_append.mpr (.inl hn))
          · rw [List.mem_singleton.mp hn]
            exact ⟨y0, y1⟩
      refine ⟨_, rfl, _, rfl, D, _, _, V.int z, rfl, rfl, .inl (.inl eD), at_last _ _, _, rfl, _, _, rfl, rfl, _, rfl, ?_⟩
      by_cases y : z < most
      · rw [decide_eq_true y]
        refine iteT ?_
        refine ⟨_, rfl, _, rfl, D, _, _, V.int z, rfl, rfl, .inl (.inl eD), at_last _ _, _, _, rfl, rfl, ?_⟩
        refine ⟨_, rfl, _, rfl, D, _, _, _, rfl, rfl, eD, ix_last _ _, ?_⟩
        exact ⟨_, rfl, fin _ (by omega) (by omega)⟩
      · rw [decide_eq_false y]
        refine iteF ?_
        refine ⟨_, rfl, _, rfl, D, _, _, V.int z, rfl, rfl, .inl (.inl eD), at_last _ _, ?_⟩
        refine ⟨_, rfl, _, rfl, D, _, _, _, rfl, rfl, eD, ix_last _ _, ?_⟩
        exact ⟨_, rfl, fin _ (by omega) (by omega)⟩
end
end My

namespace My
open PySem PySem.Spec PyProof.Rows L2
abbrev s_law_some_record : Stmt := topS 41
theorem sc_law_some_record : FnScope ["deck", "kind", "factors", "deep", "k", "index", "place", "factor", "tree"] ["deck", "kind", "factors", "deep"] (defScope s_law_some_record) := ⟨rfl, rfl, rfl, by decide +kernel, rfl, by decide +kernel, by decide +kernel⟩
/-- a record by hand -/
structure RecH (ks : List (Str × Int)) (n : Nat) (k i : Int) (es : List PyData) : Prop where
  len : (es.length : Int) = k
  few : es.length ≤ 45
  i0 : 0 ≤ i
  i1 : i ≤ 1000
  all : allB ks es = true
  sm : smL es = true
  sub : ∀ e ∈ es, nodes e ≤ NB n ∧ e.depth ≤ n + 1
structure spSomeRec (n : Nat) (vs : List V) (H : Hp) (Q : VK) (E : XK) : Prop where
  ex : ∃ (p c a : Addr) (ks : List (Str × Int)) (rs : List Addr) (b : Addr) (fs : List Int) (deep : Int), vs = [.ref p, .ref a, .ref b, .int deep] ∧ deep ≤ n ∧ Pot H p c ∧ Rd H a (.tup (rs.map V.ref)) ∧ Prs H rs ks ∧ Rk ks ∧ H b = some (.lst (fs.map V.int)) ∧ b ≠ p ∧ fs.length ≤ 45 ∧ (∀ z ∈ fs, 0 ≤ z ∧ z ≤ 1000) ∧ (∃ z ∈ fs, 0 < z) ∧
    ∀ v k i es H', But p H H' → Pot H' p c → Da H' v (.tuple [.int k, .int i, .tuple es]) → RecH ks n k i es → Q v H'
theorem Prs.tk {H H' : Hp} (k : TK H H') : ∀ {rs : List Addr} {ks : List (Str × Int)}, Prs H rs ks → Prs H' rs ks
  | _, _, .nil => .nil
  | _, _, .cons e t => .cons (k _ _ e) (t.tk k)
section
variable {P : Program} {w : World} {K : PySem.W.Frag} {mg : Str → Option Value} {base : Heap}
theorem ok_some_record {n : Nat} {f fb fp ft : Addr} {fd fdb fdp fdt : FuncData} {k : Nat} (F : Fun K "_law_some_record" "_law_some_record" s_law_some_record f fd) (T : TxtW mg) (F__law_below : Fun K "_law_below" "_law_below" s_law_below fb fdb) (b__law_below : Binds K fdb ["deck", "bound"] []) (g__law_below : mg "_law_below" = some (.ref fb))
    (G__law_below : FnOk P w K mg base CX0 2 fb fdb ["deck", "bound"] spBelow) (F__law_pick : Fun K "_law_pick" "_law_pick" s_law_pick fp fdp) (b__law_pick : Binds K fdp ["deck", "some"] []) (g__law_pick : mg "_law_pick" = some (.ref fp))
    (G__law_pick : FnOk P w K mg base CX0 3 fp fdp ["deck", "some"] (spPick K)) (F__law_some_tree : Fun K "_law_some_tree" "_law_some_tree" s_law_some_tree ft fdt) (b__law_some_tree : Binds K fdt ["deck", "kind", "deep"] []) (g__law_some_tree : mg "_law_some_tree" = some (.ref ft))
    (G__law_some_tree : FnOk P w K mg base CX0 (n + 4) ft fdt ["deck", "kind", "deep"] (spSomeTree n)) : FnOk P w K mg base CX0 (n + k + 5) f fd ["deck", "kind", "factors", "deep"] (spSomeRec n) := by
  refine F.ok sc_law_some_record (fun vs H Q E h => ?_) (fun cdv A outer s H vs Q E hr h => ?_)
  · obtain ⟨p, c, a, ks, rs, b, fs, deep, rfl, _⟩ := h
    rfl
  · obtain ⟨p, c, a, ks, rs, b, fs, deep, rfl, hdeep, hP, ea, pr, hK, eb, nbp, lfs, hfs, hpos, q⟩ := h
    refine ⟨_, (pss_cons (ps_set (i := 4) sc_law_some_record.nd rfl (.inl rfl) (pe_call G__law_pick (hr.mono (by omega)) (by rfl) g__law_pick F__law_pick.kp b__law_pick .nil pass0 (pa_cons (pv 0) (pa_cons (pe_lc (own := [("place", 6), ("factor", 7)]) (g := gTup K 2 (gCons (gName 6) (gCons (gName 7) gNil))) rfl sc_law_some_record.nd (pi_enum (by rfl) T.n_enumerate (pa_cons (pv 2) pa_nil)) (blkOk_by (own := [("place", 6), ("factor", 7)]) (N := ["deck", "kind", "factors", "deep", "k", "index", "place", "factor", "tree"]) (sc := defScope s_law_some_record) (by decide +kernel)) (fun _ _ _ _ _ => (pg_tup rfl (pgs_cons (pg_name (i := 6) sc_law_some_record.nd rfl (.inl rfl)) (pgs_cons (pg_name (i := 7) sc_law_some_record.nd rfl (.inl rfl)) pgs_nil)))) (fun _ _ _ _ _ => (pts_one (pt_cmpR op_gt (pv 7) pe_int (nomark _)))) (fun _ _ _ _ _ => (pv 6))) pa_nil))))
  (pss_cons (ps_set (i := 5) sc_law_some_record.nd rfl (.inl rfl) (pe_call G__law_below (hr.mono (by omega)) (by rfl) g__law_below F__law_below.kp b__law_below .nil pass0 (pa_cons (pv 0) (pa_cons (pe_ix ix_list (pv 2) (pv 4) (fun _ _ => rfl)) pa_nil))))
  (pss_one (ps_ret (pe_tup (pa_cons (pv 4) (pa_cons (pv 5) (pa_cons (pe_callTy call_tuple_of (by rfl) T.n_tuple (by decide +kernel) (pa_cons (pe_lc (own := [("tree", 8)]) (g := gName 8) rfl sc_law_some_record.nd (pi_range1 (by rfl) T.n_range (pa_cons (pv 4) pa_nil)) (blkOk_by (own := [("tree", 8)]) (N := ["deck", "kind", "factors", "deep", "k", "index", "place", "factor", "tree"]) (sc := defScope s_law_some_record) (by decide +kernel)) (fun _ _ _ _ _ => (pg_name (i := 8) sc_law_some_record.nd rfl (.inl rfl))) (fun _ _ _ _ _ => pts_nil) (fun _ _ _ _ _ => (pe_call G__law_some_tree (hr.mono (by omega)) (by rfl) g__law_some_tree F__law_some_tree.kp b__law_some_tree .nil pass0 (pa_cons (pv 0) (pa_cons (pv 1) (pa_cons (pv 3) pa_nil)))))) pa_nil)) pa_nil)))))))), ?_⟩
    clear G__law_below G__law_pick G__law_some_tree
    refine ⟨_, rfl, _, rfl, b, _, rfl, .inl (.inl eb), fun D nD => ?_⟩
    refine lc_it (walk_enum (xs := fs.map V.int)) (fun i H5 => Same H H5 ∧ ∃ js : List Nat, H5 D = some (.lst (js.map fun j => V.int ((j : Nat) : Int))) ∧ js.length ≤ i ∧ (∀ j ∈ js, 0 < fs.getD j 0 ∧ j < fs.length) ∧ ((∃ z ∈ fs.take i, 0 < z) → js ≠ [])) ⟨same_upd nD, [], upd_same, Nat.le_refl _, fun _ z => (nomatch z), fun ⟨z, hz, _⟩ => (nomatch hz)⟩ (fun i H5 _ h => .inl (.inl (h.1 _ _ eb))) ?_ ?_
    · rintro i x H5 H6 hi ⟨s5, js, eD, lj, hj, hne⟩ ⟨T5, x5, y5, rfl, nT, rfl, ex, ey⟩
      rw [List.length_map] at hi
      have ey : (fs.map V.int)[i]? = some y5 := ey
      rw [List.getElem?_map, List.getElem?_eq_getElem hi] at ey
      obtain rfl : V.int fs[i] = y5 := Option.some.inj ey
      obtain rfl : V.int (i : Nat) = x5 := Option.some.inj ex
      have gi : fs.getD i 0 = fs[i] := by rw [List.getD_eq_getElem?_getD, List.getElem?_eq_getElem hi]; rfl
      have tk : fs.take (i + 1) = fs.take i ++ [fs[i]] := by
        rw [List.take_add_one, List.getElem?_eq_getElem hi]
        rfl
      have sT := s5.trans (same_upd (o := .tup [V.int (i : Nat), V.int fs[i]]) nT)
      have eDT := (same_upd (o := .tup [V.int (i : Nat), V.int fs[i]]) nT) _ _ eD
      refine ⟨T5, _, rfl, .inl (.inl upd_same), rfl, _, _, rfl, _, _, rfl, rfl, rfl, ?_⟩
      generalize upd H5 T5 (.tup [V.int (i : Nat), V.int fs[i]]) = H7 at sT eDT ⊢
      refine ⟨_, rfl, _, _, rfl, rfl, _, rfl, ?_⟩
      by_cases z : 0 < fs[i]
      · rw [decide_eq_true z]
        refine iteT ?_
        refine ⟨_, rfl, _, eDT, ?_, same_at sT nD, js ++ [i], ?_, ?_, ?_, ?_⟩
        · rw [List.length_map]
          exact small1000 (by omega)
        · rw [upd_same, List.map_append]
          rfl
        · rw [List.length_append]
          exact Nat.succ_le_succ lj
        · intro m hm
          rcases List.mem_append.mp hm with hm | hm
          · exact hj m hm
          · rw [List.mem_singleton.mp hm, gi]
            exact ⟨z, hi⟩
        · intro _ e
          simp at e
      · rw [decide_eq_false z]
        refine iteF ?_
        refine ⟨sT, js, eDT, by omega, hj, ?_⟩
        rintro ⟨y, hy, ypos⟩
        rw [tk] at hy
        rcases List.mem_append.mp hy with hy | hy
        · exact hne ⟨y, hy, ypos⟩
        · rw [List.mem_singleton.mp hy] at ypos
          exact absurd ypos z
    · rintro H5 ⟨s5, js, eD, lj, hj, hne⟩
      rw [List.length_map] at lj hne
      rw [List.take_length] at hne
      have nejs := hne hpos
      have hP5 := hP.same s5
      obtain ⟨npD, ncD⟩ := hP.ne nD
      have eb5 := s5 _ _ eb
      refine ⟨p, c, D, _, rfl, hP5, .inl (.inl eD), by simpa using nejs, by rw [List.length_map]; omega, fun H' hb => .inl (.inl (hb.1 _ _ eD (Ne.symm npD))), fun v H6 hv hP6 b6 => ?_⟩
      obtain ⟨j, hjm, rfl⟩ := List.mem_map.mp hv
      obtain ⟨jpos, jlt⟩ := hj j hjm
      have eb6 := b6.1 _ _ eb5 nbp
      have jtop : fs.getD j 0 ≤ 1000 := by
        rw [List.getD_eq_getElem?_getD, List.getElem?_eq_getElem jlt]
        exact (hfs _ (List.getElem_mem jlt)).2
      refine ⟨_, rfl, _, rfl, _, rfl, b, _, _, V.int (fs.getD j 0), rfl, rfl, .inl (.inl eb6), atI_nat (by rw [List.getElem?_map, List.getD_eq_getElem?_getD, List.getElem?_eq_getElem jlt]; rfl), p, c, _, rfl, hP6, jpos, by omega, fun ix H7 i0 i1 hP7 b7 => ?_⟩
      have b57 : But p H H7 := ((hP.but1 s5).trans b6).trans b7
      have tk7 : TK H H7 := tk_but b57 hP
      refine ⟨_, rfl, _, rfl, _, rfl, ((j : Nat) : Int), rfl, by omega, by omega, fun B nB => ?_⟩
      obtain ⟨npB, ncB⟩ := hP7.ne nB
      refine lc_range (n := Int.toNat ((j : Nat) : Int)) (fun m H8 => But p H7 H8 ∧ Pot H8 p c ∧ ∃ (vs : List V) (ds : List PyData), H8 B = some (.lst vs) ∧ DaAll H8 vs ds ∧ ds.length = m ∧ allB ks ds = true ∧ smL ds = true ∧ ∀ e ∈ ds, nodes e ≤ NB n ∧ e.depth ≤ n + 1) ⟨hP7.but1 (same_upd nB), hP7.same (same_upd nB), [], [], upd_same, .nil, rfl, rfl, rfl, fun _ z => nomatch z⟩ ?_ ?_
      · rintro m H8 hm ⟨b8, hP8, vs, ds, hB8, hda, lds, hall, hsm, hsub⟩
        refine ⟨rfl, ?_⟩
        unfold tYes
        dsimp only
        rw [if_pos rfl]
        have tk8 : TK H H8 := tk7.trans (tk_but b8 hP7)
        refine ⟨_, rfl, _, rfl, _, rfl, ⟨p, c, a, ks, rs, deep, rfl, hdeep, hP8, tk8 _ _ ea, pr.tk tk8, hK, fun v d H9 b9 hP9 hv hT hS hN hD => ?_⟩⟩
        have hB9 := b9.1 _ _ hB8 (Ne.symm npB)
        have lvs := hda.length
        have tk9 := tk_but b9 hP8
        have tkB : TK H9 (upd H9 B (.lst (vs ++ [v]))) := tk_upd hB9
        refine ⟨vs, hB9, ?_, (b8.trans b9).set nB, hP9.upd npB ncB, vs ++ [v], ds ++ [d], upd_same, ?_, ?_, ?_, ?_, ?_⟩
        · exact small1000 (by omega)
        · exact (DaAll.keepL (tk9.trans tkB) ds vs hall hda).app (.cons (Da.keep tkB d v hT hv) .nil)
        · rw [List.length_append, lds]
          rfl
        · rw [allB_app, hall]
          simp [allB, hT]
        · rw [smL_app, hsm]
          simp [smL, hS]
        · intro e he
          rcases List.mem_append.mp he with he | he
          · exact hsub e he
          · rw [List.mem_singleton.mp he]
            exact ⟨hN, hD⟩
      · rintro H8 ⟨b8, hP8, vs, ds, hB8, hda, lds, hall, hsm, hsub⟩
        rw [Int.toNat_natCast] at lds
        refine ⟨B, vs, rfl, .inl ⟨.inl (.inl hB8), fun u nu => ?_⟩⟩
        have su : Same H8 (upd H8 u (.tup vs)) := same_upd nu
        have hu : (upd H8 u (.tup vs)) u = some (.tup vs) := upd_same
        generalize upd H8 u (.tup vs) = H9 at su hu ⊢
        refine ⟨by show 3 ≤ sizeLine; decide, fun t nt => ?_⟩
        have st := same_upd (o := .tup [V.int (j : Nat), V.int ix, V.ref u]) nt
        have s8 := su.trans st
        refine q _ (j : Nat) ix ds _ ((b57.trans b8).same s8) (hP8.same s8) (.tup (.inl upd_same) (.cons (.int _) (.cons (.int _) (.cons (.tup (.inl (st _ _ hu)) (hda.same s8)) .nil)))) ⟨by omega, by omega, i0, by omega, hall, hsm, hsub⟩
end
end My

namespace My
open PySem PySem.Spec PyProof.Rows L2
/-! ### data without lists and dicts -/
mutual
def pur : PyData → Bool
  | .tuple ds => purL ds
  | .list _ | .dict _ => false
  | .none | .bool _ | .int _ | .str _ => true
def purL : List PyData → Bool
  | [] => true
  | d :: r => pur d && purL r
end
mutual
theorem pur_no : ∀ d : PyData, pur d = true → noL d = true ∧ d.hasDict = false
  | .tuple ds, h => by
    simp only [pur] at h
    obtain ⟨a, b⟩ := purL_no ds h
    exact ⟨by simpa only [noL] using a, by simpa only [PyData.hasDict] using b⟩
  | .list _, h => by simp [pur] at h
  | .dict _, h => by simp [pur] at h
  | .none, _ => ⟨by simp only [noL], by simp only [PyData.hasDict]⟩
  | .bool _, _ => ⟨by simp only [noL], by simp only [PyData.hasDict]⟩
  | .int _, _ => ⟨by simp only [noL], by simp only [PyData.hasDict]⟩
  | .str _, _ => ⟨by simp only [noL], by simp only [PyData.hasDict]⟩
theorem purL_no : ∀ ds : List PyData, purL ds = true → noLs ds = true ∧ PyData.hasDictAll ds = false
  | [], _ => ⟨by simp only [noLs], by simp only [PyData.hasDictAll]⟩
  | d :: r, h => by
    simp only [purL, Bool.and_eq_true] at h
    obtain ⟨a, b⟩ := pur_no d h.1
    obtain ⟨a', b'⟩ := purL_no r h.2
    exact ⟨by simp only [noLs, a, a', Bool.and_self], by simp only [PyData.hasDictAll, b, b', Bool.or_self]⟩
end
mutual
theorem tree_pur {ks : List (Str × Int)} : ∀ d : PyData, treeB ks d = true → pur d = true
  | .tuple ds, h => by
    simp only [treeB, Bool.and_eq_true] at h
    simp only [pur]
    exact tree_purT ds h.1 h.2
  | .none, h | .bool _, h | .int _, h | .str _, h | .list _, h | .dict _, h => by simp [treeB] at h
theorem tree_purT {ks : List (Str × Int)} : ∀ ds : List PyData, headB ks ds = true → tailB ks ds = true → purL ds = true
  | [], h, _ => by simp [headB] at h
  | d0 :: r, hh, ht => by
    simp only [tailB] at ht
    have hr := tree_purL r ht
    simp only [purL, hr, Bool.and_true]
    cases d0 with
    | str z => simp only [pur]
    | _ => simp [headB] at hh
theorem tree_purL {ks : List (Str × Int)} : ∀ ds : List PyData, allB ks ds = true → purL ds = true
  | [], _ => by simp only [purL]
  | d0 :: r, h => by
    simp only [allB, Bool.and_eq_true] at h
    simp only [purL, tree_pur d0 h.1, tree_purL r h.2, Bool.and_self]
end
theorem purL_app : ∀ a b : List PyData, purL (a ++ b) = (purL a && purL b)
  | [], b => by simp [purL]
  | d :: r, b => by
    rw [List.cons_append]
    simp only [purL]
    rw [purL_app r b, Bool.and_assoc]
theorem noLs_app : ∀ a b : List PyData, noLs (a ++ b) = (noLs a && noLs b)
  | [], b => by simp [noLs]
  | d :: r, b => by
    rw [List.cons_append]
    simp only [noLs]
    rw [noLs_app r b, Bool.and_assoc]
theorem hasDict_app : ∀ a b : List PyData, PyData.hasDictAll (a ++ b) = (PyData.hasDictAll a || PyData.hasDictAll b)
  | [], b => by simp [PyData.hasDictAll]
  | d :: r, b => by
    rw [List.cons_append]
    simp only [PyData.hasDictAll]
    rw [hasDict_app r b, Bool.or_assoc]
/-- no list, or no dict -/
def one2 (d : PyData) : Prop := noL d = true ∨ d.hasDict = false
theorem one2_pur {d : PyData} (h : pur d = true) : one2 d := .inl (pur_no d h).1
theorem cut_pre (xs : List V) (n : Nat) (h : n ≤ xs.length) : cutV xs none (some (n : Int)) = xs.take n := by
  unfold cutV
  rw [HT.sIx_none, HT.sIx_nat, Nat.sub_zero, Nat.min_eq_left h, List.drop_zero]
theorem cut_post (xs : List V) (n : Nat) (h : n ≤ xs.length) : cutV xs (some (n : Int)) none = xs.drop n := by
  unfold cutV
  rw [HT.sIx_none, HT.sIx_nat, Nat.min_eq_left h, List.take_of_length_le (by rw [List.length_drop]; exact Nat.le_refl _)]
theorem cut_one (xs : List V) : cutV xs (some 1) none = xs.drop 1 := by
  cases xs with
  | nil => rfl
  | cons a r => exact cut_tail _ (Nat.succ_pos _)
/-! ### what is drawn, by its data -/
/-- a part: small, without dicts -/
def G1 (d : PyData) : Prop := smB d = true ∧ d.hasDict = false ∧ nodes d ≤ 60 ∧ d.depth ≤ 4
/-- a thing of the law: small, without dicts, its trees small -/
def GV (d : PyData) : Prop := smB d = true ∧ d.hasDict = false ∧ nodes d ≤ 5000 ∧ d.depth ≤ 8 ∧ SmT d
theorem agg {N M : Nat} : ∀ {ds : List PyData}, (∀ e ∈ ds, smB e = true ∧ e.hasDict = false ∧ nodes e ≤ N ∧ e.depth ≤ M) → smL ds = true ∧ PyData.hasDictAll ds = false ∧ nodesL ds ≤ ds.length * N ∧ PyData.depthAll ds ≤ M
  | [], _ => ⟨by simp [smL], by simp [PyData.hasDictAll], by simp [nodesL], by simp [PyData.depthAll]⟩
  | d :: r, h => by
    obtain ⟨a1, a2, a3, a4⟩ := h d List.mem_cons_self
    obtain ⟨b1, b2, b3, b4⟩ := agg (ds := r) fun e he => h e (List.mem_cons_of_mem _ he)
    refine ⟨?_, ?_, ?_, ?_⟩
    · simp only [smL, a1, b1, Bool.and_self]
    · simp only [PyData.hasDictAll, a2, b2, Bool.or_self]
    · simp only [nodesL]
      rw [List.length_cons, Nat.succ_mul]
      omega
    · simp only [PyData.depthAll]
      omega
/-- a tuple of parts -/
theorem g2_tup {es : List PyData} (h : ∀ e ∈ es, G1 e) (l : es.length ≤ 50) : smB (.tuple es) = true ∧ (PyData.tuple es).hasDict = false ∧ nodes (.tuple es) ≤ 3100 ∧ (PyData.tuple es).depth ≤ 5 := by
  obtain ⟨a, b, c, d⟩ := agg h
  refine ⟨by simpa only [smB] using a, by simpa only [PyData.hasDict] using b, ?_, ?_⟩
  · simp only [nodes]
    omega
  · simp only [PyData.depth]
    omega
theorem g2_lst {es : List PyData} (h : ∀ e ∈ es, G1 e) (l : es.length ≤ 50) : smB (.list es) = true ∧ (PyData.list es).hasDict = false ∧ nodes (.list es) ≤ 3100 ∧ (PyData.list es).depth ≤ 5 := by
  obtain ⟨a, b, c, d⟩ := agg h
  refine ⟨by simpa only [smB] using a, by simpa only [PyData.hasDict] using b, ?_, ?_⟩
  · simp only [nodes]
    omega
  · simp only [PyData.depth]
    omega
theorem g1_int {i : Int} (h : i.natAbs ≤ 5000) : G1 (.int i) := ⟨by simp only [smB]; exact decide_eq_true (Nat.lt_of_le_of_lt h (by decide)), by simp only [PyData.hasDict], by simp [nodes], by simp [PyData.depth]⟩
theorem g1_bl {b : Bool} : G1 (.bool b) := ⟨by simp [smB], by simp only [PyData.hasDict], by simp [nodes], by simp [PyData.depth]⟩
theorem g1_non : G1 .none := ⟨by simp [smB], by simp only [PyData.hasDict], by simp [nodes], by simp [PyData.depth]⟩
theorem g1_nil : G1 (.tuple []) := ⟨by simp [smB, smL], by simp [PyData.hasDict, PyData.hasDictAll], by simp [nodes, nodesL], by simp [PyData.depth, PyData.depthAll]⟩
/-- what stands above a part -/
def G2 (d : PyData) : Prop := smB d = true ∧ d.hasDict = false ∧ nodes d ≤ 3100 ∧ d.depth ≤ 5
theorem G1.up {d : PyData} (h : G1 d) : G2 d := ⟨h.1, h.2.1, by have := h.2.2.1; omega, by have := h.2.2.2; omega⟩
theorem gv_top {ds : List PyData} (h : ∀ e ∈ ds, smB e = true ∧ e.hasDict = false) (n : nodesL ds ≤ 4900) (m : PyData.depthAll ds ≤ 5) (st : SmT (.tuple ds)) : GV (.tuple ds) := by
  have a : smL ds = true := by
    rw [smL_all, List.all_eq_true]
    exact fun e he => (h e he).1
  have b : PyData.hasDictAll ds = false := by
    clear n m st a
    induction ds with
    | nil => simp [PyData.hasDictAll]
    | cons d r ih => simp only [PyData.hasDictAll, (h d List.mem_cons_self).2, ih fun e he => h e (List.mem_cons_of_mem _ he), Bool.or_self]
  refine ⟨by simpa only [smB] using a, by simpa only [PyData.hasDict] using b, ?_, ?_, st⟩
  · simp only [nodes]
    omega
  · simp only [PyData.depth]
    omega
/-- (x, y, a tuple of parts) -/
theorem gv_three {x y : PyData} {es : List PyData} (hx : G1 x) (hy : G1 y) (h : ∀ e ∈ es, G1 e) (l : es.length ≤ 50) : GV (.tuple [x, y, .tuple es]) := by
  obtain ⟨a, b, c, d⟩ := g2_tup h l
  obtain ⟨x1, x2, x3, x4⟩ := hx
  obtain ⟨y1, y2, y3, y4⟩ := hy
  refine gv_top ?_ ?_ ?_ ?_
  · intro e he
    simp only [List.mem_cons, List.not_mem_nil, or_false] at he
    rcases he with rfl | rfl | rfl
    · exact ⟨x1, x2⟩
    · exact ⟨y1, y2⟩
    · exact ⟨a, b⟩
  · simp only [nodesL]
    omega
  · simp only [PyData.depthAll]
    omega
  · intro d0 d1 es' e
    cases e
    intro e he
    obtain ⟨_, _, g, i⟩ := h e he
    omega
/-! ### makers -/
structure RB (L : List Addr) (t : Addr) (ys : List V) (es : List PyData) (vt : V) (dt : PyData) (H : Hp) : Prop where
  dk : Dk L H
  t : Rd H t (.tup ys)
  d : DaAll (Outs L H) ys es
  tr : Da (Outs L H) vt dt
  len : ys.length ≤ 45
theorem RB.same {L : List Addr} {t : Addr} {ys : List V} {es : List PyData} {vt : V} {dt : PyData} {H H' : Hp} (b : RB L t ys es vt dt H) (s : Same H H') : RB L t ys es vt dt H' := ⟨b.dk.same s, rd_same b.t s, b.d.same (outs_same s), b.tr.same (outs_same s), b.len⟩
/-- a list laid on is out of all that stood -/
theorem outs_new {L : List Addr} {H : Hp} {D : Addr} {o : HO} (n : H D = none) : Same (Outs L H) (Outs (D :: L) (upd H D o)) := fun a x e => by
  obtain ⟨h1, h2⟩ := outs_some e
  have ne : a ≠ D := ne_of_none h2 n
  rw [outs_ne (by simp [ne, h1]), upd_ne ne]
  exact h2
theorem outs_less {L : List Addr} {H : Hp} {D : Addr} : Same (Outs (D :: L) H) (Outs L H) := fun a x e => by
  obtain ⟨h1, h2⟩ := outs_some e
  rw [outs_ne fun z => h1 (List.mem_cons_of_mem _ z)]
  exact h2
theorem RB.new {L : List Addr} {t : Addr} {ys : List V} {es : List PyData} {vt : V} {dt : PyData} {H : Hp} {D : Addr} {xs : List V} (b : RB L t ys es vt dt H) (n : H D = none) : RB (D :: L) t ys es vt dt (upd H D (.lst xs)) := by
  refine ⟨fun c hc => ?_, rd_same b.t (same_upd n), b.d.same (outs_new n), b.tr.same (outs_new n), b.len⟩
  rcases List.mem_cons.mp hc with e | e
  · exact ⟨xs, by rw [e]; exact upd_same⟩
  · exact (b.dk.same (same_upd n)) c e
theorem dk_ne {L : List Addr} {H : Hp} {t : Addr} (b : Dk L H) (n : H t = none) : t ∉ L := fun e => by
  obtain ⟨xs, g⟩ := b t e
  rw [g] at n
  cases n
section
variable {L : List Addr} {t : Addr} {ys : List V} {es : List PyData} {vt : V} {dt : PyData} {σ : L2.St}
def PM (L : List Addr) (t : Addr) (ys : List V) (es : List PyData) (vt : V) (dt : PyData) (te : TE) (σ : L2.St) (d : PyData) : Prop := ∀ (H : Hp) (Q : VK), RB L t ys es vt dt H → (∀ v H', Same H H' → Da (Outs L H') v d → Q v H') → te σ H Q
def PMs (L : List Addr) (t : Addr) (ys : List V) (es : List PyData) (vt : V) (dt : PyData) (ta : TA) (σ : L2.St) (ds : List PyData) : Prop := ∀ (H : Hp) (Q : List V → Hp → Prop), RB L t ys es vt dt H → (∀ vs H', Same H H' → DaAll (Outs L H') vs ds → Q vs H') → ta σ H Q
/-- makes a tuple of these -/
def PT (L : List Addr) (t : Addr) (ys : List V) (es : List PyData) (vt : V) (dt : PyData) (te : TE) (σ : L2.St) (ds : List PyData) : Prop := ∀ (H : Hp) (Q : VK), RB L t ys es vt dt H → (∀ a xs H', Same H H' → Rd H' a (.tup xs) → DaAll (Outs L H') xs ds → Q (.ref a) H') → te σ H Q
theorem pms_nil : PMs L t ys es vt dt tNil σ [] := fun H Q b q => q [] H (same_rfl H) .nil
theorem pms_cons {te : TE} {ta : TA} {d : PyData} {ds : List PyData} (h : PM L t ys es vt dt te σ d) (r : PMs L t ys es vt dt ta σ ds) : PMs L t ys es vt dt (tCons te ta) σ (d :: ds) :=
  fun H Q b q => h H _ b fun v H1 s1 g1 => r H1 _ (b.same s1) fun vs H2 s2 g2 => q (v :: vs) H2 (s1.trans s2) (.cons (g1.same (outs_same s2)) g2)
theorem pt_pm {te : TE} {ds : List PyData} (h : PT L t ys es vt dt te σ ds) : PM L t ys es vt dt te σ (.tuple ds) := fun H Q b q => h H Q b fun a xs H' s r g => q _ H' s (.tup (rd_outs (b.dk.same s) r) g)
theorem pt_tup {ta : TA} {ds : List PyData} (h : PMs L t ys es vt dt ta σ ds) (l : ds.length ≤ 100) : PT L t ys es vt dt (tTup ta) σ ds :=
  fun H Q b q => h H _ b fun vs H1 s1 g1 => ⟨fits_few (by have := g1.length; omega), fun p np => q p vs _ (s1.trans (same_upd np)) (.inl upd_same) (g1.same (outs_same (same_upd np)))⟩
theorem pm_tup {ta : TA} {ds : List PyData} (h : PMs L t ys es vt dt ta σ ds) (l : ds.length ≤ 100) : PM L t ys es vt dt (tTup ta) σ (.tuple ds) := pt_pm (pt_tup h l)
theorem pm_lst {ta : TA} {ds : List PyData} (h : PMs L t ys es vt dt ta σ ds) (l : ds.length ≤ 100) : PM L t ys es vt dt (tLst ta) σ (.list ds) :=
  fun H Q b q => h H _ b fun vs H1 s1 g1 => ⟨fits_few (by have := g1.length; omega), fun p np => q _ _ (s1.trans (same_upd np)) (.lst (by rw [outs_ne (dk_ne (b.dk.same s1) np), upd_same]) (g1.same (outs_same (same_upd np))))⟩
theorem pm_trees {n : Nat} (h : σ[n]? = some (some (.ref t))) : PT L t ys es vt dt (tVar n) σ es := fun H Q b q => ⟨_, h, q t ys H (same_rfl H) b.t b.d⟩
theorem pm_tree {n : Nat} (h : σ[n]? = some (some vt)) : PM L t ys es vt dt (tVar n) σ dt := fun H Q b q => ⟨_, h, q vt H (same_rfl H) b.tr⟩
theorem pm_int {n : Nat} {i : Int} (h : σ[n]? = some (some (.int i))) : PM L t ys es vt dt (tVar n) σ (.int i) := fun H Q b q => ⟨_, h, q _ H (same_rfl H) (.int i)⟩
theorem pm_cint {i : Int} : PM L t ys es vt dt (tC (.int i)) σ (.int i) := fun H Q b q => q _ H (same_rfl H) (.int i)
theorem pm_cbl {i : Bool} : PM L t ys es vt dt (tC (.bl i)) σ (.bool i) := fun H Q b q => q _ H (same_rfl H) (.bl i)
theorem pm_cstr {z : Str} : PM L t ys es vt dt (tC (.str z)) σ (.str z) := fun H Q b q => q _ H (same_rfl H) (.str z)
theorem pm_cnon : PM L t ys es vt dt (tC .non) σ .none := fun H Q b q => q _ H (same_rfl H) .non
theorem pt_cat {te tf : TE} {d1 d2 : List PyData} (h1 : PT L t ys es vt dt te σ d1) (h2 : PT L t ys es vt dt tf σ d2) (l : d1.length + d2.length ≤ 100) : PT L t ys es vt dt (tOp rCatX te tf) σ (d1 ++ d2) :=
  fun H Q b q => h1 H _ b fun a xs H1 s1 r1 g1 => h2 H1 _ (b.same s1) fun a2 xs2 H2 s2 r2 g2 => ⟨a, a2, xs, xs2, rfl, rfl, rd_same r1 s2, r2, fits_few (by have := g1.length; have := g2.length; omega), fun x H3 s3 r3 => q x _ H3 ((s1.trans s2).trans s3) r3 ((g1.same (outs_same (s2.trans s3))).app (g2.same (outs_same s3)))⟩
theorem pt_cut {te : TE} {tl th : TO} {lo hi : Option Int} {d1 d2 : List PyData} (h1 : PT L t ys es vt dt te σ d1) (hl : ∀ H Q, Q lo H → tl σ H Q) (hh : ∀ H Q, Q hi H → th σ H Q) (e : ∀ (H : Hp) (xs : List V), DaAll H xs d1 → DaAll H (cutV xs lo hi) d2) : PT L t ys es vt dt (tSl rSlX te tl th) σ d2 :=
  fun H Q b q => h1 H _ b fun a xs H1 s1 r1 g1 => hl _ _ (hh _ _ ⟨a, xs, rfl, r1, fun x H2 s2 r2 => q x _ H2 (s1.trans s2) r2 (e _ _ (g1.same (outs_same s2)))⟩)
/-- things of the law, away from these lists -/
def Al (L : List Addr) (H : Hp) (vs : List V) : Prop := ∀ v ∈ vs, ∃ d, Da (Outs L H) v d ∧ GV d
theorem Al.same {H H' : Hp} {vs : List V} (h : Al L H vs) (s : Same H H') : Al L H' vs := fun v m => (h v m).imp fun d a => ⟨a.1.same (outs_same s), a.2⟩
theorem Al.new {H : Hp} {vs : List V} {D : Addr} {o : HO} (h : Al L H vs) (n : H D = none) : Al (D :: L) (upd H D o) vs := fun v m => (h v m).imp fun d a => ⟨a.1.same (outs_new n), a.2⟩
theorem Al.less {H : Hp} {vs : List V} {D : Addr} (h : Al (D :: L) H vs) : Al L H vs := fun v m => (h v m).imp fun d a => ⟨a.1.same outs_less, a.2⟩
theorem Al.app {H : Hp} {vs ws : List V} (h : Al L H vs) (g : Al L H ws) : Al L H (vs ++ ws) := fun v m => (List.mem_append.mp m).elim (h v) (g v)
theorem Al.put {H : Hp} {vs : List V} {D : Addr} {o : HO} (m : D ∈ L) (h : Al L H vs) : Al L (upd H D o) vs := fun v hv => by
  obtain ⟨d, a, b⟩ := h v hv
  exact ⟨d, by rw [outs_upd m]; exact a, b⟩
theorem Al.but {H H' : Hp} {vs : List V} {p : Addr} (m : p ∈ L) (h : Al L H vs) (b : But p H H') : Al L H' vs := fun v hv => by
  obtain ⟨d, a, g⟩ := h v hv
  exact ⟨d, a.same (outs_but m b), g⟩
theorem al_of {H : Hp} : ∀ {vs : List V} {ds : List PyData}, DaAll (Outs L H) vs ds → (∀ d ∈ ds, GV d) → Al L H vs
  | _, _, .nil, _ => fun _ z => nomatch z
  | _, _, .cons h t, g => fun v m => by
    rcases List.mem_cons.mp m with e | e
    · subst e
      exact ⟨_, h, g _ List.mem_cons_self⟩
    · exact al_of t (fun d hd => g d (List.mem_cons_of_mem _ hd)) v e
theorem RB.put {H : Hp} {D : Addr} {xs : List V} (m : D ∈ L) (e : ∃ zs, H D = some (.lst zs)) (b : RB L t ys es vt dt H) : RB L t ys es vt dt (upd H D (.lst xs)) := by
  obtain ⟨zs, e⟩ := e
  refine ⟨fun c hc => ?_, ?_, by rw [outs_upd m]; exact b.d, by rw [outs_upd m]; exact b.tr, b.len⟩
  · by_cases z : c = D
    · exact ⟨xs, by rw [z]; exact upd_same⟩
    · obtain ⟨w, g⟩ := b.dk c hc
      exact ⟨w, by rw [upd_ne z]; exact g⟩
  · rcases b.t with g | ⟨o, g⟩
    · exact .inl (by rw [upd_ne (fun z => by rw [z, e] at g; cases g)]; exact g)
    · exact .inr ⟨o, by rw [upd_ne (fun z => by rw [z, e] at g; cases g)]; exact g⟩
theorem lst_go {ta : TA} {ds : List PyData} {H : Hp} {Q : VK} (h : PMs L t ys es vt dt ta σ ds) (l : ds.length ≤ 100) (b : RB L t ys es vt dt H) (q : ∀ D vs H1, Same H H1 → DaAll (Outs L H1) vs ds → H1 D = none → Q (.ref D) (upd H1 D (.lst vs))) : tLst ta σ H Q :=
  h H _ b fun vs H1 s1 g1 => ⟨fits_few (by have := g1.length; omega), fun D nD => q D vs H1 s1 g1 nD⟩
theorem for_lst {K : PySem.W.Frag} {ta : TA} {ds : List PyData} {H : Hp} {R : It → Hp → Prop} (h : PMs L t ys es vt dt ta σ ds) (l : ds.length ≤ 100) (b : RB L t ys es vt dt H) (q : ∀ D vs H1, Same H H1 → DaAll (Outs L H1) vs ds → H1 D = none → R (Itl K D) (upd H1 D (.lst vs))) : iList K (tLst ta) σ H R :=
  lst_go h l b fun D vs H1 s g n => ⟨D, rfl, ⟨vs, .inl (.inl upd_same)⟩, q D vs H1 s g n⟩
theorem pm_go {te : TE} {d : PyData} {H : Hp} {Q : VK} (h : PM L t ys es vt dt te σ d) (b : RB L t ys es vt dt H) (q : ∀ v H1, Same H H1 → Da (Outs L H1) v d → Q v H1) : te σ H Q := h H Q b q
theorem pm_list {n : Nat} {r : List V → Hp → VK → Prop} (h : σ[n]? = some (some (.ref t))) (hr : ∀ a xs H Q, Rd H a (.tup xs) → (∀ l, H l = none → Q (.ref l) (upd H l (.lst xs))) → r [.ref a] H Q) : PM L t ys es vt dt (tCB r (tCons (tVar n) tNil)) σ (.list es) :=
  fun H Q b q => ⟨_, h, hr t ys H Q b.t fun l nl => q _ _ (same_upd nl) (.lst (by rw [outs_ne (dk_ne b.dk nl), upd_same]) (b.d.same (outs_same (same_upd nl))))⟩
theorem pm_op {n : Nat} {i j : Int} {f : Int → Int → V} {d : PyData} (h : σ[n]? = some (some (.int i))) (hd : ∀ H, Da H (f i j) d) : PM L t ys es vt dt (tOp (rI0 f) (tVar n) (tC (.int j))) σ d := fun H Q b q => ⟨_, h, _, _, rfl, rfl, q _ H (same_rfl H) (hd _)⟩
theorem pm_neg {j : Int} : PM L t ys es vt dt (tUn (rU fun i => .int (-i)) (tC (.int j))) σ (.int (-j)) := fun H Q b q => ⟨_, rfl, q _ H (same_rfl H) (.int _)⟩
theorem pm_eq {n : Nat} {i j : Int} (h : σ[n]? = some (some (.int i))) : PM L t ys es vt dt (tOp rEq (tVar n) (tC (.int j))) σ (.bool (decide (i = j))) := fun H Q b q => ⟨_, h, rfl, q _ H (same_rfl H) (by
  have e : decide (V.int i = V.int j) = decide (i = j) := by
    refine decide_eq_decide.mpr ⟨fun z => by cases z; rfl, fun z => by rw [z]⟩
  rw [e]
  exact .bl _)⟩
theorem pt_rev {n : Nat} (K : PySem.W.Frag) (h : σ[n]? = some (some (.ref t))) : PT L t ys es vt dt (tRevT K (tVar n)) σ es.reverse := fun H Q b q => ⟨_, h, t, ys, rfl, .inl b.t, fun p np => q p _ _ (same_upd np) (.inl upd_same) ((b.d.same (outs_same (same_upd np))).rev)⟩
end
end My

namespace My
open PySem PySem.Spec PyProof.Rows L2
abbrev s_law_spoilt : Stmt := topS 44
theorem sc_law_spoilt : FnScope ["deck", "kind", "record", "k", "index", "trees", "tree", "some", "place", "odd"] ["deck", "kind", "record"] (defScope s_law_spoilt) := ⟨rfl, rfl, rfl, by decide +kernel, rfl, by decide +kernel, by decide +kernel⟩
structure TxtX (mg : Str → Option Value) : Prop where
  n_list : mg "list" = none
structure spSpoilt (vs : List V) (H : Hp) (Q : VK) (E : XK) : Prop where
  ex : ∃ (Ls : List Addr) (p c a : Addr) (ks : List (Str × Int)) (rs : List Addr) (x : V) (k i : Int) (es : List PyData), vs = [.ref p, .ref a, x] ∧ p ∈ Ls ∧ Dk Ls H ∧ Pot H p c ∧ Rd H a (.tup (rs.map V.ref)) ∧ Prs H rs ks ∧ Rk ks ∧ Da (Outs Ls H) x (.tuple [.int k, .int i, .tuple es]) ∧ RecH ks 2 k i es ∧
    ∀ v d H', But p H H' → Pot H' p c → Da (Outs Ls H') v d → GV d → Q v H'
theorem tree_g1 {ks : List (Str × Int)} {d : PyData} (h : treeB ks d = true) (s : smB d = true) (n : nodes d ≤ 42) (m : d.depth ≤ 3) : G1 d := ⟨s, (pur_no d (tree_pur d h)).2, by omega, by omega⟩
theorem allB_at {ks : List (Str × Int)} : ∀ {ds : List PyData} {i : Nat} {d : PyData}, allB ks ds = true → ds[i]? = some d → treeB ks d = true
  | [], _, _, _, e => by cases e
  | d0 :: r, 0, _, h, e => by
    cases e
    simp only [allB, Bool.and_eq_true] at h
    exact h.1
  | d0 :: r, i + 1, _, h, e => by
    simp only [allB, Bool.and_eq_true] at h
    exact allB_at h.2 (i := i) e
theorem rec_g1 {ks : List (Str × Int)} {k i : Int} {es : List PyData} (h : RecH ks 2 k i es) : ∀ e ∈ es, G1 e := by
  intro e he
  obtain ⟨j, hj⟩ := List.getElem?_of_mem he
  obtain ⟨a, b⟩ := h.sub e he
  have s := h.sm
  rw [smL_all, List.all_eq_true] at s
  exact tree_g1 (allB_at h.all hj) (s e he) a b
/-- the things of the law -/
theorem gv_3 {x y : PyData} {es : List PyData} (hx : G1 x) (hy : G1 y) (h : ∀ e ∈ es, G1 e) (l : es.length ≤ 50) : GV (.tuple [x, y, .tuple es]) := gv_three hx hy h l
theorem gv_2 {x y : PyData} (hx : G1 x) (hy : G1 y) : GV (.tuple [x, y]) := by
  obtain ⟨x1, x2, x3, x4⟩ := hx
  obtain ⟨y1, y2, y3, y4⟩ := hy
  refine gv_top ?_ ?_ ?_ (fun _ _ _ e => by cases e)
  · intro e he
    simp only [List.mem_cons, List.not_mem_nil, or_false] at he
    rcases he with rfl | rfl
    · exact ⟨x1, x2⟩
    · exact ⟨y1, y2⟩
  · simp only [nodesL]
    omega
  · simp only [PyData.depthAll]
    omega
theorem gv_n {x y z : PyData} (hx : G1 x) (hy : G1 y) (hz : G2 z) (no : dT z = false) : GV (.tuple [x, y, z]) := by
  obtain ⟨x1, x2, x3, x4⟩ := hx
  obtain ⟨y1, y2, y3, y4⟩ := hy
  obtain ⟨z1, z2, z3, z4⟩ := hz
  refine gv_top ?_ ?_ ?_ (fun _ _ _ e => by cases e; cases no)
  · intro e he
    simp only [List.mem_cons, List.not_mem_nil, or_false] at he
    rcases he with rfl | rfl | rfl
    · exact ⟨x1, x2⟩
    · exact ⟨y1, y2⟩
    · exact ⟨z1, z2⟩
  · simp only [nodesL]
    omega
  · simp only [PyData.depthAll]
    omega
theorem gv_4 {x y z w : PyData} (hx : G1 x) (hy : G1 y) (hz : G2 z) (hw : G1 w) : GV (.tuple [x, y, z, w]) := by
  obtain ⟨x1, x2, x3, x4⟩ := hx
  obtain ⟨y1, y2, y3, y4⟩ := hy
  obtain ⟨z1, z2, z3, z4⟩ := hz
  obtain ⟨w1, w2, w3, w4⟩ := hw
  refine gv_top ?_ ?_ ?_ (fun _ _ _ e => by cases e)
  · intro e he
    simp only [List.mem_cons, List.not_mem_nil, or_false] at he
    rcases he with rfl | rfl | rfl | rfl
    · exact ⟨x1, x2⟩
    · exact ⟨y1, y2⟩
    · exact ⟨z1, z2⟩
    · exact ⟨w1, w2⟩
  · simp only [nodesL]
    omega
  · simp only [PyData.depthAll]
    omega
theorem gv_l3 {x y z : PyData} (hx : G1 x) (hy : G1 y) (hz : G2 z) : GV (.list [x, y, z]) := by
  obtain ⟨x1, x2, x3, x4⟩ := hx
  obtain ⟨y1, y2, y3, y4⟩ := hy
  obtain ⟨z1, z2, z3, z4⟩ := hz
  refine ⟨?_, ?_, ?_, ?_, fun _ _ _ e => by cases e⟩
  · simp only [smB, smL, x1, y1, z1, Bool.and_self]
  · simp only [PyData.hasDict, PyData.hasDictAll, x2, y2, z2, Bool.or_self]
  · simp only [nodes, nodesL]
    omega
  · simp only [PyData.depth, PyData.depthAll]
    omega
theorem g1_nodes : ∀ {ds : List PyData} {e : PyData}, e ∈ ds → nodes e ≤ nodesL ds ∧ e.depth ≤ PyData.depthAll ds
  | d :: r, e, h => by
    simp only [nodesL, PyData.depthAll]
    rcases List.mem_cons.mp h with z | z
    · subst z
      omega
    · have := g1_nodes z
      omega
theorem gv_es {es : List PyData} (h : ∀ e ∈ es, G1 e) (l : es.length ≤ 50) : GV (.tuple es) := by
  obtain ⟨a, b, c, d⟩ := g2_tup h l
  refine ⟨a, b, by omega, by omega, ?_⟩
  intro d0 d1 es' e
  cases e
  intro e he
  obtain ⟨_, _, n, m⟩ := h (.tuple es') (by simp)
  obtain ⟨g, i⟩ := g1_nodes he
  simp only [nodes] at n
  simp only [PyData.depth] at m
  omega
theorem RB.but {L : List Addr} {t p c : Addr} {ys : List V} {es : List PyData} {vt : V} {dt : PyData} {H H' : Hp} (r : RB L t ys es vt dt H) (b : But p H H') (hP : Pot H p c) (hP' : Pot H' p c) (m : p ∈ L) : RB L t ys es vt dt H' := ⟨r.dk.but b hP', Rd.but b hP r.t, r.d.same (outs_but m b), r.tr.same (outs_but m b), r.len⟩
section
variable {P : Program} {w : World} {K : PySem.W.Frag} {mg : Str → Option Value} {base : Heap}
theorem ok_spoilt {f fb fp ft : Addr} {fd fdb fdp fdt : FuncData} {k : Nat} (F : Fun K "_law_spoilt" "_law_spoilt" s_law_spoilt f fd) (T : TxtX mg) (F__law_below : Fun K "_law_below" "_law_below" s_law_below fb fdb) (b__law_below : Binds K fdb ["deck", "bound"] []) (g__law_below : mg "_law_below" = some (.ref fb))
    (G__law_below : FnOk P w K mg base CX0 2 fb fdb ["deck", "bound"] spBelow) (F__law_pick : Fun K "_law_pick" "_law_pick" s_law_pick fp fdp) (b__law_pick : Binds K fdp ["deck", "some"] []) (g__law_pick : mg "_law_pick" = some (.ref fp))
    (G__law_pick : FnOk P w K mg base CX0 3 fp fdp ["deck", "some"] (spPick K)) (F__law_some_tree : Fun K "_law_some_tree" "_law_some_tree" s_law_some_tree ft fdt) (b__law_some_tree : Binds K fdt ["deck", "kind", "deep"] []) (g__law_some_tree : mg "_law_some_tree" = some (.ref ft))
    (G__law_some_tree : FnOk P w K mg base CX0 5 ft fdt ["deck", "kind", "deep"] (spSomeTree 1)) : FnOk P w K mg base CX0 (k + 6) f fd ["deck", "kind", "record"] spSpoilt := by
  refine F.ok sc_law_spoilt (fun vs H Q E h => ?_) (fun cdv A outer s H vs Q E hr h => ?_)
  · obtain ⟨Ls, p, c, a, ks, rs, x, k, i, es, rfl, _⟩ := h
    rfl
  · obtain ⟨Ls, p, c, a, ks, rs, x, kk, ii, es, rfl, pL, dk, hP, ea, pr, hK, hx, hR, q⟩ := h
    refine ⟨_, (pss_cons (ps_asg (pv 2) (pg_tup rfl (pgs_cons (pg_name (i := 3) sc_law_spoilt.nd rfl (.inl rfl)) (pgs_cons (pg_name (i := 4) sc_law_spoilt.nd rfl (.inl rfl)) (pgs_cons (pg_name (i := 5) sc_law_spoilt.nd rfl (.inl rfl)) pgs_nil)))))
  (pss_cons (ps_set (i := 6) sc_law_spoilt.nd rfl (.inl rfl) (pe_call G__law_some_tree (hr.mono (by omega)) (by rfl) g__law_some_tree F__law_some_tree.kp b__law_some_tree .nil pass0 (pa_cons (pv 0) (pa_cons (pv 1) (pa_cons pe_int pa_nil)))))
  (pss_cons (ps_set (i := 7) sc_law_spoilt.nd rfl (.inl rfl) (pe_lst (pa_cons (pe_tup (pa_cons (pe_op op_add (pv 3) pe_int) (pa_cons (pv 4) (pa_cons (pv 5) pa_nil)))) (pa_cons (pe_tup (pa_cons (pe_op op_sub (pv 3) pe_int) (pa_cons (pv 4) (pa_cons (pv 5) pa_nil)))) (pa_cons (pe_tup (pa_cons (pv 3) (pa_cons (pe_op op_add (pv 4) pe_int) (pa_cons (pv 5) pa_nil)))) (pa_cons (pe_tup (pa_cons (pv 3) (pa_cons (pe_un un_neg pe_int) (pa_cons (pv 5) pa_nil)))) (pa_cons (pe_tup (pa_cons (pv 3) (pa_cons pe_bl (pa_cons (pv 5) pa_nil)))) pa_nil)))))))
  (pss_cons (ps_set (i := 7) sc_law_spoilt.nd rfl (.inl rfl) (pe_op op_cat (pv 7) (pe_lst (pa_cons (pe_tup (pa_cons (pe_op op_add (pv 3) pe_int) (pa_cons (pv 4) (pa_cons (pe_op op_catX (pv 5) (pe_tup (pa_cons (pv 6) pa_nil))) pa_nil)))) (pa_cons (pe_tup (pa_cons (pv 3) (pa_cons (pv 4) (pa_cons (pe_op op_catX (pv 5) (pe_tup (pa_cons (pv 6) pa_nil))) pa_nil)))) (pa_cons (pe_tup (pa_cons (pv 3) (pa_cons (pv 4) (pa_cons (pe_slice sl_X (pv 5) (po_some pe_int) po_none) pa_nil)))) pa_nil))))))
  (pss_cons (ps_expr (pe_bm PySem.F.plainAttrs_list PySem.F.slot_list_append PySem.F.type_list_append mt_append (pv 7) (pa_cons (pe_tup (pa_cons (pv 3) (pa_cons (pv 4) (pa_cons (pe_callTy call_list_of (by rfl) T.n_list (by decide +kernel) (pa_cons (pv 5) pa_nil)) pa_nil)))) pa_nil)))
  (pss_cons (ps_set (i := 7) sc_law_spoilt.nd rfl (.inl rfl) (pe_op op_cat (pv 7) (pe_lst (pa_cons (pe_tup (pa_cons (pe_cmpR op_eq (pv 3) pe_int (nomark _)) (pa_cons (pv 4) (pa_cons (pv 5) pa_nil)))) (pa_cons (pe_tup (pa_cons (pv 3) (pa_cons (pv 4) pa_nil))) (pa_cons (pe_tup (pa_cons (pv 3) (pa_cons (pv 4) (pa_cons (pv 5) (pa_cons (pe_tup pa_nil) pa_nil))))) (pa_cons (pe_lst (pa_cons (pv 3) (pa_cons (pv 4) (pa_cons (pv 5) pa_nil)))) (pa_cons (pe_tup (pa_cons (pv 3) (pa_cons (pv 4) (pa_cons pe_non pa_nil)))) pa_nil))))))))
  (pss_cons (ps_set (i := 7) sc_law_spoilt.nd rfl (.inl rfl) (pe_op op_cat (pv 7) (pe_lst (pa_cons (pe_tup (pa_cons (pv 3) (pa_cons pe_non (pa_cons (pv 5) pa_nil)))) (pa_cons (pe_tup (pa_cons pe_str (pa_cons (pv 4) (pa_cons (pv 5) pa_nil)))) (pa_cons (pe_tup (pa_cons (pe_op op_sub (pv 3) pe_int) (pa_cons (pv 4) (pa_cons (pe_slice sl_X (pv 5) (po_some pe_int) po_none) pa_nil)))) (pa_cons (pe_tup (pa_cons (pv 3) (pa_cons (pv 4) (pa_cons (pe_revT (pv 5)) pa_nil)))) (pa_cons (pv 5) pa_nil))))))))
  (C8.pss_cut (ps_if (pt_cmpR op_gt (pv 3) pe_int (nomark _))
   (pss_cons (ps_set (i := 8) sc_law_spoilt.nd rfl (.inl rfl) (pe_call G__law_below (hr.mono (by omega)) (by rfl) g__law_below F__law_below.kp b__law_below .nil pass0 (pa_cons (pv 0) (pa_cons (pv 3) pa_nil))))
  (pss_one (ps_for PassesOwn.never rfl (pi_list (pe_lst (pa_cons pe_non (pa_cons pe_str (pa_cons (pe_tup pa_nil) (pa_cons (pe_tup (pa_cons (pv 6) pa_nil)) (pa_cons (pe_tup (pa_cons pe_str pa_nil)) (pa_cons (pe_lst (pa_cons (pv 6) pa_nil)) pa_nil)))))))) (pg_name (i := 9) sc_law_spoilt.nd rfl (.inl rfl))
   (pss_one (ps_expr (pe_bm PySem.F.plainAttrs_list PySem.F.slot_list_append PySem.F.type_list_append mt_append (pv 7) (pa_cons (pe_tup (pa_cons (pv 3) (pa_cons (pv 4) (pa_cons (pe_op op_catX (pe_op op_catX (pe_slice sl_X (pv 5) po_none (po_some (pv 8))) (pe_tup (pa_cons (pv 9) pa_nil))) (pe_slice sl_X (pv 5) (po_some (pe_op op_add (pv 8) pe_int)) po_none)) pa_nil)))) pa_nil)))))))
   pss_nil)
  (pss_one (ps_ret (pe_call G__law_pick (hr.mono (by omega)) (by rfl) g__law_pick F__law_pick.kp b__law_pick .nil pass0 (pa_cons (pv 0) (pa_cons (pv 7) pa_nil))))))))))))), ?_⟩
    clear G__law_below G__law_pick G__law_some_tree
    have ge := rec_g1 hR
    have fewE := hR.few
    have i0 := hR.i0
    have i1 := hR.i1
    have lenk := hR.len
    have gk : ∀ z : Int, z.natAbs ≤ 5000 → G1 (.int z) := fun z hz => g1_int hz
    cases hx with
    | @tup b xs _ e h =>
      obtain ⟨v0, v1, v2, _, _, _, rfl, e3, h0, h1, h2⟩ := three h (by rw [h.length]; rfl)
      cases e3
      cases h0
      cases h1
      cases h2 with
      | @tup t ys _ e2 hys =>
        have lys := hys.length
        refine ⟨_, rfl, b, _, rfl, .inl (rd_same e outs_sub), rfl, _, _, rfl, _, _, rfl, _, _, rfl, rfl, ?_⟩
        refine ⟨_, rfl, _, rfl, ⟨p, c, a, ks, rs, 1, rfl, by decide, hP, ea, pr, hK, fun vt dt H1 b1 hP1 hvt hT hS hN hD => ?_⟩⟩
        have dk1 := dk.but b1 hP1
        have rb : RB Ls t ys es vt dt H1 := ⟨dk1, Rd.but b1 hP (rd_same e2 outs_sub), hys.same (outs_but pL b1), Da.keep (fun a xs e => rd_outs dk1 e) dt vt hT hvt, by omega⟩
        have nt : nodes dt ≤ 10 := Nat.le_trans hN (by decide)
        have dpt : dt.depth ≤ 2 := hD
        have gt : G1 dt := tree_g1 hT hS (Nat.le_trans hN (by decide)) (by omega)
        have get : ∀ e ∈ es ++ [dt], G1 e := fun e he => by
          rcases List.mem_append.mp he with he | he
          · exact ge e he
          · rw [List.mem_singleton.mp he]
            exact gt
        have ged : ∀ e ∈ es.drop 1, G1 e := fun e he => ge e (List.mem_of_mem_drop he)
        have let1 : (es ++ [dt]).length ≤ 50 := by rw [List.length_append, List.length_singleton]; omega
        have led1 : (es.drop 1).length ≤ 50 := by rw [List.length_drop]; omega
        clear hvt hT hS hN hD h e dk
        -- the first five
        dsimp only [gName, tSeq, tAsg]
        refine lst_go (ds := [.tuple [.int (kk + 1), .int ii, .tuple es], .tuple [.int (kk - 1), .int ii, .tuple es], .tuple [.int kk, .int (ii + 1), .tuple es], .tuple [.int kk, .int (-1), .tuple es], .tuple [.int kk, .bool true, .tuple es]]) ?_ (by show 5 ≤ 100; decide) rb fun D1 vs1 H2 s2 g2 n2 => ?_
        · exact pms_cons (pm_tup (pms_cons (pm_op rfl fun _ => .int _) (pms_cons (pm_int rfl) (pms_cons (pt_pm (pm_trees rfl)) pms_nil))) (by show 3 ≤ 100; decide)) (pms_cons (pm_tup (pms_cons (pm_op rfl fun _ => .int _) (pms_cons (pm_int rfl) (pms_cons (pt_pm (pm_trees rfl)) pms_nil))) (by show 3 ≤ 100; decide)) (pms_cons (pm_tup (pms_cons (pm_int rfl) (pms_cons (pm_op rfl fun _ => .int _) (pms_cons (pt_pm (pm_trees rfl)) pms_nil))) (by show 3 ≤ 100; decide)) (pms_cons (pm_tup (pms_cons (pm_int rfl) (pms_cons pm_neg (pms_cons (pt_pm (pm_trees rfl)) pms_nil))) (by show 3 ≤ 100; decide)) (pms_cons (pm_tup (pms_cons (pm_int rfl) (pms_cons pm_cbl (pms_cons (pt_pm (pm_trees rfl)) pms_nil))) (by show 3 ≤ 100; decide)) pms_nil))))
        have A1 : Al Ls H2 vs1 := al_of g2 (by
          intro d hd
          simp only [List.mem_cons, List.not_mem_nil, or_false] at hd
          rcases hd with rfl | rfl | rfl | rfl | rfl
          · exact gv_3 (gk _ (by omega)) (gk _ (by omega)) ge (by omega)
          · exact gv_3 (gk _ (by omega)) (gk _ (by omega)) ge (by omega)
          · exact gv_3 (gk _ (by omega)) (gk _ (by omega)) ge (by omega)
          · exact gv_3 (gk _ (by omega)) (gk _ (by omega)) ge (by omega)
          · exact gv_3 (gk _ (by omega)) g1_bl ge (by omega))
        have l1 : vs1.length = 5 := g2.length
        have eD1 : (upd H2 D1 (.lst vs1)) D1 = some (.lst vs1) := upd_same
        have s3 := same_upd (o := .lst vs1) n2
        generalize upd H2 D1 (.lst vs1) = H3 at eD1 s3 ⊢
        have s13 := s2.trans s3
        have rb3 := rb.same s13
        replace A1 := A1.same s3
        clear g2 n2 s2 s3
        -- three more
        refine ⟨_, rfl, lst_go (ds := [.tuple [.int (kk + 1), .int ii, .tuple (es ++ [dt])], .tuple [.int kk, .int ii, .tuple (es ++ [dt])], .tuple [.int kk, .int ii, .tuple (es.drop 1)]]) ?_ (by show 3 ≤ 100; decide) rb3 fun D2 vs2 H4 s4 g4 n4 => ?_⟩
        · exact (pms_cons (pm_tup (pms_cons (pm_op rfl fun _ => .int _) (pms_cons (pm_int rfl) (pms_cons (pt_pm (pt_cat (pm_trees rfl) (pt_tup (pms_cons (pm_tree rfl) pms_nil) (by show 1 ≤ 100; decide)) (by show es.length + 1 ≤ 100; omega))) pms_nil))) (by show 3 ≤ 100; decide)) (pms_cons (pm_tup (pms_cons (pm_int rfl) (pms_cons (pm_int rfl) (pms_cons (pt_pm (pt_cat (pm_trees rfl) (pt_tup (pms_cons (pm_tree rfl) pms_nil) (by show 1 ≤ 100; decide)) (by show es.length + 1 ≤ 100; omega))) pms_nil))) (by show 3 ≤ 100; decide)) (pms_cons (pm_tup (pms_cons (pm_int rfl) (pms_cons (pm_int rfl) (pms_cons (pt_pm (pt_cut (pm_trees rfl) (fun _ _ z => ⟨_, rfl, z⟩) (fun _ _ z => z) (fun H xs h => by rw [cut_one]; exact h.drop 1))) pms_nil))) (by show 3 ≤ 100; decide)) pms_nil)))
        have A2 : Al Ls H4 vs2 := al_of g4 (by
          intro d hd
          simp only [List.mem_cons, List.not_mem_nil, or_false] at hd
          rcases hd with rfl | rfl | rfl
          · exact gv_3 (gk _ (by omega)) (gk _ (by omega)) get let1
          · exact gv_3 (gk _ (by omega)) (gk _ (by omega)) get let1
          · exact gv_3 (gk _ (by omega)) (gk _ (by omega)) ged led1)
        have l2 : vs2.length = 3 := g4.length
        have s5 := same_upd (o := .lst vs2) n4
        have eD2 : (upd H4 D2 (.lst vs2)) D2 = some (.lst vs2) := upd_same
        generalize upd H4 D2 (.lst vs2) = H5 at s5 eD2 ⊢
        have s15 := s13.trans (s4.trans s5)
        have rb5 := rb.same s15
        have A3 := ((A1.same s4).app A2).same s5
        refine ⟨D1, D2, _, _, rfl, rfl, s5 _ _ (s4 _ _ eD1), eD2, fits_few (by omega), fun D3 n3 => ?_⟩
        have l3 : (vs1 ++ vs2).length = 8 := by rw [List.length_append]; omega
        generalize vs1 ++ vs2 = us at A3 l3 ⊢
        have b5 : But p H H5 := b1.same s15
        have hP5 := hP1.same s15
        have nD3 : H D3 = none := b5.free n3
        obtain ⟨np3, nc3⟩ := hP5.ne n3
        have A4 := A3.new (o := .lst us) n3
        have rb6 := rb5.new (xs := us) n3
        have eD3 : (upd H5 D3 (.lst us)) D3 = some (.lst us) := upd_same
        have b6 : But p H (upd H5 D3 (.lst us)) := b5.same (same_upd n3)
        have hP6 := hP5.same (same_upd (o := .lst us) n3)
        generalize upd H5 D3 (.lst us) = H6 at A4 rb6 eD3 b6 hP6 ⊢
        clear A3 rb5 s15 s5 eD2 n4 l2 A2 g4 s4 A1 rb3 s13 eD1 l1 n3 b5 hP5 hP1 b1 rb
        have m3 : D3 ∈ D3 :: Ls := List.mem_cons_self
        -- one more
        refine ⟨_, rfl, .inl ⟨rfl, _, .inl (.inl eD3)⟩, pm_go (d := .tuple [.int kk, .int ii, .list es]) ?_ rb6 fun x3 H7 s7 g7 => ?_⟩
        · exact pm_tup (pms_cons (pm_int rfl) (pms_cons (pm_int rfl) (pms_cons (pm_list rfl fun a xs H Q rd q => ⟨a, xs, rfl, .inr (.inl rd), q⟩) pms_nil))) (by show 3 ≤ 100; decide)
        have eD7 := s7 _ _ eD3
        refine ⟨D3, _, _, rfl, rfl, eD7, small1000 (by omega), ?_⟩
        have A7 : Al (D3 :: Ls) (upd H7 D3 (.lst (us ++ [x3]))) (us ++ [x3]) := ((A4.same s7).app (al_of (.cons g7 .nil) (fun d hd => by rw [List.mem_singleton.mp hd]; exact gv_n (gk _ (by omega)) (gk _ (by omega)) (g2_lst ge (by omega)) rfl))).put m3
        have rb8 := (rb6.same s7).put (xs := us ++ [x3]) m3 ⟨_, eD7⟩
        have e8 : (upd H7 D3 (.lst (us ++ [x3]))) D3 = some (.lst (us ++ [x3])) := upd_same
        have b8 : But p H (upd H7 D3 (.lst (us ++ [x3]))) := (b6.same s7).set nD3
        have hP8 := (hP6.same s7).upd (o := .lst (us ++ [x3])) np3 nc3
        have l8 : (us ++ [x3]).length = 9 := by rw [List.length_append, l3]; rfl
        generalize upd H7 D3 (.lst (us ++ [x3])) = H8 at A7 rb8 e8 b8 hP8 ⊢
        generalize us ++ [x3] = us8 at A7 e8 l8 ⊢
        clear eD7 g7 s7 A4 rb6 eD3 b6 hP6 l3 np3 nc3
        -- five
        refine ⟨_, rfl, lst_go (ds := [.tuple [.bool (decide (kk = 1)), .int ii, .tuple es], .tuple [.int kk, .int ii], .tuple [.int kk, .int ii, .tuple es, .tuple []], .list [.int kk, .int ii, .tuple es], .tuple [.int kk, .int ii, .none]]) ?_ (by show 5 ≤ 100; decide) rb8 fun D4 vs4 H9 s9 g9 n9 => ?_⟩
        · exact (pms_cons (pm_tup (pms_cons (pm_eq rfl) (pms_cons (pm_int rfl) (pms_cons (pt_pm (pm_trees rfl)) pms_nil))) (by show 3 ≤ 100; decide)) (pms_cons (pm_tup (pms_cons (pm_int rfl) (pms_cons (pm_int rfl) pms_nil)) (by show 2 ≤ 100; decide)) (pms_cons (pm_tup (pms_cons (pm_int rfl) (pms_cons (pm_int rfl) (pms_cons (pt_pm (pm_trees rfl)) (pms_cons (pm_tup pms_nil (by show 0 ≤ 100; decide)) pms_nil)))) (by show 4 ≤ 100; decide)) (pms_cons (pm_lst (pms_cons (pm_int rfl) (pms_cons (pm_int rfl) (pms_cons (pt_pm (pm_trees rfl)) pms_nil))) (by show 3 ≤ 100; decide)) (pms_cons (pm_tup (pms_cons (pm_int rfl) (pms_cons (pm_int rfl) (pms_cons pm_cnon pms_nil))) (by show 3 ≤ 100; decide)) pms_nil)))))
        have A9 : Al (D3 :: Ls) H9 vs4 := al_of g9 (by
          intro d hd
          simp only [List.mem_cons, List.not_mem_nil, or_false] at hd
          rcases hd with rfl | rfl | rfl | rfl | rfl
          · exact gv_3 g1_bl (gk _ (by omega)) ge (by omega)
          · exact gv_2 (gk _ (by omega)) (gk _ (by omega))
          · exact gv_4 (gk _ (by omega)) (gk _ (by omega)) (g2_tup ge (by omega)) g1_nil
          · exact gv_l3 (gk _ (by omega)) (gk _ (by omega)) (g2_tup ge (by omega))
          · exact gv_n (gk _ (by omega)) (gk _ (by omega)) g1_non.up rfl)
        have l9 : vs4.length = 5 := g9.length
        have sA := same_upd (o := .lst vs4) n9
        have eD4 : (upd H9 D4 (.lst vs4)) D4 = some (.lst vs4) := upd_same
        generalize upd H9 D4 (.lst vs4) = HA at sA eD4 ⊢
        have s8A := s9.trans sA
        refine ⟨D3, D4, _, _, rfl, rfl, s8A _ _ e8, eD4, fits_few (by omega), fun D5 n5 => ?_⟩
        have AA := ((A7.same s9).app A9).same sA
        have lA : (us8 ++ vs4).length = 14 := by rw [List.length_append]; omega
        generalize us8 ++ vs4 = usA at AA lA ⊢
        have s5 := same_upd (o := .lst usA) n5
        have eD5 : (upd HA D5 (.lst usA)) D5 = some (.lst usA) := upd_same
        generalize upd HA D5 (.lst usA) = HB at s5 eD5 ⊢
        have s8B := s8A.trans s5
        have AB := AA.same s5
        have rbB := rb8.same s8B
        have bB := b8.same s8B
        have hPB := hP8.same s8B
        clear AA s5 n5 s8A sA eD4 l9 A9 g9 n9 s9 A7 rb8 e8 b8 hP8 s8B l8
        -- five
        refine ⟨_, rfl, lst_go (ds := [.tuple [.int kk, .none, .tuple es], .tuple [.str "1", .int ii, .tuple es], .tuple [.int (kk - 1), .int ii, .tuple (es.drop 1)], .tuple [.int kk, .int ii, .tuple es.reverse], .tuple es]) ?_ (by show 5 ≤ 100; decide) rbB fun D6 vs6 HC sC gC nC => ?_⟩
        · exact (pms_cons (pm_tup (pms_cons (pm_int rfl) (pms_cons pm_cnon (pms_cons (pt_pm (pm_trees rfl)) pms_nil))) (by show 3 ≤ 100; decide)) (pms_cons (pm_tup (pms_cons pm_cstr (pms_cons (pm_int rfl) (pms_cons (pt_pm (pm_trees rfl)) pms_nil))) (by show 3 ≤ 100; decide)) (pms_cons (pm_tup (pms_cons (pm_op rfl fun _ => .int _) (pms_cons (pm_int rfl) (pms_cons (pt_pm (pt_cut (pm_trees rfl) (fun _ _ z => ⟨_, rfl, z⟩) (fun _ _ z => z) (fun H xs h => by rw [cut_one]; exact h.drop 1))) pms_nil))) (by show 3 ≤ 100; decide)) (pms_cons (pm_tup (pms_cons (pm_int rfl) (pms_cons (pm_int rfl) (pms_cons (pt_pm (pt_rev _ rfl)) pms_nil))) (by show 3 ≤ 100; decide)) (pms_cons (pt_pm (pm_trees rfl)) pms_nil)))))
        have AC : Al (D3 :: Ls) HC vs6 := al_of gC (by
          intro d hd
          simp only [List.mem_cons, List.not_mem_nil, or_false] at hd
          rcases hd with rfl | rfl | rfl | rfl | rfl
          · exact gv_3 (gk _ (by omega)) g1_non ge (by omega)
          · exact gv_3 ⟨by decide +kernel, by simp only [PyData.hasDict], by simp [nodes], by simp [PyData.depth]⟩ (gk _ (by omega)) ge (by omega)
          · exact gv_3 (gk _ (by omega)) (gk _ (by omega)) ged led1
          · exact gv_3 (gk _ (by omega)) (gk _ (by omega)) (fun e he => ge e (List.mem_reverse.mp he)) (by rw [List.length_reverse]; omega)
          · exact gv_es ge (by omega))
        have lC : vs6.length = 5 := gC.length
        have sD := same_upd (o := .lst vs6) nC
        have eD6 : (upd HC D6 (.lst vs6)) D6 = some (.lst vs6) := upd_same
        generalize upd HC D6 (.lst vs6) = HD at sD eD6 ⊢
        have sBD := sC.trans sD
        refine ⟨D5, D6, _, _, rfl, rfl, sBD _ _ eD5, eD6, fits_few (by omega), fun D7 n7 => ?_⟩
        have AD := ((AB.same sC).app AC).same sD
        have lD : (usA ++ vs6).length = 19 := by rw [List.length_append]; omega
        generalize usA ++ vs6 = usD at AD lD ⊢
        have bD := bB.same sBD
        have hPD := hPB.same sBD
        have rbD := rbB.same sBD
        have nD7 : H D7 = none := bD.free n7
        obtain ⟨np7, nc7⟩ := hPD.ne n7
        have AE := AD.new (o := .lst usD) n7
        have rbE := rbD.new (xs := usD) n7
        have eD7 : (upd HD D7 (.lst usD)) D7 = some (.lst usD) := upd_same
        have bE : But p H (upd HD D7 (.lst usD)) := bD.same (same_upd n7)
        have hPE := hPD.same (same_upd (o := .lst usD) n7)
        generalize upd HD D7 (.lst usD) = HE at AE rbE eD7 bE hPE ⊢
        clear AD bD hPD rbD n7 sBD sD eD6 lC AC gC nC sC AB rbB bB hPB eD5 lA
        have m7 : D7 ∈ D7 :: D3 :: Ls := List.mem_cons_self
        have mp : p ∈ D7 :: D3 :: Ls := List.mem_cons_of_mem _ (List.mem_cons_of_mem _ pL)
        refine ⟨fun σ H' => ∃ (us : List V) (w8 w9 : Option V), σ = [some (.ref p), some (.ref a), some (.ref b), some (.int kk), some (.int ii), some (.ref t), some vt, some (.ref D7), w8, w9] ∧ us ≠ [] ∧ us.length ≤ 40 ∧ H' D7 = some (.lst us) ∧ Al (D7 :: D3 :: Ls) H' us ∧ Pot H' p c ∧ But p H H', ?_, ?_⟩
        · refine ⟨_, rfl, _, _, rfl, rfl, _, rfl, ?_⟩
          by_cases z : 0 < kk
          · rw [decide_eq_true z]
            refine iteT ?_
            refine ⟨_, rfl, _, rfl, p, c, _, rfl, hPE, z, by omega, fun pl HF p0 p1 hPF bF => ?_⟩
            obtain ⟨pn, rfl⟩ : ∃ pn : Nat, pl = (pn : Int) := ⟨pl.toNat, by omega⟩
            have rbF := rbE.but bF hPE hPF mp
            have AF := AE.but mp bF
            have eF := bF.1 _ _ eD7 (Ne.symm np7)
            have bHF := bE.trans bF
            clear rbE AE eD7 bE hPE bF
            dsimp only [gName]
            refine for_lst (ds := [.none, .str "leaf", .tuple [], .tuple [dt], .tuple [.str "q"], .list [dt]]) ?_ (by show 6 ≤ 100; decide) rbF fun D8 vs8 HG sG gG nG => ?_
            · exact pms_cons pm_cnon (pms_cons pm_cstr (pms_cons (pm_tup pms_nil (by show 0 ≤ 100; decide)) (pms_cons (pm_tup (pms_cons (pm_tree rfl) pms_nil) (by show 1 ≤ 100; decide)) (pms_cons (pm_tup (pms_cons pm_cstr pms_nil) (by show 1 ≤ 100; decide)) (pms_cons (pm_lst (pms_cons (pm_tree rfl) pms_nil) (by show 1 ≤ 100; decide)) pms_nil)))))
            have god : ∀ d ∈ [PyData.none, .str "leaf", .tuple [], .tuple [dt], .tuple [.str "q"], .list [dt]], G1 d := by
              obtain ⟨t1, t2, t3, t4⟩ := gt
              intro d hd
              simp only [List.mem_cons, List.not_mem_nil, or_false] at hd
              rcases hd with rfl | rfl | rfl | rfl | rfl | rfl
              · exact g1_non
              · exact ⟨by decide +kernel, by simp only [PyData.hasDict], by simp [nodes], by simp [PyData.depth]⟩
              · exact g1_nil
              · refine ⟨by simp only [smB, smL, t1, Bool.and_self], by simp only [PyData.hasDict, PyData.hasDictAll, t2, Bool.or_self], ?_, ?_⟩
                · simp only [nodes, nodesL]
                  omega
                · simp only [PyData.depth, PyData.depthAll]
                  omega
              · exact ⟨by decide +kernel, by simp only [PyData.hasDict, PyData.hasDictAll, Bool.or_self], by simp [nodes, nodesL], by simp [PyData.depth, PyData.depthAll]⟩
              · refine ⟨by simp only [smB, smL, t1, Bool.and_self], by simp only [PyData.hasDict, PyData.hasDictAll, t2, Bool.or_self], ?_, ?_⟩
                · simp only [nodes, nodesL]
                  omega
                · simp only [PyData.depth, PyData.depthAll]
                  omega
            have l8 : vs8.length = 6 := gG.length
            generalize [PyData.none, .str "leaf", .tuple [], .tuple [dt], .tuple [.str "q"], .list [dt]] = ods at gG god
            have s8 := same_upd (o := .lst vs8) nG
            have e8 : (upd HG D8 (.lst vs8)) D8 = some (.lst vs8) := upd_same
            have nD87 : D8 ≠ D7 := fun z => by rw [z, sG _ _ eF] at nG; cases nG
            have gH := gG.same (outs_same (L := D7 :: D3 :: Ls) s8)
            have sFH := sG.trans s8
            generalize upd HG D8 (.lst vs8) = HH at s8 e8 gH sFH ⊢
            refine for_it (walk_list (xs := vs8)) (fun m σ H' => ∃ (us : List V) (w9 : Option V), σ = [some (.ref p), some (.ref a), some (.ref b), some (.int kk), some (.int ii), some (.ref t), some vt, some (.ref D7), some (.int (pn : Nat)), w9] ∧ us.length = 19 + m ∧ H' D7 = some (.lst us) ∧ Al (D7 :: D3 :: Ls) H' us ∧ Pot H' p c ∧ But p H H' ∧ RB (D7 :: D3 :: Ls) t ys es vt dt H' ∧ H' D8 = some (.lst vs8) ∧ DaAll (Outs (D7 :: D3 :: Ls) H') vs8 ods)
              ⟨usD, _, rfl, lD, sFH _ _ eF, AF.same sFH, hPF.same sFH, bHF.same sFH, rbF.same sFH, e8, gH⟩ (fun m σ H' _ ⟨us, w9, _, _, _, _, _, _, _, e, _⟩ => .inl (.inl e)) ?_ ?_
            · rintro m y σ H5 H6 hi ⟨us, w9, rfl, lu, eU, aU, hPU, bU, rbU, eV, gV⟩ ⟨rfl, ey⟩
              obtain ⟨dd, hdd, hy⟩ := gV.get ey
              have gd := god dd (List.mem_of_getElem? hdd)
              have rbo : RB (D7 :: D3 :: Ls) t ys es y dd H6 := ⟨rbU.dk, rbU.t, rbU.d, hy, rbU.len⟩
              refine ⟨_, rfl, .inl ⟨rfl, _, .inl (.inl eU)⟩, pm_go (d := .tuple [.int kk, .int ii, .tuple (es.take pn ++ [dd] ++ es.drop (pn + 1))]) ?_ rbo fun xv H7 s7 g7 => ?_⟩
              · exact pm_tup (pms_cons (pm_int rfl) (pms_cons (pm_int rfl) (pms_cons (pt_pm (pt_cat (pt_cat (pt_cut (pm_trees rfl) (fun _ _ z => z) (fun _ _ z => ⟨_, rfl, _, rfl, z⟩) (fun H xs h => by rw [cut_pre xs pn (by have := h.length; omega)]; exact h.take pn)) (pt_tup (pms_cons (pm_tree rfl) pms_nil) (by show 1 ≤ 100; decide)) (by rw [List.length_take]; show _ + 1 ≤ 100; omega)) (pt_cut (pm_trees rfl) (fun _ _ z => ⟨_, rfl, _, _, rfl, rfl, _, rfl, z⟩) (fun _ _ z => z) (fun H xs h => by
                  show DaAll H (cutV xs (some ((pn + 1 : Nat) : Int)) none) _
                  rw [cut_post xs (pn + 1) (by have := h.length; omega)]
                  exact h.drop (pn + 1))) (by rw [List.length_append, List.length_take, List.length_drop]; show _ + 1 + _ ≤ 100; omega))) pms_nil))) (by show 3 ≤ 100; decide)
              have eU7 := s7 _ _ eU
              have gz : ∀ e ∈ es.take pn ++ [dd] ++ es.drop (pn + 1), G1 e := fun e he => by
                rcases List.mem_append.mp he with he | he
                · rcases List.mem_append.mp he with he | he
                  · exact ge e (List.mem_of_mem_take he)
                  · rw [List.mem_singleton.mp he]
                    exact gd
                · exact ge e (List.mem_of_mem_drop he)
              refine ⟨D7, _, _, rfl, rfl, eU7, small1000 (by omega), ?_⟩
              refine ⟨us ++ [xv], _, rfl, ?_, upd_same, ?_, ?_, ?_, ?_, ?_, ?_⟩
              · rw [List.length_append, lu]
                rfl
              · exact ((aU.same s7).app (al_of (.cons g7 .nil) (fun d hd => by
                  rw [List.mem_singleton.mp hd]
                  exact gv_3 (gk _ (by omega)) (gk _ (by omega)) gz (by rw [List.length_append, List.length_append, List.length_take, List.length_drop]; show _ + 1 + _ ≤ 50; omega)))).put m7
              · exact (hPU.same s7).upd np7 nc7
              · exact (bU.same s7).set nD7
              · exact (rbU.same s7).put m7 ⟨_, eU7⟩
              · rw [upd_ne nD87]
                exact s7 _ _ eV
              · rw [outs_upd m7]
                exact gV.same (outs_same s7)
            · rintro σ H5 ⟨us, w9, rfl, lu, eU, aU, hPU, bU, rbU, eV, gV⟩
              exact ⟨us, _, _, rfl, fun z => by rw [z] at lu; simp at lu; omega, by omega, eU, aU, hPU, bU⟩
          · rw [decide_eq_false z]
            refine iteF ?_
            exact ⟨usD, _, _, rfl, fun z => by rw [z] at lD; simp at lD, by omega, eD7, AE, hPE, bE⟩
        · rintro σ H' ⟨us, w8, w9, rfl, ne, lu, eU, aU, hPU, bU⟩
          refine ⟨_, rfl, _, rfl, p, c, D7, us, rfl, hPU, .inl (.inl eU), ne, by omega, fun H' hb => .inl (.inl (hb.1 _ _ eU (Ne.symm np7))), fun v HF hv hPF bF => ?_⟩
          obtain ⟨d, hd, gd⟩ := aU v hv
          exact q v d HF (bU.trans bF) hPF (((hd.same (outs_but mp bF)).same outs_less).same outs_less) gd
end
end My

namespace My
open PySem PySem.Spec PyProof.Rows L2
/-! ### an expression, then what follows, with a word between them -/
def tCutE (te : TE) : TE := fun σ H Q => ∃ M : VK, te σ H M ∧ ∀ v H', M v H' → Q v H'
theorem pe_cut {X : Cx} {e : Expr} {te : TE} (h : PE X e te) : PE X e (tCutE te) := ⟨fun pins s σ H Q I ⟨M, hm, hq⟩ => thn (h.run pins s σ H M I hm) fun v s' ⟨x, H', I', r, m⟩ => ⟨x, H', I', r, hq x H' m⟩⟩
abbrev s_law : Stmt := topS 46
theorem sc_law : FnScope ["script", "deck", "turn", "kind", "factors", "layout", "record", "values", "lap", "value", "before", "due"] ["script"] (defScope s_law) := ⟨rfl, rfl, rfl, by decide +kernel, rfl, by decide +kernel, by decide +kernel⟩
def spLaw (K : PySem.W.Frag) : Sp := fun vs H Q _ => ∃ (a : Addr) (ns : List Int), vs = [.ref a] ∧ SqL K H a (ns.map V.int) ∧ ns.length ≤ 63 ∧ ∀ H', Q (.bl true) H'
structure Def (P : Program) (w : World) (K : PySem.W.Frag) (mg : Str → Option Value) (base : Heap) (x : Str) (st : Stmt) (ps : List Str) (k : Nat) (sp : Sp) (f : Addr) (fd : FuncData) : Prop where
  F : Fun K x x st f fd
  b : Binds K fd ps []
  g : mg x = some (.ref f)
  G : FnOk P w K mg base CX0 k f fd ps sp
theorem go_nox {P : Program} {w : World} {K : PySem.W.Frag} {mg : Str → Option Value} {base : Heap} {k : Nat} {f : Addr} {fd : FuncData} {ps N : List Str} {sp : Sp} {x qual : Str} {st : Stmt} (F : Fun K x qual st f fd) (S : FnScope N ps (defScope st)) (many : ∀ vs H Q E, sp vs H Q E → vs.length = ps.length)
    (hb : ∀ (cdv : Value) (A : Around) (outer : List Env) (s : Shared) (H : Hp) (vs : List V) (Q : VK) (E : XK), Room k (A.deeper (envOfC qual (defScope st) s.heap.objs.size f cdv)) → (A.deeper (envOfC qual (defScope st) s.heap.objs.size f cdv)).guards = some [] →
      sp vs H Q E → ∃ t, PSs (cxOf CX0 P w K mg base N qual (defScope st) f cdv A outer s H E).nox (defBody st) t ∧ t { nx := fun _ H' => Q .non H', rt := Q } (L2.start N vs) H) : FnG P w K mg base CX0 (k + 1) f fd ps sp :=
  go_of F S many fun cdv A outer s H vs Q E hr quiet h => by
    obtain ⟨t, ht, q⟩ := hb cdv A outer s H vs Q E hr quiet h
    exact ⟨t, ht.nox, q⟩
theorem LayAt.but {C a p : Addr} {H H' : Hp} {ns : List Int} {xs : List V} (h : LayAt C H a ns) (e : H p = some (.lst xs)) (b : But p H H') : LayAt C H' a ns := by
  obtain ⟨dx, r, h1, h2, h3, h4⟩ := h
  refine ⟨dx, r, b.1 _ _ h1 (fun z => by rw [z, e] at h1; cases h1), ?_, h3, h4⟩
  rcases h2 with z | ⟨ob, z⟩
  · exact .inl (b.1 _ _ z (fun y => by rw [y, e] at z; cases z))
  · exact .inr ⟨ob, b.1 _ _ z (fun y => by rw [y, e] at z; cases z)⟩
theorem LayAt.upd {C a l : Addr} {H : Hp} {ns : List Int} {xs : List V} {o : HO} (h : LayAt C H a ns) (e : H l = some (.lst xs)) : LayAt C (L2.upd H l o) a ns := by
  obtain ⟨dx, r, h1, h2, h3, h4⟩ := h
  refine ⟨dx, r, ?_, ?_, h3, h4⟩
  · rw [upd_ne (fun z => by rw [z, e] at h1; cases h1)]
    exact h1
  · rcases h2 with z | ⟨ob, z⟩
    · exact .inl (by rw [upd_ne (fun y => by rw [y, e] at z; cases z)]; exact z)
    · exact .inr ⟨ob, by rw [upd_ne (fun y => by rw [y, e] at z; cases z)]; exact z⟩
/-- a value of the law -/
def GW (d : PyData) : Prop := smB d = true ∧ one2 d ∧ nodes d ≤ 5000 ∧ d.depth ≤ 8 ∧ SmT d
theorem GV.w {d : PyData} (h : GV d) : GW d := ⟨h.1, .inr h.2.1, h.2.2⟩
def Aw (L : List Addr) (H : Hp) (vs : List V) : Prop := ∀ v ∈ vs, ∃ d, Da (Outs L H) v d ∧ GW d
theorem aw_of {L : List Addr} {H : Hp} : ∀ {vs : List V} {ds : List PyData}, DaAll (Outs L H) vs ds → (∀ d ∈ ds, GW d) → Aw L H vs
  | _, _, .nil, _ => fun _ z => nomatch z
  | _, _, .cons h t, g => fun v m => by
    rcases List.mem_cons.mp m with e | e
    · subst e
      exact ⟨_, h, g _ List.mem_cons_self⟩
    · exact aw_of t (fun d hd => g d (List.mem_cons_of_mem _ hd)) v e
theorem Aw.same {L : List Addr} {H H' : Hp} {vs : List V} (h : Aw L H vs) (s : Same H H') : Aw L H' vs := fun v m => (h v m).imp fun d a => ⟨a.1.same (outs_same s), a.2⟩
theorem Aw.new {L : List Addr} {H : Hp} {vs : List V} {D : Addr} {o : HO} (h : Aw L H vs) (n : H D = none) : Aw (D :: L) (upd H D o) vs := fun v m => (h v m).imp fun d a => ⟨a.1.same (outs_new n), a.2⟩
theorem Aw.app {L : List Addr} {H : Hp} {vs ws : List V} (h : Aw L H vs) (g : Aw L H ws) : Aw L H (vs ++ ws) := fun v m => (List.mem_append.mp m).elim (h v) (g v)
theorem Aw.put {L : List Addr} {H : Hp} {vs : List V} {D : Addr} {o : HO} (m : D ∈ L) (h : Aw L H vs) : Aw L (upd H D o) vs := fun v hv => by
  obtain ⟨d, a, b⟩ := h v hv
  exact ⟨d, by rw [outs_upd m]; exact a, b⟩
theorem Aw.but {L : List Addr} {H H' : Hp} {vs : List V} {p : Addr} (m : p ∈ L) (h : Aw L H vs) (b : But p H H') : Aw L H' vs := fun v hv => by
  obtain ⟨d, a, g⟩ := h v hv
  exact ⟨d, a.same (outs_but m b), g⟩
theorem recB_true {ks : List (Str × Int)} {ns : List Int} {d : PyData} (h : recB ks ns d = true) : ∃ k i es, d = .tuple [.int k, .int i, .tuple es] ∧ allB ks es = true := by
  unfold recB at h
  split at h
  · rw [Bool.and_eq_true] at h
    exact ⟨_, _, _, rfl, h.2⟩
  · cases h
theorem rd_gw {H : Hp} {v : V} {d : PyData} {Q : VK} (hd : Da H v d) (g : GW d) (q : Q (.str d.shown) H) : rReprD [v] H Q := by
  obtain ⟨g1, g2, g3, g4, _⟩ := g
  obtain ⟨a, b⟩ := sm_show d g1
  refine ⟨v, d, rfl, hd, a, fun h => ?_, by omega, ?_, q⟩
  · rcases g2 with e | e
    · exact e
    · rw [e] at h
      cases h
  · rw [sizeLine_eq]
    omega
theorem rd_bl {H : Hp} {b : Bool} {Q : VK} (q : Q (.str (PyData.bool b).shown) H) : rReprD [.bl b] H Q := rd_gw (.bl b) ⟨by simp [smB], .inr (by simp only [PyData.hasDict]), by simp [nodes], by simp [PyData.depth], fun _ _ _ e => by cases e⟩ q
section
variable {L : List Addr} {t : Addr} {ys : List V} {es : List PyData} {vt : V} {dt : PyData} {σ : L2.St}
/-- so many things, then others -/
def PMc (L : List Addr) (t : Addr) (ys : List V) (es : List PyData) (vt : V) (dt : PyData) (ta : TA) (σ : L2.St) (ds : List PyData) (tb : TA) : Prop := ∀ (H : Hp) (Q : List V → Hp → Prop), RB L t ys es vt dt H → (∀ vs H', Same H H' → DaAll (Outs L H') vs ds → tb σ H' fun ws H2 => Q (vs ++ ws) H2) → ta σ H Q
theorem pmc_nil {tb : TA} : PMc L t ys es vt dt tb σ [] tb := fun H Q b q => q [] H (same_rfl H) .nil
theorem pmc_cons {te : TE} {ta tb : TA} {d : PyData} {ds : List PyData} (h : PM L t ys es vt dt te σ d) (r : PMc L t ys es vt dt ta σ ds tb) : PMc L t ys es vt dt (tCons te ta) σ (d :: ds) tb :=
  fun H Q b q => h H _ b fun v H1 s1 g1 => r H1 _ (b.same s1) fun vs H2 s2 g2 => q (v :: vs) H2 (s1.trans s2) (.cons (g1.same (outs_same s2)) g2)
theorem lstc_go {ta tb : TA} {ds : List PyData} {H : Hp} {Q : VK} (h : PMc L t ys es vt dt ta σ ds tb) (b : RB L t ys es vt dt H) (q : ∀ vs H1, Same H H1 → DaAll (Outs L H1) vs ds → tb σ H1 fun ws H2 => (vs ++ ws).length ≤ sizeLine ∧ ∀ p, H2 p = none → Q (.ref p) (upd H2 p (.lst (vs ++ ws)))) : tLst ta σ H Q := h H _ b q
theorem pm_00 {K : PySem.W.Frag} {n : Nat} {z : Str} {i : Int} {r : List PyData} (h : σ[n]? = some (some (.ref t))) (e : es = .tuple [.str z, .int i] :: r) : PM L t ys es vt dt (tOp (rIxT K) (tOp (rIxT K) (tVar n) (tC (.int 0))) (tC (.int 0))) σ (.str z) := by
  intro H Q b q
  have hd := b.d
  rw [e] at hd
  obtain ⟨len, bt⟩ : 0 < ys.length ∧ Rd H t (.tup ys) := ⟨by rw [hd.length]; exact Nat.succ_pos _, b.t⟩
  cases hd with
  | @cons v0 vs0 _ _ h0 ht =>
    cases h0 with
    | @tup a xs _ e2 hx =>
      cases hx with
      | @cons w0 ws0 _ _ g0 gt =>
        cases g0
        exact ⟨_, h, t, _, _, .ref a, rfl, rfl, .inl b.t, atI_nat (j := 0) rfl, a, _, _, .str z, rfl, rfl, .inl (rd_same e2 outs_sub), atI_nat (j := 0) rfl, q _ H (same_rfl H) (.str z)⟩
theorem pm_dict : PM L t ys es vt dt tDNewK σ (.dict []) := fun H Q b q p np => q _ _ (same_upd np) (.dct (by rw [outs_ne (dk_ne b.dk np), upd_same]))
end
end My

namespace My
open PySem PySem.Spec PyProof.Rows L2
structure TxtL3 (mg : Str → Option Value) : Prop where
  n_range : mg "range" = none
  n_len : mg "len" = none
  n_repr : mg "repr" = none
  n_sum : mg "sum" = none
theorem fl0 (m : Nat) : (List.replicate m [V.int 0]).flatten = (List.replicate m (0 : Int)).map V.int := by simp
theorem rep_len (k : Nat) (h : k ≤ 900) : [V.int 0].length * Int.toNat ((k : Nat) : Int) ≤ sizeLine := by
  rw [Int.toNat_natCast]
  exact Nat.le_of_lt (small1000 (show 1 * k ≤ 1000 by omega))
theorem sum_pos : ∀ {fs : List Int}, 0 < fs.sum → ∃ z ∈ fs, 0 < z
  | [], h => by simp at h
  | n :: r, h => by
    by_cases y : 0 < n
    · exact ⟨n, List.mem_cons_self, y⟩
    · rw [List.sum_cons] at h
      obtain ⟨z, a, b⟩ := sum_pos (fs := r) (by omega)
      exact ⟨z, List.mem_cons_of_mem _ a, b⟩
theorem dk1 {H : Hp} {p c : Addr} (h : Pot H p c) : Dk [p] H := fun b hb => by
  rw [List.mem_singleton.mp hb]
  exact h.p
theorem rec_outs {L : List Addr} {ks : List (Str × Int)} {H : Hp} {v : V} {k i : Int} {es : List PyData} (dk : Dk L H) (h : Da H v (.tuple [.int k, .int i, .tuple es])) (all : allB ks es = true) : Da (Outs L H) v (.tuple [.int k, .int i, .tuple es]) := by
  cases h with
  | @tup b xs _ e hx =>
    obtain ⟨v0, v1, v2, _, _, _, rfl, e3, h0, h1, h2⟩ := three hx (by rw [hx.length]; rfl)
    cases e3
    cases h0
    cases h1
    cases h2 with
    | @tup t ys _ e2 hys =>
      exact .tup (rd_outs dk e) (.cons (.int _) (.cons (.int _) (.cons (.tup (rd_outs dk e2) (DaAll.keepL (fun a xs e => rd_outs dk e) es ys all hys)) .nil)))
theorem prs_da {L : List Addr} {H : Hp} (dk : Dk L H) : ∀ {rs : List Addr} {ks : List (Str × Int)}, Prs H rs ks → DaAll (Outs L H) (rs.map V.ref) (ks.map fun q => PyData.tuple [.str q.1, .int q.2])
  | _, _, .nil => .nil
  | _, _, .cons e t => .cons (.tup (rd_outs dk e) (.cons (.str _) (.cons (.int _) .nil))) (prs_da dk t)
theorem rec_w {ks : List (Str × Int)} {k i : Int} {es : List PyData} (h : RecH ks 2 k i es) : GW (.tuple [.int k, .int i, .tuple es]) := by
  have a := h.len
  have b := h.few
  have c := h.i0
  have d := h.i1
  exact (gv_3 (g1_int (by omega)) (g1_int (by omega)) (rec_g1 h) (by omega)).w
theorem gw_3 {i j : Int} {es : List PyData} (hi : i.natAbs ≤ 5000) (hj : j.natAbs ≤ 5000) (s : smL es = true) (o : noLs es = true ∨ PyData.hasDictAll es = false) (n : nodesL es ≤ 100) (m : PyData.depthAll es ≤ 4) : GW (.tuple [.int i, .int j, .tuple es]) := by
  obtain ⟨a1, a2, a3, a4⟩ := g1_int hi
  obtain ⟨b1, b2, b3, b4⟩ := g1_int hj
  refine ⟨?_, ?_, ?_, ?_, ?_⟩
  · rw [smB]
    simp only [smL, a1, b1, Bool.true_and, Bool.and_true]
    simpa only [smB] using s
  · rcases o with o | o
    · exact .inl (by simp only [noL, noLs, o, Bool.and_self])
    · exact .inr (by simp only [PyData.hasDict, PyData.hasDictAll, o, Bool.or_self])
  · simp only [nodes, nodesL]
    omega
  · simp only [PyData.depth, PyData.depthAll]
    omega
  · intro d0 d1 es' e
    cases e
    intro e he
    have := g1_nodes he
    omega
theorem sm_tag {z : Str} (h : z ∈ TAGS) : smB (.str z) = true := by
  obtain ⟨a, b⟩ := tags_ok z h
  simp only [smB]
  rw [decide_eq_true (by omega), Bool.true_and, List.all_eq_true]
  exact fun c hc => decide_eq_true (b c hc)
theorem gw_flat {d : PyData} (s : smB d = true) (o : one2 d) (n : nodes d ≤ 5000) (m : d.depth ≤ 8) (no : ∀ ds, d ≠ .tuple ds) : GW d := ⟨s, o, n, m, fun _ _ _ e => absurd e (no _)⟩
structure My2 (H : Hp) (W p : Addr) (v : V) (k i : Int) (es : List PyData) : Prop where
  h : Da (Outs [W, p] H) v (.tuple [.int k, .int i, .tuple es])
structure MyDa (H : Hp) (v : V) (k i : Int) (es : List PyData) : Prop where
  h : Da H v (.tuple [.int k, .int i, .tuple es])
section
variable {P : Program} {w : World} {K : PySem.W.Frag} {mg : Str → Option Value} {base : Heap}
theorem go_law {d : LayD} {mc : Value} {f f1 f2 f3 f4 f5 f6 f7 f8 f9 fa0 fb0 fI : Addr} {fd fd1 fd2 fd3 fd4 fd5 fd6 fd7 fd8 fd9 fda fdb : FuncData} (F : Fun K "law" "law" s_law f fd) (T : TxtL3 mg) (D : LayF P K mg d) (LG : LayG K d.lay mc)
    (D1 : Def P w K mg base "_law_deck_of" s_law_deck_of ["script"] 1 (spDeckOf K) f1 fd1) (D2 : Def P w K mg base "_law_below" s_law_below ["deck", "bound"] 2 spBelow f2 fd2) (D3 : Def P w K mg base "_law_pick" s_law_pick ["deck", "some"] 3 (spPick K) f3 fd3)
    (D4 : Def P w K mg base "_law_some_kind" s_law_some_kind ["deck", "most"] 4 spKind f4 fd4) (D5 : Def P w K mg base "_law_some_factors" s_law_some_factors ["deck", "degree", "most"] 4 spSomeF f5 fd5)
    (D6 : Def P w K mg base "_law_some_record" s_law_some_record ["deck", "kind", "factors", "deep"] 7 (spSomeRec 2) f6 fd6) (D7 : Def P w K mg base "_law_spoilt" s_law_spoilt ["deck", "kind", "record"] 6 spSpoilt f7 fd7)
    (D8 : Def P w K mg base "_law_is_record" s_law_is_record ["kind", "factors", "thing"] 10 spLRec f8 fd8) (D9 : Def P w K mg base "is_record" s_is_record ["kind", "layout", "thing"] 4 (spIsRec d.lay) f9 fd9)
    (Da : Def P w K mg base "size_of_record" s_size_of_record ["record"] 3 spSizeRec fa0 fda) (Db : Def P w K mg base "_law_tags_of" s_law_tags_of ["trees"] 1 spForest fb0 fdb)
    (M_Layout : Mk K d.lay fI) (R_Layout : FnR P w K mg base (L2.CX P w) 3 fI (spMk d.lay)) : FnG P w K mg base CX0 14 f fd ["script"] (spLaw K) := by
  have ⟨F__law_deck_of, b__law_deck_of, g__law_deck_of, G__law_deck_of⟩ := D1
  have ⟨F__law_below, b__law_below, g__law_below, G__law_below⟩ := D2
  have ⟨F__law_pick, b__law_pick, g__law_pick, G__law_pick⟩ := D3
  have ⟨F__law_some_kind, b__law_some_kind, g__law_some_kind, G__law_some_kind⟩ := D4
  have ⟨F__law_some_factors, b__law_some_factors, g__law_some_factors, G__law_some_factors⟩ := D5
  have ⟨F__law_some_record, b__law_some_record, g__law_some_record, G__law_some_record⟩ := D6
  have ⟨F__law_spoilt, b__law_spoilt, g__law_spoilt, G__law_spoilt⟩ := D7
  have ⟨F__law_is_record, b__law_is_record, g__law_is_record, G__law_is_record⟩ := D8
  have ⟨F_is_record, b_is_record, g_is_record, G_is_record⟩ := D9
  have ⟨F_size_of_record, b_size_of_record, g_size_of_record, G_size_of_record⟩ := Da
  have ⟨F__law_tags_of, b__law_tags_of, g__law_tags_of, G__law_tags_of⟩ := Db
  refine go_nox F sc_law (fun vs H Q E h => ?_) (fun cdv A outer s H vs Q E hr quiet h => ?_)
  · obtain ⟨a, ns, rfl, _⟩ := h
    rfl
  · obtain ⟨a, ns, rfl, hS, hl, q⟩ := h
    refine ⟨_, (pss_cons (ps_set (i := 1) sc_law.nd rfl (.inl rfl) (pe_call G__law_deck_of (hr.mono (by omega)) (by rfl) g__law_deck_of F__law_deck_of.kp b__law_deck_of .nil pass0 (pa_cons (pv 0) pa_nil)))
  (pss_cons (ps_for PassesOwn.never rfl (pi_range1 (by rfl) T.n_range (pa_cons pe_int pa_nil)) (pg_name (i := 2) sc_law.nd rfl (.inl rfl))
   (pss_cons (ps_par (i := 3) (j := 4) (by rfl) sc_law.nd rfl rfl (by decide) rfl rfl (pa_cons (pe_call G__law_some_kind (hr.mono (by omega)) (by rfl) g__law_some_kind F__law_some_kind.kp b__law_some_kind .nil pass0 (pa_cons (pv 1) (pa_cons (pe_call G__law_pick (hr.mono (by omega)) (by rfl) g__law_pick F__law_pick.kp b__law_pick .nil pass0 (pa_cons (pv 1) (pa_cons (pe_lst (pa_cons pe_int (pa_cons pe_int (pa_cons pe_int (pa_cons pe_int pa_nil))))) pa_nil))) pa_nil))) (pa_cons (pe_call G__law_some_factors (hr.mono (by omega)) (by rfl) g__law_some_factors F__law_some_factors.kp b__law_some_factors .nil pass0 (pa_cons (pv 1) (pa_cons pe_int (pa_cons pe_int pa_nil)))) pa_nil)) (by rfl))
  (pss_cons (ps_set (i := 4) sc_law.nd rfl (.inl rfl) (pe_cut (pe_ifExp (pt_cmpR op_eq (pe_call G__law_below (hr.mono (by omega)) (by rfl) g__law_below F__law_below.kp b__law_below .nil pass0 (pa_cons (pv 1) (pa_cons pe_int pa_nil))) pe_int (nomark _)) (pe_op op_cat (pe_op op_cat (pv 4) (pe_op op_rep (pe_lst (pa_cons pe_int pa_nil)) (pe_call G__law_below (hr.mono (by omega)) (by rfl) g__law_below F__law_below.kp b__law_below .nil pass0 (pa_cons (pv 1) (pa_cons pe_int pa_nil))))) (pe_lst (pa_cons pe_int pa_nil))) (pv 4))))
  (pss_cons (ps_set (i := 5) sc_law.nd rfl (.inl rfl) (pe_makeI M_Layout R_Layout (hr.mono (by omega)) (by rfl) D.gLay (pa_cons (pv 4) pa_nil)))
  (pss_cons (ps_set (i := 6) sc_law.nd rfl (.inl rfl) (pe_cut (pe_ifExp (pt_cmpR op_gt (pe_callB (cr_sum (by rfl)) (by rfl) T.n_sum (by decide +kernel) (pa_cons (pv 4) pa_nil)) pe_int (nomark _)) (pe_call G__law_some_record (hr.mono (by omega)) (by rfl) g__law_some_record F__law_some_record.kp b__law_some_record .nil pass0 (pa_cons (pv 1) (pa_cons (pv 3) (pa_cons (pv 4) (pa_cons pe_int pa_nil))))) (pe_tup (pa_cons pe_int (pa_cons pe_int (pa_cons (pe_tup pa_nil) pa_nil)))))))
  (pss_cons (ps_set (i := 7) sc_law.nd rfl (.inl rfl) (pe_lst (pa_cons (pv 6) (pa_cons pe_non (pa_cons pe_int (pa_cons (pe_tup pa_nil) (pa_cons pe_dnewK (pa_cons (pe_lst pa_nil) (pa_cons pe_str (pa_cons (pe_tup (pa_cons pe_int (pa_cons pe_int (pa_cons (pe_tup pa_nil) pa_nil)))) (pa_cons (pe_tup (pa_cons pe_int (pa_cons pe_int (pa_cons (pe_tup (pa_cons (pe_tup (pa_cons (pe_ix ix_tup (pe_ix ix_tup (pv 3) pe_int (fun _ _ => rfl)) pe_int (fun _ _ => rfl)) pa_nil)) pa_nil)) pa_nil)))) (pa_cons (pe_tup (pa_cons (pe_callB call_len_seq (by rfl) T.n_len (by decide +kernel) (pa_cons (pv 4) pa_nil)) (pa_cons pe_int (pa_cons (pe_tup pa_nil) pa_nil)))) pa_nil))))))))))))
  (pss_cons (ps_set (i := 7) sc_law.nd rfl (.inl rfl) (pe_op op_cat (pv 7) (pe_lst (pa_cons (pe_tup (pa_cons pe_int (pa_cons pe_int (pa_cons (pe_tup (pa_cons (pe_tup (pa_cons (pe_lst (pa_cons (pe_ix ix_tup (pe_ix ix_tup (pv 3) pe_int (fun _ _ => rfl)) pe_int (fun _ _ => rfl)) pa_nil)) pa_nil)) pa_nil)) pa_nil)))) (pa_cons (pe_tup (pa_cons pe_int (pa_cons pe_int (pa_cons (pe_tup (pa_cons (pe_tup (pa_cons pe_dnewK pa_nil)) pa_nil)) pa_nil)))) (pa_cons (pe_tup (pa_cons pe_int (pa_cons pe_int (pa_cons (pe_tup (pa_cons (pe_tup (pa_cons (pe_ix ix_tup (pe_ix ix_tup (pv 3) pe_int (fun _ _ => rfl)) pe_int (fun _ _ => rfl)) (pa_cons pe_dnewK pa_nil))) pa_nil)) pa_nil)))) pa_nil))))))
  (pss_cons (ps_for PassesOwn.never rfl (pi_range1 (by rfl) T.n_range (pa_cons pe_int pa_nil)) (pg_name (i := 8) sc_law.nd rfl (.inl rfl))
   (pss_one (ps_expr (pe_bm PySem.F.plainAttrs_list PySem.F.slot_list_append PySem.F.type_list_append mt_append (pv 7) (pa_cons (pe_call G__law_spoilt (hr.mono (by omega)) (by rfl) g__law_spoilt F__law_spoilt.kp b__law_spoilt .nil pass0 (pa_cons (pv 1) (pa_cons (pv 3) (pa_cons (pv 6) pa_nil)))) pa_nil)))))
  (pss_one (ps_for PassesOwn.never rfl (pi_list (pv 7)) (pg_name (i := 9) sc_law.nd rfl (.inl rfl))
   (pss_cons (ps_par (i := 10) (j := 11) (by rfl) sc_law.nd rfl rfl (by decide) rfl rfl (pa_cons (pe_callB (call_reprD quiet hr.units) (by rfl) T.n_repr (by decide +kernel) (pa_cons (pv 9) pa_nil)) (pa_cons (pe_call G__law_is_record (hr.mono (by omega)) (by rfl) g__law_is_record F__law_is_record.kp b__law_is_record .nil pass0 (pa_cons (pv 3) (pa_cons (pv 4) (pa_cons (pv 9) pa_nil)))) pa_nil)) (by rfl))
  (pss_cons (ps_if (PW.pt (pw_or (pt_cmpR op_ne (pe_callB (call_reprD quiet hr.units) (by rfl) T.n_repr (by decide +kernel) (pa_cons (pe_call G_is_record (hr.mono (by omega)) (by rfl) g_is_record F_is_record.kp b_is_record .nil pass0 (pa_cons (pv 3) (pa_cons (pv 5) (pa_cons (pv 9) pa_nil)))) pa_nil)) (pe_callB (call_reprD quiet hr.units) (by rfl) T.n_repr (by decide +kernel) (pa_cons (pv 11) pa_nil)) (nomark _)) (pw_or1 (pt_cmpR op_ne (pe_callB (call_reprD quiet hr.units) (by rfl) T.n_repr (by decide +kernel) (pa_cons (pv 9) pa_nil)) (pv 10) (nomark _)))))
   (pss_one (ps_ret pe_bl))
   pss_nil)
  (pss_one (ps_if (PW.pt (pw_and (pt_val (pv 11)) (pw_and1 (pt_cmpR op_ne (pe_call G_size_of_record (hr.mono (by omega)) (by rfl) g_size_of_record F_size_of_record.kp b_size_of_record .nil pass0 (pa_cons (pv 9) pa_nil)) (pe_call G__law_tags_of (hr.mono (by omega)) (by rfl) g__law_tags_of F__law_tags_of.kp b__law_tags_of .nil pass0 (pa_cons (pe_ix ix_tup (pv 9) pe_int (fun _ _ => rfl)) pa_nil)) (nomark _)))))
   (pss_one (ps_ret pe_bl))
   pss_nil))))))))))))))
  (pss_one (ps_ret pe_bl)))), ?_⟩
    clear G__law_deck_of G__law_below G__law_pick G__law_some_kind G__law_some_factors G__law_some_record G__law_spoilt G__law_is_record G_is_record G_size_of_record G__law_tags_of D1 D2 D3 D4 D5 D6 D7 D8 D9 Da Db R_Layout F__law_deck_of F__law_below F__law_pick F__law_some_kind F__law_some_factors F__law_some_record F__law_spoilt F__law_is_record F_is_record F_size_of_record F__law_tags_of b__law_deck_of b__law_below b__law_pick b__law_some_kind b__law_some_factors b__law_some_record b__law_spoilt b__law_is_record b_is_record b_size_of_record b__law_tags_of g__law_deck_of g__law_below g__law_pick g__law_some_kind g__law_some_factors g__law_some_record g__law_spoilt g__law_is_record g_is_record g_size_of_record g__law_tags_of
    refine ⟨_, rfl, a, ns, rfl, hS, hl, fun p c H1 s1 np nc hP1 => ?_⟩
    clear hS s1
    refine ⟨3, rfl, by decide, by decide, for_range (n := 3) (fun i σ H6 => Pot H6 p c ∧ ∃ u2 u3 u4 u5 u6 u7 u8 u9 ua ub : Option V, σ = [some (.ref a), some (.ref p), u2, u3, u4, u5, u6, u7, u8, u9, ua, ub]) ⟨hP1, _, _, _, _, _, _, _, _, _, _, rfl⟩ ?_ ?_⟩
    · rintro i σ H2 hi ⟨hP2, u2, u3, u4, u5, u6, u7, u8, u9, ua, ub, rfl⟩
      -- kind
      refine ⟨_, rfl, _, rfl, by show 4 ≤ sizeLine; decide, fun l1 n1 => ?_⟩
      have s1 := same_upd (o := .lst [.int 2, .int 3, .int 5, .int 8]) n1
      obtain ⟨np1, nc1⟩ := hP2.ne n1
      refine ⟨p, c, l1, _, rfl, hP2.same s1, .inl (.inl upd_same), (fun z => nomatch z), by show 4 < 1073741824; decide, fun H' hb => .inl (.inl (hb.1 _ _ upd_same (Ne.symm np1))), fun x H3 hx hP3 b3 => ?_⟩
      obtain ⟨m, rfl, m2, m8⟩ : ∃ n : Nat, x = .int n ∧ 2 ≤ n ∧ n ≤ 8 := by
        simp only [List.mem_cons, List.not_mem_nil, or_false] at hx
        rcases hx with rfl | rfl | rfl | rfl
        · exact ⟨2, rfl, by decide, by decide⟩
        · exact ⟨3, rfl, by decide, by decide⟩
        · exact ⟨5, rfl, by decide, by decide⟩
        · exact ⟨8, rfl, by decide, by decide⟩
      refine ⟨p, c, m, rfl, hP3, m2, m8, fun ka ks H4 b4 hP4 hk hR => ?_⟩
      obtain ⟨rs, ok, ek, nok, prk⟩ := hk
      have keepF : ∀ {G G' : Hp}, But p G G' → Pot G p c → G ka = some (.frz ok (.tup (rs.map V.ref))) → G' ka = some (.frz ok (.tup (rs.map V.ref))) := by
        intro G G' b hP e
        refine b.1 _ _ e fun z => ?_
        obtain ⟨L, hL⟩ := hP.p
        rw [z, hL] at e
        cases e
      clear b3 hP3 hx s1 n1 np1 nc1 b4 hP2 hP1
      -- factors
      refine ⟨_, rfl, ⟨p, c, 4, 7, rfl, hP4, by decide, by decide, by decide, fun l0 f0 H5 nl hP5 b5 e5 len1 len5 bf => ?_⟩⟩
      have nlp : l0 ≠ p := (hP4.ne nl).1.symm
      have ek5 := keepF b5 hP4 ek
      have pr5 := prk.tk (tk_but b5 hP4)
      clear b5 nl ek prk hP4
      refine ⟨_, _, rfl, ?_⟩
      refine ⟨fun v H' => Pot H' p c ∧ H' ka = some (.frz ok (.tup (rs.map V.ref))) ∧ Prs H' rs ks ∧ ∃ (fa : Addr) (fs : List Int), v = .ref fa ∧ H' fa = some (.lst (fs.map V.int)) ∧ fa ≠ p ∧ fs.length ≤ 41 ∧ ∀ z ∈ fs, 0 ≤ z ∧ z ≤ 7, ?_, ?_⟩
      · refine ⟨_, rfl, p, c, _, rfl, hP5, by decide, by decide, fun v H6 v0 v1 hP6 b6 => ?_⟩
        have ek6 := keepF b6 hP5 ek5
        have pr6 := pr5.tk (tk_but b6 hP5)
        have e6 := b6.1 _ _ e5 nlp
        refine ⟨rfl, decide (v = 0), eqI _ 0, ?_⟩
        by_cases z : v = 0
        · rw [decide_eq_true z]
          refine iteT ?_
          refine ⟨_, rfl, by show 1 ≤ sizeLine; decide, fun t1 n1 => ?_⟩
          have s1 := same_upd (o := .lst [V.int 0]) n1
          have e1 : (upd H6 t1 (.lst [V.int 0])) t1 = some (.lst [V.int 0]) := upd_same
          have n1p : t1 ≠ p := (hP6.ne n1).1.symm
          generalize upd H6 t1 (.lst [V.int 0]) = H7 at s1 e1 ⊢
          have hP7 := hP6.same s1
          refine ⟨_, rfl, p, c, _, rfl, hP7, by decide, by decide, fun wz H8 w0 w1 hP8 b8 => ?_⟩
          have e18 := b8.1 _ _ e1 n1p
          have e8 := b8.1 _ _ (s1 _ _ e6) nlp
          have ek8 := keepF b8 hP7 (s1 _ _ ek6)
          have pr8 := (pr6.same s1).tk (tk_but b8 hP7)
          obtain ⟨kw, rfl⟩ : ∃ kw : Nat, wz = (kw : Int) := ⟨wz.toNat, by omega⟩
          refine ⟨t1, _, _, rfl, rfl, e18, by omega, by omega, rep_len kw (by omega), fun t2 n2 => ?_⟩
          rw [fl0, Int.toNat_natCast]
          have s2 := same_upd (o := .lst ((List.replicate kw (0 : Int)).map V.int)) n2
          have e2 : (upd H8 t2 (.lst ((List.replicate kw (0 : Int)).map V.int))) t2 = some (.lst ((List.replicate kw (0 : Int)).map V.int)) := upd_same
          generalize upd H8 t2 (.lst ((List.replicate kw (0 : Int)).map V.int)) = H9 at s2 e2 ⊢
          refine ⟨l0, t2, _, _, rfl, rfl, s2 _ _ e8, e2, Nat.le_of_lt (small1000 (by rw [List.length_map, List.length_map, List.length_replicate]; omega)), fun t3 n3 => ?_⟩
          rw [← List.map_append]
          have s3 := same_upd (o := .lst ((f0 ++ List.replicate kw (0 : Int)).map V.int)) n3
          have e3 : (upd H9 t3 (.lst ((f0 ++ List.replicate kw (0 : Int)).map V.int))) t3 = some (.lst ((f0 ++ List.replicate kw (0 : Int)).map V.int)) := upd_same
          generalize upd H9 t3 (.lst ((f0 ++ List.replicate kw (0 : Int)).map V.int)) = HA at s3 e3 ⊢
          refine ⟨by show 1 ≤ sizeLine; decide, fun t4 n4 => ?_⟩
          have s4 := same_upd (o := .lst [V.int 1]) n4
          have e4 : (upd HA t4 (.lst [V.int 1])) t4 = some (.lst (([1] : List Int).map V.int)) := upd_same
          generalize upd HA t4 (.lst [V.int 1]) = HB at s4 e4 ⊢
          refine ⟨t3, t4, _, _, rfl, rfl, s4 _ _ e3, e4, Nat.le_of_lt (small1000 (by rw [List.length_map, List.length_map, List.length_append, List.length_replicate]; show _ + 1 ≤ 1000; omega)), fun t5 n5 => ?_⟩
          rw [← List.map_append]
          have s5 := same_upd (o := .lst ((f0 ++ List.replicate kw (0 : Int) ++ [1]).map V.int)) n5
          have s25 := ((s2.trans s3).trans s4).trans s5
          refine ⟨hP8.same s25, s25 _ _ ek8, pr8.same s25, t5, _, rfl, upd_same, ?_, ?_, ?_⟩
          · exact ((hP8.same ((s2.trans s3).trans s4)).ne n5).1.symm
          · rw [List.length_append, List.length_append, List.length_replicate]
            show _ + 1 ≤ 41
            omega
          · intro z hz
            rcases List.mem_append.mp hz with hz | hz
            · rcases List.mem_append.mp hz with hz | hz
              · exact bf z hz
              · rw [(List.mem_replicate.mp hz).2]
                decide
            · rw [List.mem_singleton.mp hz]
              decide
        · rw [decide_eq_false z]
          refine iteF ?_
          exact ⟨_, rfl, hP6, ek6, pr6, l0, f0, rfl, e6, nlp, by omega, bf⟩
      rintro v H6 ⟨hP6, ek6, pr6, fa, fs, rfl, e6, nfp, lfs, hfs⟩
      clear hP5 ek5 pr5 e5 len1 len5 bf nlp
      dsimp only [gName]
      -- layout
      refine ⟨_, rfl, fa, fs, rfl, .inl e6, by omega, fun n hn => (hfs n hn).1, trim_len1 _ lfs, fun x H7 s7 nx lx => ?_⟩
      have hP7 := hP6.same s7
      have ek7 := s7 _ _ ek6
      have pr7 := pr6.same s7
      have e7 := s7 _ _ e6
      clear hP6 ek6 pr6 e6 s7 nx
      -- record
      refine ⟨fun v H' => Pot H' p c ∧ H' ka = some (.frz ok (.tup (rs.map V.ref))) ∧ Prs H' rs ks ∧ LayAt d.lay H' x (trimN fs) ∧ H' fa = some (.lst (fs.map V.int)) ∧ ∃ (k i : Int) (es : List PyData), MyDa H' v k i es ∧ RecH ks 2 k i es, ?_, ?_⟩
      · refine ⟨_, rfl, fa, fs, rfl, .inl (.inl e7), _, _, rfl, rfl, _, rfl, ?_⟩
        by_cases z : 0 < fs.sum
        · rw [decide_eq_true z]
          refine iteT ?_
          refine ⟨_, rfl, _, rfl, _, rfl, ⟨p, c, ka, ks, rs, fa, fs, 2, rfl, by decide, hP7, .inr ⟨_, ek7⟩, pr7, hR, e7, nfp, by omega, fun z hz => by have := hfs z hz; omega, sum_pos z, fun v k i es H8 b8 hP8 hd hr => ?_⟩⟩
          obtain ⟨xs, e⟩ := hP7.p
          exact ⟨hP8, keepF b8 hP7 ek7, pr7.tk (tk_but b8 hP7), lx.but e b8, b8.1 _ _ e7 nfp, k, i, es, ⟨hd⟩, hr⟩
        · rw [decide_eq_false z]
          refine iteF ?_
          refine ⟨by show 0 ≤ sizeLine; decide, fun t1 n1 => ⟨by show 3 ≤ sizeLine; decide, fun t2 n2 => ?_⟩⟩
          have s1 := same_upd (o := .tup []) n1
          have s2 := same_upd (o := .tup [V.int 0, V.int 0, V.ref t1]) n2
          have s12 := s1.trans s2
          refine ⟨hP7.same s12, s12 _ _ ek7, pr7.same s12, lx.same s12, s12 _ _ e7, 0, 0, [], ⟨.tup (.inl upd_same) (.cons (.int _) (.cons (.int _) (.cons (.tup (.inl (s2 _ _ upd_same)) .nil) .nil)))⟩, ⟨rfl, by decide, by decide, by decide, by simp [allB], by simp [smL], fun _ z => nomatch z⟩⟩
      rintro rv H8 ⟨hP8, ek8, pr8, lx8, e8, rk, ri, re, hdr, hr⟩
      obtain ⟨hdr⟩ := hdr
      clear hP7 ek7 pr7 e7 lx
      obtain ⟨q0, kr, hks⟩ : ∃ q0 kr, ks = q0 :: kr := by
        obtain ⟨y, hy, _⟩ := hR.leaf
        cases ks with
        | nil => cases hy
        | cons q0 kr => exact ⟨q0, kr, rfl⟩
      have hes : (ks.map fun q => PyData.tuple [.str q.1, .int q.2]) = .tuple [.str q0.1, .int q0.2] :: (kr.map fun q => PyData.tuple [.str q.1, .int q.2]) := by rw [hks]; rfl
      have sz : smB (.str q0.1) = true := sm_tag (hR.all q0 (by rw [hks]; exact List.mem_cons_self)).1
      have lrs : rs.length ≤ 8 := by rw [pr8.length]; exact hR.few
      have rb : RB [p] ka (rs.map V.ref) (ks.map fun q => PyData.tuple [.str q.1, .int q.2]) rv (.tuple [.int rk, .int ri, .tuple re]) H8 := ⟨dk1 hP8, .inr ⟨_, ek8⟩, prs_da (dk1 hP8) pr8, rec_outs (dk1 hP8) hdr hr.all, by rw [List.length_map]; omega⟩
      dsimp only [gName, tSeq, tAsg]
      -- values
      refine lstc_go (tb := tCons (tTup (tCons (tCB (fun xs H Q => ∃ p ys, xs = [V.ref p] ∧ (SqL K H p ys ∨ SqT K H p ys) ∧ Q (V.int (ys.length : Nat)) H) (tCons (tVar 4) tNil)) (tCons (tC (V.int 0)) (tCons (tTup tNil) tNil)))) tNil) (ds := [.tuple [.int rk, .int ri, .tuple re], .none, .int 0, .tuple [], .dict [], .list [], .str "", .tuple [.int 0, .int 0, .tuple []], .tuple [.int 1, .int 0, .tuple [.tuple [.str q0.1]]]]) ?_ rb fun vs1 H9 s9 g9 => ?_
      · exact (pmc_cons (pm_tree rfl) (pmc_cons pm_cnon (pmc_cons pm_cint (pmc_cons (pm_tup pms_nil (by show 0 ≤ 100; decide)) (pmc_cons pm_dict (pmc_cons (pm_lst pms_nil (by show 0 ≤ 100; decide)) (pmc_cons pm_cstr (pmc_cons (pm_tup (pms_cons pm_cint (pms_cons pm_cint (pms_cons (pm_tup pms_nil (by show 0 ≤ 100; decide)) pms_nil))) (by show 3 ≤ 100; decide)) (pmc_cons (pm_tup (pms_cons pm_cint (pms_cons pm_cint (pms_cons (pm_tup (pms_cons (pm_tup (pms_cons (pm_00 rfl hes) pms_nil) (by show 1 ≤ 100; decide)) pms_nil) (by show 1 ≤ 100; decide)) pms_nil))) (by show 3 ≤ 100; decide)) pmc_nil)))))))))
      have A1 : Aw [p] H9 vs1 := aw_of g9 (by
        intro d hd
        simp only [List.mem_cons, List.not_mem_nil, or_false] at hd
        rcases hd with rfl | rfl | rfl | rfl | rfl | rfl | rfl | rfl | rfl
        · exact rec_w hr
        · exact gw_flat (by simp [smB]) (.inl (by simp [noL])) (by simp [nodes]) (by simp [PyData.depth]) (fun _ e => nomatch e)
        · exact gw_flat (by simp [smB]) (.inl (by simp [noL])) (by simp [nodes]) (by simp [PyData.depth]) (fun _ e => nomatch e)
        · exact ⟨by simp [smB, smL], .inl (by simp [noL, noLs]), by simp [nodes, nodesL], by simp [PyData.depth, PyData.depthAll], fun _ _ _ e => by cases e⟩
        · exact gw_flat (by simp [smB]) (.inl (by simp [noL])) (by simp [nodes]) (by simp [PyData.depth, PyData.depthKv]) (fun _ e => nomatch e)
        · exact gw_flat (by simp [smB, smL]) (.inr (by simp [PyData.hasDict, PyData.hasDictAll])) (by simp [nodes, nodesL]) (by simp [PyData.depth, PyData.depthAll]) (fun _ e => nomatch e)
        · exact gw_flat (by decide +kernel) (.inl (by simp [noL])) (by simp [nodes]) (by simp [PyData.depth]) (fun _ e => nomatch e)
        · exact gw_3 (by decide) (by decide) (by simp [smL]) (.inl (by simp [noLs])) (by simp [nodesL]) (by simp [PyData.depthAll])
        · exact gw_3 (by decide) (by decide) (by simp only [smL]; rw [smB.eq_def (.tuple _)]; simp only [smL, sz, Bool.and_self]) (.inl (by simp [noLs, noL])) (by simp [nodesL, nodes]) (by simp [PyData.depthAll, PyData.depth]))
      have l1 : vs1.length = 9 := g9.length
      refine ⟨_, rfl, fa, _, rfl, .inl (.inl (.inl (s9 _ _ e8))), by show 0 ≤ sizeLine; decide, fun t1 n1 => ⟨by show 3 ≤ sizeLine; decide, fun t2 n2 => ?_⟩⟩
      rw [List.length_map]
      have s1 := same_upd (o := .tup []) n1
      have s2 := same_upd (o := .tup [V.int (fs.length : Nat), V.int 0, V.ref t1]) n2
      have e2 : (upd (upd H9 t1 (.tup [])) t2 (.tup [V.int (fs.length : Nat), V.int 0, V.ref t1])) t2 = some (.tup [V.int (fs.length : Nat), V.int 0, V.ref t1]) := upd_same
      have e1 : (upd (upd H9 t1 (.tup [])) t2 (.tup [V.int (fs.length : Nat), V.int 0, V.ref t1])) t1 = some (.tup []) := s2 _ _ upd_same
      generalize upd (upd H9 t1 (.tup [])) t2 (.tup [V.int (fs.length : Nat), V.int 0, V.ref t1]) = HA at s2 e1 e2 ⊢
      have s9A := s1.trans s2
      have s8A := s9.trans s9A
      have dkA := dk1 (hP8.same s8A)
      have A2 : Aw [p] HA (vs1 ++ [V.ref t2]) := (A1.same s9A).app (aw_of (ds := [.tuple [.int (fs.length : Nat), .int 0, .tuple []]]) (.cons (.tup (rd_outs dkA (.inl e2)) (.cons (.int _) (.cons (.int _) (.cons (.tup (rd_outs dkA (.inl e1)) .nil) .nil)))) .nil) (fun d hd => by
        rw [List.mem_singleton.mp hd]
        exact gw_3 (by omega) (by decide) (by simp [smL]) (.inl (by simp [noLs])) (by simp [nodesL]) (by simp [PyData.depthAll])))
      have l2 : (vs1 ++ [V.ref t2]).length = 10 := by rw [List.length_append, l1]; rfl
      refine ⟨fits_few (by rw [List.length_append, l1]; show 9 + 1 ≤ 100; decide), fun W0 nW0 => ?_⟩
      generalize vs1 ++ [V.ref t2] = us0 at A2 l2 ⊢
      have eW0 : (upd HA W0 (.lst us0)) W0 = some (.lst us0) := upd_same
      have sB := same_upd (o := .lst us0) nW0
      generalize upd HA W0 (.lst us0) = HB at eW0 sB ⊢
      have s8B := s8A.trans sB
      replace A2 := A2.same sB
      clear A1 g9 s9 s9A s8A dkA e1 e2 s1 s2 n1 n2 sB nW0 l1
      -- three more
      refine ⟨_, rfl, lst_go (ds := [.tuple [.int 1, .int 0, .tuple [.tuple [.list [.str q0.1]]]], .tuple [.int 1, .int 0, .tuple [.tuple [.dict []]]], .tuple [.int 1, .int 0, .tuple [.tuple [.str q0.1, .dict []]]]]) ?_ (by show 3 ≤ 100; decide) (rb.same s8B) fun D2 vs2 HC sC gC nC => ?_⟩
      · exact (pms_cons (pm_tup (pms_cons pm_cint (pms_cons pm_cint (pms_cons (pm_tup (pms_cons (pm_tup (pms_cons (pm_lst (pms_cons (pm_00 rfl hes) pms_nil) (by show 1 ≤ 100; decide)) pms_nil) (by show 1 ≤ 100; decide)) pms_nil) (by show 1 ≤ 100; decide)) pms_nil))) (by show 3 ≤ 100; decide)) (pms_cons (pm_tup (pms_cons pm_cint (pms_cons pm_cint (pms_cons (pm_tup (pms_cons (pm_tup (pms_cons pm_dict pms_nil) (by show 1 ≤ 100; decide)) pms_nil) (by show 1 ≤ 100; decide)) pms_nil))) (by show 3 ≤ 100; decide)) (pms_cons (pm_tup (pms_cons pm_cint (pms_cons pm_cint (pms_cons (pm_tup (pms_cons (pm_tup (pms_cons (pm_00 rfl hes) (pms_cons pm_dict pms_nil)) (by show 2 ≤ 100; decide)) pms_nil) (by show 1 ≤ 100; decide)) pms_nil))) (by show 3 ≤ 100; decide)) pms_nil)))
      have A3 : Aw [p] HC vs2 := aw_of gC (by
        intro d hd
        simp only [List.mem_cons, List.not_mem_nil, or_false] at hd
        rcases hd with rfl | rfl | rfl
        · exact gw_3 (by decide) (by decide) (by simp only [smL]; rw [smB.eq_def (.tuple _)]; simp only [smL]; rw [smB.eq_def (.list _)]; simp only [smL, sz, Bool.and_self]) (.inr (by simp [PyData.hasDictAll, PyData.hasDict])) (by simp [nodesL, nodes]) (by simp [PyData.depthAll, PyData.depth])
        · exact gw_3 (by decide) (by decide) (by simp [smL, smB]) (.inl (by simp [noLs, noL])) (by simp [nodesL, nodes]) (by simp [PyData.depthAll, PyData.depth, PyData.depthKv])
        · exact gw_3 (by decide) (by decide) (by simp only [smL]; rw [smB.eq_def (.tuple _)]; simp only [smL, sz]; simp [smB]) (.inl (by simp [noLs, noL])) (by simp [nodesL, nodes]) (by simp [PyData.depthAll, PyData.depth, PyData.depthKv]))
      have l3 : vs2.length = 3 := gC.length
      have sD := same_upd (o := .lst vs2) nC
      have eD2 : (upd HC D2 (.lst vs2)) D2 = some (.lst vs2) := upd_same
      generalize upd HC D2 (.lst vs2) = HD at sD eD2 ⊢
      have sBD := sC.trans sD
      refine ⟨W0, D2, _, _, rfl, rfl, sBD _ _ eW0, eD2, fits_few (by omega), fun W nW => ?_⟩
      have A4 := (((A2.same sC).app A3).same sD).new (o := .lst (us0 ++ vs2)) nW
      have s8D := s8B.trans sBD
      have hPD := hP8.same s8D
      obtain ⟨npW, ncW⟩ := hPD.ne nW
      have rbW := (rb.same s8D).new (xs := us0 ++ vs2) nW
      have s8E := s8D.trans (same_upd (o := .lst (us0 ++ vs2)) nW)
      have eW : (upd HD W (.lst (us0 ++ vs2))) W = some (.lst (us0 ++ vs2)) := upd_same
      have lW : (us0 ++ vs2).length = 13 := by rw [List.length_append]; omega
      have nWka : ka ≠ W := ne_of_none (s8D _ _ ek8) nW
      have nWfa : fa ≠ W := ne_of_none (s8D _ _ e8) nW
      generalize upd HD W (.lst (us0 ++ vs2)) = HE at A4 rbW s8E eW ⊢
      generalize us0 ++ vs2 = us at A4 eW lW ⊢
      have hPE := hP8.same s8E
      have ekE := s8E _ _ ek8
      have prE := pr8.same s8E
      have lxE := lx8.same s8E
      have eE := s8E _ _ e8
      have hdE := rbW.tr
      clear s8D s8E rb rbW nW hPD A2 A3 s8B sBD sC sD gC nC eD2 eW0 hP8 ek8 pr8 lx8 e8 l3 l2 hdr
      have mW : W ∈ [W, p] := List.mem_cons_self
      have mp : p ∈ [W, p] := List.mem_cons_of_mem _ List.mem_cons_self
      refine ⟨9, rfl, by decide, by decide, for_range (n := 9) (fun m σ H' => Pot H' p c ∧ H' ka = some (.frz ok (.tup (rs.map V.ref))) ∧ Prs H' rs ks ∧ LayAt d.lay H' x (trimN fs) ∧ H' fa = some (.lst (fs.map V.int)) ∧ My2 H' W p rv rk ri re ∧ (∃ us : List V, H' W = some (.lst us) ∧ us.length = 13 + m ∧ Aw [W, p] H' us) ∧ ∃ w2 w8 w9 wa wb : Option V, σ = [some (.ref a), some (.ref p), w2, some (.ref ka), some (.ref fa), some (.ref x), some rv, some (.ref W), w8, w9, wa, wb]) ⟨hPE, ekE, prE, lxE, eE, ⟨hdE⟩, ⟨us, eW, lW, A4⟩, _, _, _, _, _, rfl⟩ ?_ ?_⟩
      · rintro m σ H' hm ⟨hP1, ek1, pr1, lx1, e1, ⟨hd1⟩, ⟨us, eW1, lu, A1⟩, w2, w8, w9, wa, wb, rfl⟩
        have dkW : Dk [W, p] H' := fun b hb => by
          simp only [List.mem_cons, List.not_mem_nil, or_false] at hb
          rcases hb with rfl | rfl
          · exact ⟨_, eW1⟩
          · exact hP1.p
        refine ⟨_, rfl, .inl ⟨rfl, _, .inl (.inl eW1)⟩, _, rfl, _, rfl, _, rfl, ⟨[W, p], p, c, ka, ks, rs, rv, rk, ri, re, rfl, mp, dkW, hP1, .inr ⟨_, ek1⟩, pr1, hR, hd1, hr, fun v dv H2 b2 hP2 hdv gdv => ?_⟩⟩
        have eW2 := b2.1 _ _ eW1 (Ne.symm npW)
        obtain ⟨pxs, ep⟩ := hP1.p
        have tkU : TK H2 (upd H2 W (.lst (us ++ [v]))) := tk_upd eW2
        refine ⟨W, us, _, rfl, rfl, eW2, small1000 (by omega), hP2.upd npW ncW, ?_, (pr1.tk (tk_but b2 hP1)).tk tkU, (lx1.but ep b2).upd eW2, ?_, ⟨?_⟩, ⟨us ++ [v], upd_same, ?_, ?_⟩, _, _, _, _, _, rfl⟩
        · rw [upd_ne nWka]
          exact keepF b2 hP1 ek1
        · rw [upd_ne nWfa]
          exact b2.1 _ _ e1 nfp
        · rw [outs_upd mW]
          exact hd1.same (outs_but mp b2)
        · rw [List.length_append, lu]
          rfl
        · exact ((A1.but mp b2).app (aw_of (.cons hdv .nil) (fun d hd => by rw [List.mem_singleton.mp hd]; exact gdv.w))).put mW
      · rintro σ H' ⟨hP1, ek1, pr1, lx1, e1, ⟨hd1⟩, ⟨us, eW1, lu, A1⟩, w2, w8, w9, wa, wb, rfl⟩
        refine ⟨_, rfl, W, rfl, ⟨_, .inl (.inl eW1)⟩, ?_⟩
        refine for_it (walk_list (xs := us)) (fun i σ H => Same H' H ∧ ∃ w9 wa wb : Option V, σ = [some (.ref a), some (.ref p), w2, some (.ref ka), some (.ref fa), some (.ref x), some rv, some (.ref W), w8, w9, wa, wb]) ⟨same_rfl H', _, _, _, rfl⟩ (fun i σ H _ h => .inl (.inl (h.1 _ _ eW1))) ?_ ?_
        · rintro i v σ H4 H5 hi ⟨s4, w9, wa, wb, rfl⟩ ⟨rfl, ex⟩
          obtain ⟨dv, hxO, gw⟩ := A1 v (List.mem_of_getElem? ex)
          have hx5 := (hxO.same (outs_sub (L := [W, p]))).same s4
          have nfew : nodes dv ≤ 100000 := Nat.le_trans gw.2.2.1 (by decide)
          refine ⟨_, rfl, rd_gw hx5 gw ?_⟩
          refine ⟨_, rfl, _, rfl, _, rfl, ⟨ka, ks, rs, fa, fs, v, dv, rfl, .inr ⟨_, s4 _ _ ek1⟩, pr1.same s4, hR, s4 _ _ e1, hx5, gw.1, gw.2.2.2.2, nfew, fun H6 s6 => ?_⟩⟩
          refine ⟨_, _, rfl, ?_⟩
          have s46 := s4.trans s6
          have hx6 := hx5.same s6
          refine ⟨_, rfl, _, rfl, _, rfl, ⟨ka, ks, x, trimN fs, v, dv, rfl, ⟨rs, ok, s46 _ _ ek1, nok, pr1.same s46⟩, hR.nd, lx1.same s46, hx6, nfew, fun H7 s7 => ?_⟩⟩
          refine rd_bl ?_
          refine ⟨_, rfl, rd_bl ?_⟩
          refine ⟨rfl, false, ne_self _, iteF ?_⟩
          have hx7 := hx6.same s7
          have s47 := s46.trans s7
          refine ⟨_, rfl, rd_gw hx7 gw ?_⟩
          refine ⟨_, rfl, rfl, false, ne_self _, iteF ?_⟩
          refine ⟨_, rfl, _, rfl, ?_⟩
          cases hb : recB ks (trimN fs) dv with
          | false =>
            refine iteF ?_
            refine iteF ?_
            exact ⟨s47, _, _, _, rfl⟩
          | true =>
            refine iteT ?_
            obtain ⟨k2, i2, es2, rfl, all2⟩ := recB_true hb
            have few2 : nodesL es2 ≤ 100000 := by
              simp only [nodes, nodesL] at nfew
              omega
            refine ⟨_, rfl, ⟨ks, v, _, _, es2, rfl, hx7, all2, few2, fun H8 s8 => ?_⟩⟩
            have hx8 := hx7.same s8
            cases hx8 with
            | @tup b xs _ e h =>
              obtain ⟨v0, v1, v2, _, _, _, rfl, e3, h0, h1, h2⟩ := three h (by rw [h.length]; rfl)
              cases e3
              cases h2 with
              | @tup t2 ys _ e2 hys =>
                refine ⟨_, rfl, b, _, _, .ref t2, rfl, rfl, .inl e, atI_nat (j := 2) rfl, ⟨t2, ks, ys, es2, rfl, e2, hys, all2, few2, fun H9 s9 => ?_⟩⟩
                refine ⟨rfl, false, ne_self _, iteF ?_⟩
                exact ⟨(s47.trans s8).trans s9, _, _, _, rfl⟩
        · rintro σ H2 ⟨s2, w9, wa, wb, rfl⟩
          exact ⟨hP1.same s2, _, _, _, _, _, _, _, _, _, _, rfl⟩
    · rintro σ H6 ⟨hP6, u2, u3, u4, u5, u6, u7, u8, u9, ua, ub, rfl⟩
      exact q H6
end
end My

namespace My
open PySem PySem.Spec PyProof.Rows L2
/-! ### the facts of the text -/
abbrev mroVE (C LE : Addr) : List Value := [.ref C, .ref LE, .type "ValueError", .type "Exception", .type "BaseException", .type "object"]
/-- what stands of each of the sixteen classes -/
structure CK (K : PySem.W.Frag) (C LE : Addr) : Prop where
  m : ∃ cd, PySem.W.clsIn K C = some cd ∧ cd.mro = mroVE C LE
  t : PySem.W.typeIn K (.ref C) = some (.type "type")
  k : PySem.W.keepIn K (.ref C) = true
  hg : PySem.W.findIn K (.ref C) "__getattribute__" = some (some (.builtin "BaseException.__getattribute__"))
  hk : PySem.W.findIn K (.ref C) "__getattr__" = some none
  hd : PySem.W.hasDictIn K C = true
  ha : PySem.W.findIn K (.ref C) "__class__" = some (some (.builtin "object.__class__"))
theorem ck_mk {K : PySem.W.Frag} {C LE : Addr} {cd : ClassData} (m : PySem.W.clsIn K C = some cd) (r : cd.mro = mroVE C LE) (t : PySem.W.typeIn K (.ref C) = some (.type "type")) (k : PySem.W.keepIn K (.ref C) = true)
    (hg : PySem.W.findIn K (.ref C) "__getattribute__" = some (some (.builtin "BaseException.__getattribute__"))) (hk : PySem.W.findIn K (.ref C) "__getattr__" = some none) (hd : PySem.W.hasDictIn K C = true) (ha : PySem.W.findIn K (.ref C) "__class__" = some (some (.builtin "object.__class__"))) : CK K C LE := ⟨⟨cd, m, r⟩, t, k, hg, hk, hd, ha⟩
theorem some_cls {K : PySem.W.Frag} {C : Addr} {cd : ClassData} (m : PySem.W.clsIn K C = some cd) : ∃ cd, PySem.W.clsIn K C = some cd := ⟨cd, m⟩
theorem CK.mro {K : PySem.W.Frag} {C LE : Addr} (h : CK K C LE) (v : Value) : PySem.W.mroIn K C v = some ((mroVE C LE).contains v) := by
  obtain ⟨cd, e, r⟩ := h.m
  unfold PySem.W.mroIn
  rw [e, Option.bind_some, r]
  rfl
theorem CK.exc {K : PySem.W.Frag} {C LE : Addr} (h : CK K C LE) (hn : PySem.W.specialIn K (.builtin "object.__class__") "__get__" = some (some (.builtin "getset_descriptor.__get__"))) (ht : PySem.W.takesIn K (.builtin "object.__class__") = some true) : ExcC K C :=
  ⟨h.hg, h.hk, (h.mro _).trans (by rw [show (mroVE C LE).contains (.type "BaseException") = true by simp]), h.hd, h.ha, hn, ht, (h.mro _).trans (by rw [show (mroVE C LE).contains (.type "object") = true by simp])⟩
theorem exm_to {K : PySem.W.Frag} {C D LE : Addr} (hC : CK K C LE) (hD : CK K D LE) : PySem.W.exmOne K (.ref C) (.ref D) = some ((mroVE C LE).contains (.ref D)) := by
  obtain ⟨cd, e, r⟩ := hD.m
  have b1 : (PySem.W.subIn K (.ref D) (.type "BaseException") == some true) = true := by
    rw [show PySem.W.subIn K (.ref D) (.type "BaseException") = PySem.W.mroIn K D (.type "BaseException") from rfl, hD.mro]
    simp
  have b2 : ((PySem.W.clsIn K D).isSome && PySem.W.typeIn K (.ref D) == some (.type "type")) = true := by
    rw [e, hD.t]
    exact (show (true && (some (Value.type "type") == some (Value.type "type"))) = true by decide +kernel)
  show (if (PySem.W.subIn K (.ref D) (.type "BaseException") == some true) = true then (if ((PySem.W.clsIn K D).isSome && PySem.W.typeIn K (.ref D) == some (.type "type")) = true then PySem.W.subIn K (.ref C) (.ref D) else none) else none) = _
  rw [if_pos b1, if_pos b2]
  exact hC.mro _
theorem CK.xf {K : PySem.W.Frag} {C LE : Addr} (h : CK K C LE) : XfC K C := ⟨h.hg, h.hk, (h.mro _).trans (by rw [show (mroVE C LE).contains (.type "BaseException") = true by simp]), h.hd⟩
section
variable {P : Program} {w : World} {K : PySem.W.Frag} {mg : Str → Option Value} {base : Heap}
theorem sup_mk {h : Heap} {x qual : Str} {st : Stmt} {C LE fI cc cda : Addr} {oc doc pm ct : Value} {od an : Option Addr} {osl : Array (Option Value)} {nm q : Str} {N : Addr} {bs bm : List Value} {sn : List Str} {sub : List Value} {ab : Bool} {col : Option Bool} {dd : Option Addr} {k0 k1 k2 k3 k5 : Option Value}
    {ccl : Value} {cdd : Option Addr} {vs : Array Value} {ccs : Array (Option Value)} {file : Str} {tf : Tok} {cl : Value} {cld : Option Addr} {csl : Array (Option Value)} (X : K.In h) (G : h.Ns mainGlobals mg) (c : CK K C LE)
    (gC : PySem.W.nsIn K mainGlobals x = some (some (.ref C))) (lC : K.lookup C = some (excClassObj nm q C N bs bm true sn sub ab col dd k0 k1 k2 k3 k5 "ValueError.__new__")) (rv : PySem.HandSPX.refsVE bm = true)
    (sa : PySem.W.findIn K (.ref C) "__setattr__" = some (some (.builtin "object.__setattr__"))) (iC : PySem.W.findIn K (.ref C) "__init__" = some (some (.ref fI))) (tI : PySem.W.typeIn K (.ref fI) = some (.type "function"))
    (lI : K.lookup fI = some ⟨oc, od, .func (PySem.W.ksFn "__init__" qual (defArgs st) (defBody st) (defScope st) .none .none doc pm an (.ref cda) ct cc), osl⟩) (cdq : PySem.W.codeIn K (.ref cda) qual = true) (lc : K.lookup cda = some ⟨ccl, cdd, .fields vs, ccs⟩) (hv : vs[2]? = some (.str file tf)) (hf : ((P.main.file : Str) == file) = true)
    (lcc : K.lookup cc = some ⟨cl, cld, .cell (some (.ref C)), csl⟩) (noS : PySem.W.nsIn K mainGlobals "super" = some none) (anyC : PySem.W.nsIn K cStatics "thirdparty.any" = some none) (supI : PySem.W.ks_superIn K C C "__init__" = some (some (.builtin "ValueError.__init__"))) (noTop : (P.main.scope.names.lookup ("super" : Str)).isSome = false) :
    SupCls P K mg x qual st C fI cc cda (PySem.W.ksFn "__init__" qual (defArgs st) (defBody st) (defScope st) .none .none doc pm an (.ref cda) ct cc) where
  gC := PySem.W.mg_of X G gC
  ox := ⟨⟨nm, q, N, bs, bm, sn, sub, ab, col, dd, k0, k1, k2, k3, k5, lC, rv⟩, sa, (c.mro _).trans (by rw [show (mroVE C LE).contains (.type "BaseException") = true by simp]), c.t, c.k⟩
  iC := iC
  tI := tI
  fn := ⟨oc, od, doc, pm, an, ct, osl, rfl, lI⟩
  cdq := cdq
  code := ⟨ccl, cdd, vs, ccs, file, tf, lc, hv, hf⟩
  cell := ⟨cl, cld, csl, lcc⟩
  sub := (c.mro _).trans (by rw [show (mroVE C LE).contains (.ref C) = true by simp])
  noS := PySem.W.mg_none_of X G noS
  anyC := anyC
  supI := supI
  subV := (c.mro _).trans (by rw [show (mroVE C LE).contains (.type "ValueError") = true by simp])
  noTop := noTop
theorem plain_mk {h : Heap} {x : Str} {C LE : Addr} (X : K.In h) (G : h.Ns mainGlobals mg) (c : CK K C LE) (gC : PySem.W.nsIn K mainGlobals x = some (some (.ref C))) (q : PySem.W.excIn K C [.type "ValueError", .type "Exception", .type "BaseException", .type "object"] "ValueError.__new__" = true) : PlainCls K mg x C := ⟨PySem.W.mg_of X G gC, q, c.k⟩
/-- a def as the top has written it -/
structure DefK (K : PySem.W.Frag) (mg : Str → Option Value) (x : Str) (st : Stmt) (f : Addr) (fd : FuncData) : Prop where
  g : mg x = some (.ref f)
  F : Fun K x x st f fd
theorem def_mk {h : Heap} {x : Str} {st : Stmt} {f : Addr} {oc : Value} {od an : Option Addr} {osl : Array (Option Value)} {kV doc pm cdv ct : Value} (X : K.In h) (G : h.Ns mainGlobals mg) (g : PySem.W.nsIn K mainGlobals x = some (some (.ref f)))
    (l : K.lookup f = some ⟨oc, od, .func (PySem.W.fnOf x x (defArgs st) (defBody st) (defScope st) .none kV doc pm an cdv ct), osl⟩) (c : PySem.W.codeIn K cdv x = true) (k : PySem.W.keepIn K (.ref f) = true) : DefK K mg x st f (PySem.W.fnOf x x (defArgs st) (defBody st) (defScope st) .none kV doc pm an cdv ct) := ⟨PySem.W.mg_of X G g, fun_mk l c k⟩
structure MethK (K : PySem.W.Frag) (C : Addr) (x qual : Str) (st : Stmt) (f : Addr) (fd : FuncData) : Prop where
  i : PySem.W.findIn K (.ref C) x = some (some (.ref f))
  fn : PySem.W.isFn K (.ref f) = true
  F : Fun K x qual st f fd
theorem meth_mk {x qual : Str} {st : Stmt} {C f : Addr} {oc : Value} {od an : Option Addr} {osl : Array (Option Value)} {kV doc pm cdv ct : Value} (i : PySem.W.findIn K (.ref C) x = some (some (.ref f))) (n : PySem.W.isFn K (.ref f) = true)
    (l : K.lookup f = some ⟨oc, od, .func (PySem.W.fnOf x qual (defArgs st) (defBody st) (defScope st) .none kV doc pm an cdv ct), osl⟩) (c : PySem.W.codeIn K cdv qual = true) (k : PySem.W.keepIn K (.ref f) = true) : MethK K C x qual st f (PySem.W.fnOf x qual (defArgs st) (defBody st) (defScope st) .none kV doc pm an cdv ct) := ⟨i, n, fun_mk l c k⟩
structure MethO (K : PySem.W.Frag) (C : Addr) (x qual : Str) (st : Stmt) (f : Addr) (fd : FuncData) : Prop where
  M : OwnM K C x f
  F : Fun K x qual st f fd
theorem metho_mk {x qual : Str} {st : Stmt} {C f : Addr} {oc : Value} {od an : Option Addr} {osl : Array (Option Value)} {kV doc pm cdv ct : Value} (i : PySem.W.findIn K (.ref C) x = some (some (.ref f))) (n : PySem.W.isFn K (.ref f) = true) (fi : PySem.W.fnIn K f = true)
    (l : K.lookup f = some ⟨oc, od, .func (PySem.W.fnOf x qual (defArgs st) (defBody st) (defScope st) .none kV doc pm an cdv ct), osl⟩) (c : PySem.W.codeIn K cdv qual = true) (k : PySem.W.keepIn K (.ref f) = true) : MethO K C x qual st f (PySem.W.fnOf x qual (defArgs st) (defBody st) (defScope st) .none kV doc pm an cdv ct) := ⟨⟨i, n, fi, k⟩, fun_mk l c k⟩
structure PropK (K : PySem.W.Frag) (C : Addr) (x qual : Str) (st : Stmt) (p f : Addr) (fd : FuncData) : Prop where
  M : PropOf K C x p f
  F : Fun K x qual st f fd
theorem propk_mk {x qual : Str} {st : Stmt} {C p f : Addr} {rest : List Value} {oc : Value} {od an : Option Addr} {osl : Array (Option Value)} {kV doc pm cdv ct : Value} (i : PySem.W.findIn K (.ref C) x = some (some (.ref p))) (g : PySem.W.specialIn K (.ref p) "__get__" = some (some (.builtin "property.__get__"))) (t : PySem.W.takesIn K (.ref p) = some true) (r : PySem.W.recIn K p "property" = some (.ref f :: rest))
    (l : K.lookup f = some ⟨oc, od, .func (PySem.W.fnOf x qual (defArgs st) (defBody st) (defScope st) .none kV doc pm an cdv ct), osl⟩) (c : PySem.W.codeIn K cdv qual = true) (k : PySem.W.keepIn K (.ref f) = true) : PropK K C x qual st p f (PySem.W.fnOf x qual (defArgs st) (defBody st) (defScope st) .none kV doc pm an cdv ct) := ⟨⟨i, g, t, ⟨rest, r⟩⟩, fun_mk l c k⟩
structure StatK (K : PySem.W.Frag) (C : Addr) (x qual : Str) (st : Stmt) (p f : Addr) (fd : FuncData) : Prop where
  M : SMet K C (.type "type") x p f
  F : Fun K x qual st f fd
theorem statk_mk {x qual : Str} {st : Stmt} {C p f : Addr} {rest : List Value} {oc : Value} {od an : Option Addr} {osl : Array (Option Value)} {kV doc pm cdv ct : Value} (i : PySem.W.findCls K (.ref C) (.type "type") x = some (.get (.builtin "staticmethod.__get__") (.ref p) .none (.ref C))) (r : PySem.W.recIn K p "staticmethod" = some (.ref f :: rest))
    (l : K.lookup f = some ⟨oc, od, .func (PySem.W.fnOf x qual (defArgs st) (defBody st) (defScope st) .none kV doc pm an cdv ct), osl⟩) (c : PySem.W.codeIn K cdv qual = true) (k : PySem.W.keepIn K (.ref f) = true) : StatK K C x qual st p f (PySem.W.fnOf x qual (defArgs st) (defBody st) (defScope st) .none kV doc pm an cdv ct) := ⟨⟨i, ⟨rest, r⟩, k⟩, fun_mk l c k⟩
theorem kit_self {K : PySem.W.Frag} (C : Addr) : PySem.W.kitOne K (.ref C) (.ref C) = some true := by
  unfold PySem.W.kitOne
  rw [if_pos (by simp)]
theorem kit_int_own {K : PySem.W.Frag} {C : Addr} {T : String} (c : PySem.W.isClsIn K C = true) (t : PySem.W.typeIn K (.ref C) = some (.type "type")) (s : PySem.W.subIn K (.type T) (.ref C) = some false) : PySem.W.kitOne K (.type T) (.ref C) = some false := by
  unfold PySem.W.kitOne
  rw [if_neg (by simp)]
  show (if ((PySem.W.clsIn K C).isSome && PySem.W.typeIn K (.ref C) == some (.type "type")) = true then PySem.W.subIn K (.type T) (.ref C) else none) = _
  rw [if_pos (by rw [t, show (PySem.W.clsIn K C).isSome = true from c]; decide +kernel)]
  exact s
theorem all_mk {h : Heap} {C_TooMany fI cc cda C_No C_Lay LE f_Layoutinit f_law_mixed f_law_deck_of f_law_below f_law_pick f_has_tag f_is_tree f_nodes_ahead f_size_of_forest f_is_integer f_trimmed f_are_factors f_is_record f_size_of_record f_law_some_kind f_law_some_tree f_law_is_tree f_law_some_factors f_law_some_record f_law_is_int f_law_is_record f_law_spoilt f_law_tags_of f_law fm_getitem : Addr} {fd_TooMany fd_Layoutinit fd_law_mixed fd_law_deck_of fd_law_below fd_law_pick fd_has_tag fd_is_tree fd_nodes_ahead fd_size_of_forest fd_is_integer fd_trimmed fd_are_factors fd_is_record fd_size_of_record fd_law_some_kind fd_law_some_tree fd_law_is_tree fd_law_some_factors fd_law_some_record fd_law_is_int fd_law_is_record fd_law_spoilt fd_law_tags_of fd_law fdm_getitem : FuncData} {tD : Tok} {fa : Addr} {g_radd : Addr} {fo ro : Option Value} (X : K.In h) (G : h.Ns mainGlobals mg) (hfa : mg "law" = some (.ref fa))
    (k_TooMany : CK K C_TooMany LE) (k_No : CK K C_No LE) (s_TooMany : CK K C_TooMany LE → SupCls P K mg "TooMany" "TooMany.__init__" i_TooMany C_TooMany fI cc cda fd_TooMany) (no_limit : PySem.W.findIn K (.ref C_TooMany) "limit" = some none)
    (p_No : CK K C_No LE → PlainCls K mg "NoLayout" C_No) (nd : C_No ≠ C_TooMany ∧ C_No ≠ LE)
    (gLay : PySem.W.nsIn K mainGlobals "Layout" = some (some (.ref C_Lay))) (pg : PySem.W.plainGet K C_Lay Str.empty = true) (hd : PySem.W.hasDictIn K C_Lay = true) (po : PySem.W.plainOver K C_Lay = true) (sa : PySem.W.findIn K (.ref C_Lay) "__setattr__" = some (some (.builtin "object.__setattr__")))
    (naF : PySem.W.findIn K (.ref C_Lay) "factors" = some none) (naD : PySem.W.findIn K (.ref C_Lay) "degree" = some none) (mk : PySem.W.makesIn K C_Lay = true) (kp : PySem.W.keepIn K (.ref C_Lay) = true)
    (m_init : MethK K C_Lay "__init__" "Layout.__init__" s_Layoutinit f_Layoutinit fd_Layoutinit) (b_Layoutinit : Binds K fd_Layoutinit ["self", "factors"] [])
    (g_MOST : PySem.W.nsIn K mainGlobals "MOST_DEGREE" = some (some (.int 40 tD)))
    (tyC : PySem.W.typeIn K (.ref C_Lay) = some (.type "type"))
    (clsC : PySem.W.isClsIn K C_Lay = true)
    (ca : PySem.W.findIn K (.ref C_Lay) "__class__" = some (some (.builtin "object.__class__")))
    (cn : PySem.W.specialIn K (.builtin "object.__class__") "__get__" = some (some (.builtin "getset_descriptor.__get__")))
    (ct : PySem.W.takesIn K (.builtin "object.__class__") = some true)
    (cm : PySem.W.mroIn K C_Lay (.type "object") = some true)
    (rdI : PySem.W.readsIn K C_Lay (.type "type") = true)
    (rdG : PySem.W.specialIn K (.ref C_Lay) "__getattribute__" = some (some (.builtin "type.__getattribute__")))
    (fst : PySem.W.selfFirst K C_Lay = true)
    (raR : PySem.W.findIn K (.ref C_Lay) "__radd__" = some (some (.ref g_radd)))
    (raF : PySem.W.findIn K (.type "int") "__add__" = some fo)
    (raO : PySem.W.findIn K (.type "int") "__radd__" = some ro)
    (raS : PySem.W.subIn K (.type "int") (.ref C_Lay) = some false)
    (m_getitem : MethO K C_Lay "__getitem__" "Layout.__getitem__" s_Layoutgetitem fm_getitem fdm_getitem) (bm_getitem : Binds K fdm_getitem ["self", "at"] [])
    (d_law_mixed : DefK K mg "_law_mixed" s_law_mixed f_law_mixed fd_law_mixed)
    (d_law_deck_of : DefK K mg "_law_deck_of" s_law_deck_of f_law_deck_of fd_law_deck_of)
    (d_law_below : DefK K mg "_law_below" s_law_below f_law_below fd_law_below)
    (d_law_pick : DefK K mg "_law_pick" s_law_pick f_law_pick fd_law_pick)
    (d_has_tag : DefK K mg "has_tag" s_has_tag f_has_tag fd_has_tag)
    (d_is_tree : DefK K mg "is_tree" s_is_tree f_is_tree fd_is_tree)
    (d_nodes_ahead : DefK K mg "nodes_ahead" s_nodes_ahead f_nodes_ahead fd_nodes_ahead)
    (d_size_of_forest : DefK K mg "size_of_forest" s_size_of_forest f_size_of_forest fd_size_of_forest)
    (d_is_integer : DefK K mg "is_integer" s_is_integer f_is_integer fd_is_integer)
    (d_trimmed : DefK K mg "trimmed" s_trimmed f_trimmed fd_trimmed)
    (d_are_factors : DefK K mg "are_factors" s_are_factors f_are_factors fd_are_factors)
    (d_is_record : DefK K mg "is_record" s_is_record f_is_record fd_is_record)
    (d_size_of_record : DefK K mg "size_of_record" s_size_of_record f_size_of_record fd_size_of_record)
    (d_law_some_kind : DefK K mg "_law_some_kind" s_law_some_kind f_law_some_kind fd_law_some_kind)
    (d_law_some_tree : DefK K mg "_law_some_tree" s_law_some_tree f_law_some_tree fd_law_some_tree)
    (d_law_is_tree : DefK K mg "_law_is_tree" s_law_is_tree f_law_is_tree fd_law_is_tree)
    (d_law_some_factors : DefK K mg "_law_some_factors" s_law_some_factors f_law_some_factors fd_law_some_factors)
    (d_law_some_record : DefK K mg "_law_some_record" s_law_some_record f_law_some_record fd_law_some_record)
    (d_law_is_int : DefK K mg "_law_is_int" s_law_is_int f_law_is_int fd_law_is_int)
    (d_law_is_record : DefK K mg "_law_is_record" s_law_is_record f_law_is_record fd_law_is_record)
    (d_law_spoilt : DefK K mg "_law_spoilt" s_law_spoilt f_law_spoilt fd_law_spoilt)
    (d_law_tags_of : DefK K mg "_law_tags_of" s_law_tags_of f_law_tags_of fd_law_tags_of)
    (d_law : DefK K mg "law" s_law f_law fd_law)
    (b_law_mixed : Binds K fd_law_mixed ["number", "lap"] [])
    (b_law_deck_of : Binds K fd_law_deck_of ["script"] [])
    (b_law_below : Binds K fd_law_below ["deck", "bound"] [])
    (b_law_pick : Binds K fd_law_pick ["deck", "some"] [])
    (b_has_tag : Binds K fd_has_tag ["numbers", "thing"] [])
    (b_is_tree : Binds K fd_is_tree ["kind", "thing"] [])
    (b_nodes_ahead : Binds K fd_nodes_ahead ["patterns"] [])
    (b_size_of_forest : Binds K fd_size_of_forest ["trees"] [])
    (b_is_integer : Binds K fd_is_integer ["thing"] [])
    (b_trimmed : Binds K fd_trimmed ["factors"] [])
    (b_are_factors : Binds K fd_are_factors ["thing"] [])
    (b_is_record : Binds K fd_is_record ["kind", "layout", "thing"] [])
    (b_size_of_record : Binds K fd_size_of_record ["record"] [])
    (b_law_some_kind : Binds K fd_law_some_kind ["deck", "most"] [])
    (b_law_some_tree : Binds K fd_law_some_tree ["deck", "kind", "deep"] [])
    (b_law_is_tree : Binds K fd_law_is_tree ["kind", "thing"] [])
    (b_law_some_factors : Binds K fd_law_some_factors ["deck", "degree", "most"] [])
    (b_law_some_record : Binds K fd_law_some_record ["deck", "kind", "factors", "deep"] [])
    (b_law_is_int : Binds K fd_law_is_int ["thing"] [])
    (b_law_is_record : Binds K fd_law_is_record ["kind", "factors", "thing"] [])
    (b_law_spoilt : Binds K fd_law_spoilt ["deck", "kind", "record"] [])
    (b_law_tags_of : Binds K fd_law_tags_of ["trees"] [])
    (b_law : Binds K fd_law ["script"] [])
    (n_int : PySem.W.nsIn K mainGlobals "int" = some none)
    (n_range : PySem.W.nsIn K mainGlobals "range" = some none)
    (n_abs : PySem.W.nsIn K mainGlobals "abs" = some none)
    (n_enumerate : PySem.W.nsIn K mainGlobals "enumerate" = some none)
    (n_len : PySem.W.nsIn K mainGlobals "len" = some none)
    (n_isinstance : PySem.W.nsIn K mainGlobals "isinstance" = some none)
    (n_tuple : PySem.W.nsIn K mainGlobals "tuple" = some none)
    (n_str : PySem.W.nsIn K mainGlobals "str" = some none)
    (n_dict : PySem.W.nsIn K mainGlobals "dict" = some none)
    (n_list : PySem.W.nsIn K mainGlobals "list" = some none)
    (n_bool : PySem.W.nsIn K mainGlobals "bool" = some none)
    (n_all : PySem.W.nsIn K mainGlobals "all" = some none)
    (n_repr : PySem.W.nsIn K mainGlobals "repr" = some none)
    (n_sum : PySem.W.nsIn K mainGlobals "sum" = some none)
    (bindL : ∀ (s : Shared) (v : Value), BindsTo s fd_law ⟨[v], []⟩ [("script", v)]) :
    ∃ fd : FuncData, (∀ (s : Shared) (v : Value), BindsTo s fd ⟨[v], []⟩ [("script", v)]) ∧ ∀ base : Heap, K.In base → base.Ns mainGlobals mg → FnG P w K mg base CX0 14 fa fd ["script"] (spLaw K) := by
  have e := hfa.symm.trans d_law.g
  cases e
  refine ⟨fd_law, bindL, fun base _ _ => ?_⟩
  have TD : TxtD mg := { n_int := PySem.W.mg_none_of X G n_int, n_range := PySem.W.mg_none_of X G n_range, n_abs := PySem.W.mg_none_of X G n_abs, n_enumerate := PySem.W.mg_none_of X G n_enumerate, n_len := PySem.W.mg_none_of X G n_len }
  have TT : TxtT mg := { n_isinstance := PySem.W.mg_none_of X G n_isinstance, n_tuple := PySem.W.mg_none_of X G n_tuple, n_len := PySem.W.mg_none_of X G n_len, n_str := PySem.W.mg_none_of X G n_str, n_dict := PySem.W.mg_none_of X G n_dict, n_list := PySem.W.mg_none_of X G n_list, n_int := PySem.W.mg_none_of X G n_int }
  have TM : TxtM mg := { n_range := PySem.W.mg_none_of X G n_range, n_len := PySem.W.mg_none_of X G n_len, n_tuple := PySem.W.mg_none_of X G n_tuple }
  have TF : TxtF mg := { n_isinstance := PySem.W.mg_none_of X G n_isinstance, n_int := PySem.W.mg_none_of X G n_int, n_bool := PySem.W.mg_none_of X G n_bool, n_len := PySem.W.mg_none_of X G n_len, n_list := PySem.W.mg_none_of X G n_list, n_tuple := PySem.W.mg_none_of X G n_tuple, n_all := PySem.W.mg_none_of X G n_all }
  have TR : TxtR mg := { n_isinstance := PySem.W.mg_none_of X G n_isinstance, n_tuple := PySem.W.mg_none_of X G n_tuple, n_len := PySem.W.mg_none_of X G n_len, n_all := PySem.W.mg_none_of X G n_all, n_int := PySem.W.mg_none_of X G n_int, n_bool := PySem.W.mg_none_of X G n_bool }
  have TW : TxtW mg := { n_range := PySem.W.mg_none_of X G n_range, n_enumerate := PySem.W.mg_none_of X G n_enumerate, n_tuple := PySem.W.mg_none_of X G n_tuple }
  have TX : TxtX mg := { n_list := PySem.W.mg_none_of X G n_list }
  have TA : TxtL3 mg := { n_range := PySem.W.mg_none_of X G n_range, n_len := PySem.W.mg_none_of X G n_len, n_repr := PySem.W.mg_none_of X G n_repr, n_sum := PySem.W.mg_none_of X G n_sum }
  have TY : TxtY mg tD := { n_len := PySem.W.mg_none_of X G n_len, g_MOST_DEGREE := PySem.W.mg_of X G g_MOST }
  let d : LayD := { too := ⟨C_TooMany, fI, cc, cda, fd_TooMany⟩, no := C_No, lay := C_Lay }
  have n1 : ∀ A B : Addr, A ≠ B → (Value.ref A == Value.ref B) = false := fun A B z => beq_eq_false_iff_ne.mpr fun q => z (by cases q; rfl)
  have D : LayF P K mg d := {
    too := s_TooMany k_TooMany
    noL := no_limit
    no := p_No k_No
    noB := (k_No.mro _).trans (by rw [show (mroVE C_No LE).contains (.type "BaseException") = true by simp])
    noT := k_No.t
    lay := ⟨pg, hd, po, sa⟩
    gLay := PySem.W.mg_of X G gLay
    exNN := (exm_to k_No k_No).trans (by rw [show (mroVE C_No LE).contains (.ref C_No) = true by simp])
    exTN := (exm_to k_TooMany k_No).trans (by rw [show (mroVE C_TooMany LE).contains (.ref C_No) = false by simp [mroVE, nd.1, nd.2]])
    exTT := (exm_to k_TooMany k_TooMany).trans (by rw [show (mroVE C_TooMany LE).contains (.ref C_TooMany) = true by simp])
    xf := k_TooMany.xf
    naF := naF
    naD := naD }
  have M : Mk K d.lay f_Layoutinit := ⟨mk, m_init.i, m_init.fn, kp⟩
  have G_law_deck_of := ok_deck_of (P := P) (w := w) (base := base) (k := 0) d_law_deck_of.F TD
  have G_law_below := ok_below (P := P) (w := w) (base := base) (k := 0) d_law_below.F TD d_law_mixed.F b_law_mixed d_law_mixed.g
  have G_law_pick := ok_pick (P := P) (w := w) (base := base) (k := 0) d_law_pick.F TD d_law_below.F b_law_below d_law_below.g G_law_below
  have G_is_tree := ok_is_tree (P := P) (w := w) (base := base) (k := 0) d_is_tree.F TT d_has_tag.F b_has_tag d_has_tag.g
  have G_nodes_ahead := ok_ahead (P := P) (w := w) (base := base) (k := 0) d_nodes_ahead.F TT
  have G_size_of_forest := ok_forest (P := P) (w := w) (base := base) (k := 0) d_size_of_forest.F TT d_nodes_ahead.F b_nodes_ahead d_nodes_ahead.g G_nodes_ahead
  have G_law_tags_of := ok_tags_of (P := P) (w := w) (base := base) (k := 0) d_law_tags_of.F TT
  have G_law_some_kind := ok_some_kind (P := P) (w := w) (base := base) (k := 0) d_law_some_kind.F TM d_law_below.F b_law_below d_law_below.g G_law_below d_law_pick.F b_law_pick d_law_pick.g G_law_pick
  have G_law_some_tree := ok_some_tree (P := P) (w := w) (base := base) d_law_some_tree.F TM d_law_pick.F b_law_pick d_law_pick.g G_law_pick b_law_some_tree d_law_some_tree.g 2
  have G_tree1 := ok_some_tree (P := P) (w := w) (base := base) d_law_some_tree.F TM d_law_pick.F b_law_pick d_law_pick.g G_law_pick b_law_some_tree d_law_some_tree.g 1
  have G_law_is_tree := ok_law_tree (P := P) (w := w) (base := base) d_law_is_tree.F TT b_law_is_tree d_law_is_tree.g 8
  have G_is_integer := ok_is_integer (P := P) (w := w) (base := base) (k := 0) d_is_integer.F TF
  have G_trimmed := ok_trimmed (P := P) (w := w) (base := base) (k := 0) d_trimmed.F TF
  have G_are_factors := ok_are_factors (P := P) (w := w) (base := base) (k := 0) d_are_factors.F TF d_is_integer.F b_is_integer d_is_integer.g G_is_integer
  have GI := ok_Layoutinit (P := P) (w := w) (base := base) (k := 0) m_init.F TY D d_are_factors.F b_are_factors d_are_factors.g G_are_factors d_trimmed.F b_trimmed d_trimmed.g G_trimmed
  have RL := mk_of_lay GI b_Layoutinit
  have LG : LayG K d.lay (.type "type") := ⟨kit_self _, kit_int_own clsC tyC raS, ca, cn, ct, cm, ⟨rdI, rdG⟩, fst, ⟨⟨_, raR, .inr ⟨_, rfl⟩⟩, ⟨_, raF⟩, ⟨_, raO⟩, raS⟩⟩
  have R_getitem : FnR P w K mg base CX0 _ _ _ := (ok_getitem (P := P) (w := w) (base := base) (k := 0) m_getitem.F D).raw bm_getitem .nil
  simp only [List.append_nil] at R_getitem
  have G_is_record := ok_is_record (d := d) (P := P) (w := w) (base := base) (k := 0) d_is_record.F TR d_is_integer.F b_is_integer d_is_integer.g G_is_integer d_is_tree.F b_is_tree d_is_tree.g G_is_tree m_getitem.M R_getitem
  have G_size_of_record := ok_size_of_record (P := P) (w := w) (base := base) (k := 0) d_size_of_record.F d_size_of_forest.F b_size_of_forest d_size_of_forest.g G_size_of_forest
  have G_law_is_int := ok_law_is_int (P := P) (w := w) (base := base) (k := 0) d_law_is_int.F TR
  have G_law_is_record := ok_law_is_record (P := P) (w := w) (base := base) (k := 0) d_law_is_record.F TR d_law_is_int.F b_law_is_int d_law_is_int.g G_law_is_int d_law_is_tree.F b_law_is_tree d_law_is_tree.g G_law_is_tree
  have G_law_some_factors := ok_some_factors (P := P) (w := w) (base := base) (k := 0) d_law_some_factors.F TW d_law_below.F b_law_below d_law_below.g G_law_below d_law_pick.F b_law_pick d_law_pick.g G_law_pick
  have G_law_some_record := ok_some_record (n := 2) (P := P) (w := w) (base := base) (k := 0) d_law_some_record.F TW d_law_below.F b_law_below d_law_below.g G_law_below d_law_pick.F b_law_pick d_law_pick.g G_law_pick d_law_some_tree.F b_law_some_tree d_law_some_tree.g G_law_some_tree
  have G_law_spoilt := ok_spoilt (P := P) (w := w) (base := base) (k := 0) d_law_spoilt.F TX d_law_below.F b_law_below d_law_below.g G_law_below d_law_pick.F b_law_pick d_law_pick.g G_law_pick d_law_some_tree.F b_law_some_tree d_law_some_tree.g G_tree1
  exact go_law d_law.F TA D LG ⟨d_law_deck_of.F, b_law_deck_of, d_law_deck_of.g, G_law_deck_of⟩ ⟨d_law_below.F, b_law_below, d_law_below.g, G_law_below⟩ ⟨d_law_pick.F, b_law_pick, d_law_pick.g, G_law_pick⟩ ⟨d_law_some_kind.F, b_law_some_kind, d_law_some_kind.g, G_law_some_kind⟩ ⟨d_law_some_factors.F, b_law_some_factors, d_law_some_factors.g, G_law_some_factors⟩ ⟨d_law_some_record.F, b_law_some_record, d_law_some_record.g, G_law_some_record⟩ ⟨d_law_spoilt.F, b_law_spoilt, d_law_spoilt.g, G_law_spoilt⟩ ⟨d_law_is_record.F, b_law_is_record, d_law_is_record.g, G_law_is_record⟩ ⟨d_is_record.F, b_is_record, d_is_record.g, G_is_record⟩ ⟨d_size_of_record.F, b_size_of_record, d_size_of_record.g, G_size_of_record⟩ ⟨d_law_tags_of.F, b_law_tags_of, d_law_tags_of.g, G_law_tags_of⟩ M RL
end
end My

open PySem PySem.W PyProof.Rows
theorem PySem.Challenge.cw_layoutswap_k33_records_recognized_holds : PySem.Challenge.rw_layoutswap_k33_records_recognized.Holds := by
  w_on; o_law; k_head; (case hw => w_witness2)
  k_fill
  refine My.walk_ofG (l := PySem.Challenge.rw_layoutswap_k33_records_recognized) (n := 63) (k := 14) (x := "script") (sp := My.spLaw) rfl (by decide) rfl ⟨rfl, by decide, by decide⟩ (fun w h Y => PySem.W.kIn_of Y) ?F (fun K H a ns hl hS => ⟨a, ns, rfl, hS, Nat.le_trans hl (by decide), fun _ => rfl⟩)
  case F =>
    intro w mg fa h KX G hmg
    refine' My.all_mk KX G hmg ?k_TooMany ?k_No ?s_TooMany ?no_limit ?p_No ?nd ?gLay ?pg ?hd ?po ?sa ?naF ?naD ?mk ?kp ?m_init ?b_Layoutinit ?g_MOST ?tyC ?clsC ?ca ?cn ?ct ?cm ?rdI ?rdG ?fst ?raR ?raF ?raO ?raS ?m_getitem ?bm_getitem ?d_law_mixed ?d_law_deck_of ?d_law_below ?d_law_pick ?d_has_tag ?d_is_tree ?d_nodes_ahead ?d_size_of_forest ?d_is_integer ?d_trimmed ?d_are_factors ?d_is_record ?d_size_of_record ?d_law_some_kind ?d_law_some_tree ?d_law_is_tree ?d_law_some_factors ?d_law_some_record ?d_law_is_int ?d_law_is_record ?d_law_spoilt ?d_law_tags_of ?d_law ?b_law_mixed ?b_law_deck_of ?b_law_below ?b_law_pick ?b_has_tag ?b_is_tree ?b_nodes_ahead ?b_size_of_forest ?b_is_integer ?b_trimmed ?b_are_factors ?b_is_record ?b_size_of_record ?b_law_some_kind ?b_law_some_tree ?b_law_is_tree ?b_law_some_factors ?b_law_some_record ?b_law_is_int ?b_law_is_record ?b_law_spoilt ?b_law_tags_of ?b_law ?n_int ?n_range ?n_abs ?n_enumerate ?n_len ?n_isinstance ?n_tuple ?n_str ?n_dict ?n_list ?n_bool ?n_all ?n_repr ?n_sum ?bindL
    (case gLay => k_is); (case g_MOST => k_is)
    (case s_TooMany => (intro c; refine' My.sup_mk KX G c ?zzgC ?zzlC ?zzrv ?zzsa ?zziC ?zztI ?zzlI ?zzcdq ?zzlc ?zzhv ?zzhf ?zzlcc ?zznoS ?zzanyC ?zzsupI ?zznoTop; (case zzgC => k_is); (case zzlC => k_is); (case zzrv => decide +kernel); (case zzsa => k_is); (case zziC => k_is); (case zztI => k_is); (case zzlI => k_is); (case zzcdq => k_is); (case zzlc => k_is); (case zzhv => exact rfl); (case zzhf => decide +kernel); (case zzlcc => k_is); (case zznoS => k_is); (case zzanyC => k_is); (case zzsupI => ks_is); (case zznoTop => decide +kernel)))
    (case p_No => (intro c; refine' My.plain_mk KX G c ?zzgC ?zzq; (case zzgC => k_is); (case zzq => k_exc)))
    (case k_TooMany => (refine' My.ck_mk ?zzm ?zzr ?zzt ?zzk ?zzhg ?zzhk ?zzhd ?zzha; (case zzm => k_is); (case zzr => exact rfl); (case zzt => k_is); (case zzk => k_is); (case zzhg => k_is); (case zzhk => k_is); (case zzhd => k_is); (case zzha => k_is)))
    (case k_No => (refine' My.ck_mk ?zzm ?zzr ?zzt ?zzk ?zzhg ?zzhk ?zzhd ?zzha; (case zzm => k_is); (case zzr => exact rfl); (case zzt => k_is); (case zzk => k_is); (case zzhg => k_is); (case zzhk => k_is); (case zzhd => k_is); (case zzha => k_is)))
    (case no_limit => k_is); (case nd => decide); (case pg => k_is); (case hd => k_is); (case po => k_is); (case sa => k_is); (case naF => k_is); (case naD => k_is); (case mk => k_is); (case kp => k_is)
    (case m_init => (refine' My.meth_mk ?zzi ?zzn ?zzl ?zzc ?zzk; (case zzi => k_is); (case zzn => k_is); (case zzl => k_is); (case zzc => k_is); (case zzk => k_is)))
    (case b_Layoutinit => exact .all fun us hl => match us, hl with | [_, _], _ => rfl)
    (case tyC => k_is)
    (case clsC => k_is)
    (case ca => k_is)
    (case cn => k_is)
    (case ct => k_is)
    (case cm => k_is)
    (case rdI => k_is)
    (case rdG => k_is)
    (case fst => k_is)
    (case raR => k_is)
    (case raF => k_is)
    (case raO => k_is)
    (case raS => k_is)
    (case m_getitem => (refine' My.metho_mk ?zzi ?zzn ?zzf ?zzl ?zzc ?zzk; (case zzi => k_is); (case zzn => k_is); (case zzf => k_is); (case zzl => k_is); (case zzc => k_is); (case zzk => k_is)))
    (case bm_getitem => exact .all fun us hl => match us, hl with | [_, _], _ => rfl)
    (case d_law_mixed => (refine' My.def_mk KX G ?zzg ?zzl ?zzc ?zzk; (case zzg => k_is); (case zzl => k_is); (case zzc => k_is); (case zzk => k_is)))
    (case d_law_deck_of => (refine' My.def_mk KX G ?zzg ?zzl ?zzc ?zzk; (case zzg => k_is); (case zzl => k_is); (case zzc => k_is); (case zzk => k_is)))
    (case d_law_below => (refine' My.def_mk KX G ?zzg ?zzl ?zzc ?zzk; (case zzg => k_is); (case zzl => k_is); (case zzc => k_is); (case zzk => k_is)))
    (case d_law_pick => (refine' My.def_mk KX G ?zzg ?zzl ?zzc ?zzk; (case zzg => k_is); (case zzl => k_is); (case zzc => k_is); (case zzk => k_is)))
    (case d_has_tag => (refine' My.def_mk KX G ?zzg ?zzl ?zzc ?zzk; (case zzg => k_is); (case zzl => k_is); (case zzc => k_is); (case zzk => k_is)))
    (case d_is_tree => (refine' My.def_mk KX G ?zzg ?zzl ?zzc ?zzk; (case zzg => k_is); (case zzl => k_is); (case zzc => k_is); (case zzk => k_is)))
    (case d_nodes_ahead => (refine' My.def_mk KX G ?zzg ?zzl ?zzc ?zzk; (case zzg => k_is); (case zzl => k_is); (case zzc => k_is); (case zzk => k_is)))
    (case d_size_of_forest => (refine' My.def_mk KX G ?zzg ?zzl ?zzc ?zzk; (case zzg => k_is); (case zzl => k_is); (case zzc => k_is); (case zzk => k_is)))
    (case d_is_integer => (refine' My.def_mk KX G ?zzg ?zzl ?zzc ?zzk; (case zzg => k_is); (case zzl => k_is); (case zzc => k_is); (case zzk => k_is)))
    (case d_trimmed => (refine' My.def_mk KX G ?zzg ?zzl ?zzc ?zzk; (case zzg => k_is); (case zzl => k_is); (case zzc => k_is); (case zzk => k_is)))
    (case d_are_factors => (refine' My.def_mk KX G ?zzg ?zzl ?zzc ?zzk; (case zzg => k_is); (case zzl => k_is); (case zzc => k_is); (case zzk => k_is)))
    (case d_is_record => (refine' My.def_mk KX G ?zzg ?zzl ?zzc ?zzk; (case zzg => k_is); (case zzl => k_is); (case zzc => k_is); (case zzk => k_is)))
    (case d_size_of_record => (refine' My.def_mk KX G ?zzg ?zzl ?zzc ?zzk; (case zzg => k_is); (case zzl => k_is); (case zzc => k_is); (case zzk => k_is)))
    (case d_law_some_kind => (refine' My.def_mk KX G ?zzg ?zzl ?zzc ?zzk; (case zzg => k_is); (case zzl => k_is); (case zzc => k_is); (case zzk => k_is)))
    (case d_law_some_tree => (refine' My.def_mk KX G ?zzg ?zzl ?zzc ?zzk; (case zzg => k_is); (case zzl => k_is); (case zzc => k_is); (case zzk => k_is)))
    (case d_law_is_tree => (refine' My.def_mk KX G ?zzg ?zzl ?zzc ?zzk; (case zzg => k_is); (case zzl => k_is); (case zzc => k_is); (case zzk => k_is)))
    (case d_law_some_factors => (refine' My.def_mk KX G ?zzg ?zzl ?zzc ?zzk; (case zzg => k_is); (case zzl => k_is); (case zzc => k_is); (case zzk => k_is)))
    (case d_law_some_record => (refine' My.def_mk KX G ?zzg ?zzl ?zzc ?zzk; (case zzg => k_is); (case zzl => k_is); (case zzc => k_is); (case zzk => k_is)))
    (case d_law_is_int => (refine' My.def_mk KX G ?zzg ?zzl ?zzc ?zzk; (case zzg => k_is); (case zzl => k_is); (case zzc => k_is); (case zzk => k_is)))
    (case d_law_is_record => (refine' My.def_mk KX G ?zzg ?zzl ?zzc ?zzk; (case zzg => k_is); (case zzl => k_is); (case zzc => k_is); (case zzk => k_is)))
    (case d_law_spoilt => (refine' My.def_mk KX G ?zzg ?zzl ?zzc ?zzk; (case zzg => k_is); (case zzl => k_is); (case zzc => k_is); (case zzk => k_is)))
    (case d_law_tags_of => (refine' My.def_mk KX G ?zzg ?zzl ?zzc ?zzk; (case zzg => k_is); (case zzl => k_is); (case zzc => k_is); (case zzk => k_is)))
    (case d_law => (refine' My.def_mk KX G ?zzg ?zzl ?zzc ?zzk; (case zzg => k_is); (case zzl => k_is); (case zzc => k_is); (case zzk => k_is)))
    (case b_law_mixed => exact .all fun us hl => match us, hl with | [_, _], _ => rfl)
    (case b_law_deck_of => exact .all fun us hl => match us, hl with | [_], _ => rfl)
    (case b_law_below => exact .all fun us hl => match us, hl with | [_, _], _ => rfl)
    (case b_law_pick => exact .all fun us hl => match us, hl with | [_, _], _ => rfl)
    (case b_has_tag => exact .all fun us hl => match us, hl with | [_, _], _ => rfl)
    (case b_is_tree => exact .all fun us hl => match us, hl with | [_, _], _ => rfl)
    (case b_nodes_ahead => exact .all fun us hl => match us, hl with | [_], _ => rfl)
    (case b_size_of_forest => exact .all fun us hl => match us, hl with | [_], _ => rfl)
    (case b_is_integer => exact .all fun us hl => match us, hl with | [_], _ => rfl)
    (case b_trimmed => exact .all fun us hl => match us, hl with | [_], _ => rfl)
    (case b_are_factors => exact .all fun us hl => match us, hl with | [_], _ => rfl)
    (case b_is_record => exact .all fun us hl => match us, hl with | [_, _, _], _ => rfl)
    (case b_size_of_record => exact .all fun us hl => match us, hl with | [_], _ => rfl)
    (case b_law_some_kind => exact .all fun us hl => match us, hl with | [_, _], _ => rfl)
    (case b_law_some_tree => exact .all fun us hl => match us, hl with | [_, _, _], _ => rfl)
    (case b_law_is_tree => exact .all fun us hl => match us, hl with | [_, _], _ => rfl)
    (case b_law_some_factors => exact .all fun us hl => match us, hl with | [_, _, _], _ => rfl)
    (case b_law_some_record => exact .all fun us hl => match us, hl with | [_, _, _, _], _ => rfl)
    (case b_law_is_int => exact .all fun us hl => match us, hl with | [_], _ => rfl)
    (case b_law_is_record => exact .all fun us hl => match us, hl with | [_, _, _], _ => rfl)
    (case b_law_spoilt => exact .all fun us hl => match us, hl with | [_, _, _], _ => rfl)
    (case b_law_tags_of => exact .all fun us hl => match us, hl with | [_], _ => rfl)
    (case b_law => exact .all fun us hl => match us, hl with | [_], _ => rfl)
    (case n_int => k_is); (case n_range => k_is); (case n_abs => k_is); (case n_enumerate => k_is); (case n_len => k_is); (case n_isinstance => k_is); (case n_tuple => k_is); (case n_str => k_is); (case n_dict => k_is); (case n_list => k_is); (case n_bool => k_is); (case n_all => k_is); (case n_repr => k_is); (case n_sum => k_is)
    (case bindL => exact fun s v => .of_eq rfl)
